import PyProof.Rows.All
import Wide.All
import OpenK.AllK
import Wide.FinOn
import PyProof.EqAt
import PyProof.EqKinds
import PyProof.TupleCall
import KE.BitLaws
import PyProof.Rows.SortShellAny
import PyProof.P3In
import KE.KSortTupG
import KE.KItemsList
import PyProof.NeKinds
import PySem.Challenge.RW_widerows_k77_texts_written
-- CHANGE: your row's module here, as the last of these rows
set_option Elab.async false
set_option linter.all false
set_option maxRecDepth 100000
/-! THE HAND LAYER, for ints, bools, texts, own classes, lists, tuples, dicts, comprehensions, walks over dicts, enumerate, zip, reversed, texts, calls, loops. Paste it whole ahead of your own text; what your proof does not reach may be deleted. -/
namespace L2
open PySem PySem.Spec PyProof.Rows

/-- a key: an int or a str -/
abbrev Key := Sum Int Str
def keyIs : Key → Value → Bool
  | .inl k, v => Value.isInt k v
  | .inr x, v => Value.isStrOf x v
def keyH (w : World) : Key → Int
  | .inl k => hashInt k
  | .inr x => hashStr w x
theorem keyIs_shape : ∀ {k : Key} {v : Value}, keyIs k v = true → (∃ i t, k = Sum.inl i ∧ v = Value.int i t) ∨ (∃ x t, k = Sum.inr x ∧ v = Value.str x t)
  | .inl i, v, h => by
    obtain ⟨t, e⟩ := Value.isInt_shape (k := i) (v := v) h
    exact .inl ⟨i, t, rfl, e⟩
  | .inr x, v, h => by
    obtain ⟨t, e⟩ := Value.isStrOf_shape (x := x) (v := v) h
    exact .inr ⟨x, t, rfl, e⟩
theorem keyIs_int (i : Int) (t : Tok) : keyIs (.inl i) (.int i t) = true := by simp [keyIs, Value.isInt]
theorem keyIs_str (x : Str) (t : Tok) : keyIs (.inr x) (.str x t) = true := by simp [keyIs, Value.isStrOf]
theorem key_ll (a b : Int) : decide ((Sum.inl a : Key) = Sum.inl b) = (a == b) := by
  by_cases e : a = b
  · subst e; simp
  · have h : ¬ (Sum.inl a : Key) = Sum.inl b := fun q => e (Sum.inl.inj q)
    rw [decide_eq_false h]
    exact (beq_eq_false_iff_ne.mpr e).symm
theorem key_rr (a b : Str) : decide ((Sum.inr a : Key) = Sum.inr b) = decide (a = b) := by
  by_cases e : a = b
  · subst e; simp
  · have h : ¬ (Sum.inr a : Key) = Sum.inr b := fun q => e (Sum.inr.inj q)
    rw [decide_eq_false h, decide_eq_false e]
theorem key_lr (a : Int) (b : Str) : decide ((Sum.inl a : Key) = Sum.inr b) = false := decide_eq_false (fun q => nomatch q)
theorem key_rl (a : Str) (b : Int) : decide ((Sum.inr a : Key) = Sum.inl b) = false := decide_eq_false (fun q => nomatch q)

def mixKind (prog : Program) (w : World) : PySem.KeyKind prog w Key where
  is := keyIs
  hash := keyH w
  inj := fun v a b ha hb => by
    rcases keyIs_shape ha with ⟨i, t, rfl, rfl⟩ | ⟨x, t, rfl, rfl⟩
    · rcases keyIs_shape hb with ⟨j, u, rfl, e⟩ | ⟨y, u, rfl, e⟩
      · injection e with e1 _; rw [e1]
      · exact nomatch e
    · rcases keyIs_shape hb with ⟨j, u, rfl, e⟩ | ⟨y, u, rfl, e⟩
      · exact nomatch e
      · injection e with e1 _; rw [e1]
  byValue := fun k v h => by
    rcases keyIs_shape h with ⟨i, t, rfl, rfl⟩ | ⟨x, t, rfl, rfl⟩ <;> rfl
  pyHash := fun hv h => by
    rcases keyIs_shape hv with ⟨i, t, rfl, rfl⟩ | ⟨x, t, rfl, rfl⟩
    · exact wpAny_pyHash_int h
    · exact wpAny_pyHash_str h
  eqBool := fun hu hv h => by
    rcases keyIs_shape hu with ⟨i, t, rfl, rfl⟩ | ⟨x, t, rfl, rfl⟩
    · rcases keyIs_shape hv with ⟨j, u, rfl, rfl⟩ | ⟨y, u, rfl, rfl⟩
      · rw [key_ll] at h; exact wpAny_eqBool_int h
      · rw [key_lr] at h; exact SeqAt.EqAt.int_str i t y u _ _ _ _ h
    · rcases keyIs_shape hv with ⟨j, u, rfl, rfl⟩ | ⟨y, u, rfl, rfl⟩
      · rw [key_rl] at h; exact SeqAt.EqAt.str_int x t j u _ _ _ _ h
      · rw [key_rr] at h; exact wpAny_eqBool_str h
  «strs» := fun k x t v h => by
    rcases keyIs_shape h with ⟨i, u, rfl, e⟩ | ⟨y, u, rfl, e⟩
    · exact nomatch e
    · injection e with e1 _
      subst e1
      cases v <;> rfl

theorem mixKind_int (prog : Program) (w : World) (i : Int) (t : Tok) : (mixKind prog w).is (.inl i) (.int i t) = true := keyIs_int i t
theorem mixKind_str (prog : Program) (w : World) (x : Str) (t : Tok) : (mixKind prog w).is (.inr x) (.str x t) = true := keyIs_str x t
end L2

namespace L2
open PySem PySem.Spec PyProof.Rows

/-- a value, without the heap -/
inductive V where
  | non | bl (b : Bool) | int (i : Int) | str (x : Str) | byt (b : Array UInt8) | flt (b : UInt64) | ref (a : Addr) | ty (n : String)
  deriving DecidableEq

def RelV : V → Value → Prop
  | .non, u => u = Value.none
  | .bl b, u => u = Value.bool b
  | .int i, u => ∃ t, u = Value.int i t
  | .str x, u => ∃ t, u = Value.str x t
  | .byt b, u => ∃ t, u = Value.bytes b t
  | .flt b, u => ∃ t, u = Value.float b t
  | .ref a, u => u = Value.ref a
  | .ty n, u => u = Value.type n

abbrev Vals : List V → List Value → Prop := Paired RelV
theorem Vals.length {xs : List V} {us : List Value} (r : Vals xs us) : xs.length = us.length := Paired.length r
theorem Vals.get : ∀ {xs : List V} {us : List Value} {i : Nat} {x : V}, Vals xs us → xs[i]? = some x → ∃ u, us[i]? = some u ∧ RelV x u
  | _, _, _, _, .nil, e => by simp at e
  | _, _, 0, _, .cons r _, e => by simp at e; subst e; exact ⟨_, rfl, r⟩
  | _, _, i + 1, x, .cons _ t, e => by
    obtain ⟨u, h1, h2⟩ := Vals.get (i := i) (x := x) t (by simpa using e)
    exact ⟨u, by simpa using h1, h2⟩
theorem Vals.set {x : V} {u : Value} (r : RelV x u) : ∀ {xs : List V} {us : List Value} (i : Nat), Vals xs us → Vals (xs.set i x) (us.set i u)
  | _, _, _, .nil => .nil
  | _, _, 0, .cons _ t => .cons r t
  | _, _, i + 1, .cons q t => .cons q (Vals.set r i t)
theorem Vals.append : ∀ {xs ys : List V} {us ws : List Value}, Vals xs us → Vals ys ws → Vals (xs ++ ys) (us ++ ws)
  | _, _, _, _, .nil, s => s
  | _, _, _, _, .cons r t, s => .cons r (Vals.append t s)
theorem Vals.take : ∀ {xs : List V} {us : List Value} (n : Nat), Vals xs us → Vals (xs.take n) (us.take n)
  | _, _, 0, _ => .nil
  | _, _, _ + 1, .nil => .nil
  | _, _, n + 1, .cons r t => .cons r (Vals.take n t)
theorem Vals.drop : ∀ {xs : List V} {us : List Value} (n : Nat), Vals xs us → Vals (xs.drop n) (us.drop n)
  | _, _, 0, r => r
  | _, _, _ + 1, .nil => .nil
  | _, _, n + 1, .cons _ t => Vals.drop n t
def RelO : Option V → Option Value → Prop
  | some v, some u => RelV v u
  | none, none => True
  | _, _ => False
def KV {κ : Type} : List (κ × V) → List (κ × Value) → Prop := Paired fun (p : κ × V) (q : κ × Value) => p.1 = q.1 ∧ RelV p.2 q.2

/-- a key of a dict (00_mix): an int or a text -/
def kV : Key → V
  | .inl i => .int i
  | .inr x => .str x

/-- what stands at a tracked address -/
inductive HO where
  /-- a list -/
  | lst (xs : List V)
  /-- a tuple (never changes) -/
  | tup (xs : List V)
  /-- a dict whose keys are ints and texts; one whose keys are tuples of ints and texts (the empty one is both) -/
  | dK (kvs : List (Key × V)) | dT (kvs : List (List Key × V))
  /-- a set of ints: its members, its size -/
  | set (S : Int → Bool) (n : Nat)
  /-- an instance of the class at C, its dict at dx, its attributes -/
  | ins (C dx : Addr) (fs : List (Str × V))
  /-- the dict of the instance at x -/
  | own (x : Addr)
  /-- the dict of an exception -/
  | xd (fs : List (Str × V))
  /-- a bound method, f of x -/
  | met (f x : Addr)
  /-- a range object lo, lo + 1, .. below hi -/
  | rng (lo hi : Int)
  /-- a thing that is known to the object (the script; a dict while a loop walks it): read, never written while it is so -/
  | frz (o : Obj) (u : HO)
  /-- a code object's table -/
  | tbl (ps : Array Value)
  /-- any other thing, by what is true of its one object (a def of one's own: SetO a S n := HO.ext fun h => ..) -/
  | ext (φ : Heap → Prop)

abbrev Hp := Addr → Option HO
def upd (H : Hp) (a : Addr) (o : HO) : Hp := fun b => if b = a then some o else H b
theorem upd_same {H : Hp} {a : Addr} {o : HO} : upd H a o a = some o := by unfold upd; rw [if_pos rfl]
theorem upd_ne {H : Hp} {a b : Addr} {o : HO} (h : b ≠ a) : upd H a o b = H b := by unfold upd; rw [if_neg h]
/-- two objects of different content stand apart -/
theorem ne_of {H : Hp} {a b : Addr} {o u : HO} (h : H a = some o) (h' : H b = some u) (d : o ≠ u) : a ≠ b := by
  intro e; subst e; rw [h] at h'; exact d (Option.some.inj h')
theorem ne_of_none {H : Hp} {a b : Addr} {o : HO} (h : H a = some o) (h' : H b = none) : a ≠ b := by
  intro e; subst e; rw [h] at h'; cases h'

section
variable (P : Program) (w : World)
def ObjOk (H : Hp) (h : Heap) (a : Addr) : HO → Prop
  | .lst xs => xs.length ≤ sizeLine ∧ ∃ (its : List Value) (n : Nat), Vals xs its ∧ h.get? a = some { cls := .type "list", data := .seq its.toArray n }
  | .tup xs => xs.length ≤ sizeLine ∧ ∃ its : List Value, Vals xs its ∧ IsTup h a its.toArray ∧ ∃ o, h.get? a = some o ∧ o.dict = none
  | .dK kvs => kvs.length ≤ sizeLine ∧ (a == sysModules) = false ∧ ∃ vs, KV kvs vs ∧ h.DictOf (mixKind P w) a vs
  | .dT kvs => kvs.length ≤ sizeLine ∧ (a == sysModules) = false ∧ ∃ xs : List (List Key × Addr × Value),
      Paired (fun (p : List Key × V) (q : List Key × Addr × Value) => p.1 = q.1 ∧ H q.2.1 = some (.tup (p.1.map kV)) ∧ RelV p.2 q.2.2) kvs xs ∧
      ∃ o es ep, h.get? a = some o ∧ o.ExactDict ∧ o.data = .dict es ep ∧ es.toList = xs.map (entryOfKey (tupleKind (mixKind P w))) ∧ (xs.map (·.1)).Nodup
  | .set S n => h.SetOf (intKind P w) a S n
  | .ins C dx fs => H dx = some (.own a) ∧ fs.length ≤ 1000 ∧ dx ≠ a ∧ h.get? a = some (PySem.W.instObj C dx) ∧
      ∃ mA, h.Ns1 dx mA ∧ (∀ f, RelO (fs.lookup f) (mA f)) ∧ PySem.Within mA (fs.map (·.1))
  | .own _ => ∃ o, h.get? a = some o
  | .xd fs => ∃ mA, h.Ns1 a mA ∧ ∀ f, RelO (fs.lookup f) (mA f)
  | .rng lo hi => ∃ t u v, h.get? a = some { cls := .type "range", data := .fields #[.int lo t, .int hi u, .int 1 v] }
  | .frz o u => h.get? a = some o ∧ ObjOk H h a u
  | .tbl ps => h.get? a = some { cls := .none, data := .fields ps }
  | .met f x => h.get? a = some (PySem.W.methodObj (.ref f) (.ref x))
  | .ext φ => φ h ∧ (∃ o, h.get? a = some o) ∧ ∀ h1 h2 : Heap, φ h1 → (∀ o, h1.get? a = some o → h2.get? a = some o) → φ h2
/-- the abstract heap is held -/
def HOk (H : Hp) (h : Heap) : Prop := ∀ a o, H a = some o → ObjOk P w H h a o
end

section
variable {P : Program} {w : World} {H H' : Hp} {h h' : Heap} {a : Addr} {o : HO}
theorem ObjOk.lt (x : ObjOk P w H h a o) : a < h.objs.size := by
  cases o with
  | lst xs => obtain ⟨_, _, _, _, e⟩ := x; exact Heap.lt_size e
  | tup xs => obtain ⟨_, _, _, p, _⟩ := x; exact p.lt
  | dK kvs => obtain ⟨_, _, _, _, o, _, _, e, _⟩ := x; exact Heap.lt_size e
  | dT kvs => obtain ⟨_, _, _, _, o, _, _, e, _⟩ := x; exact Heap.lt_size e
  | set S n => obtain ⟨o, _, _, _, e, _⟩ := x; exact Heap.lt_size e
  | ins C dx fs => obtain ⟨_, _, _, e, _⟩ := x; exact Heap.lt_size e
  | own y => obtain ⟨_, e⟩ := x; exact Heap.lt_size e
  | xd fs => obtain ⟨_, ⟨_, _, _, e, _⟩, _⟩ := x; exact Heap.lt_size e
  | rng lo hi => obtain ⟨_, _, _, e⟩ := x; exact Heap.lt_size e
  | frz ob u => obtain ⟨e, _⟩ := x; exact Heap.lt_size e
  | tbl ps => exact Heap.lt_size (show h.get? a = some _ from x)
  | met f y => exact Heap.lt_size (show h.get? a = some _ from x)
  | ext φ => obtain ⟨_, ⟨_, e⟩, _⟩ := x; exact Heap.lt_size e
theorem Paired.mapP {α β : Type} {F G : α → β → Prop} : ∀ {l₁ : List α} {l₂ : List β}, Paired F l₁ l₂ → (∀ a b, F a b → G a b) → Paired G l₁ l₂
  | _, _, .nil, _ => .nil
  | _, _, .cons r t, f => .cons (f _ _ r) (Paired.mapP t f)
/-- what an object's description leans on: its own object, its own dict, the tuples -/
theorem ObjOk.stay (x : ObjOk P w H h a o) (k : ∀ b u, (b = a ∨ H b = some (.own a)) → h.get? b = some u → h'.get? b = some u)
    (ho : ∀ b, H b = some (.own a) → H' b = some (.own a)) (ht : ∀ b xs, H b = some (.tup xs) → H' b = some (.tup xs)) : ObjOk P w H' h' a o := by
  induction o with
  | lst xs => obtain ⟨z, its, n, r, e⟩ := x; exact ⟨z, its, n, r, k _ _ (.inl rfl) e⟩
  | tup xs => obtain ⟨z, its, r, ⟨ob, e, c⟩, o2, e2, c2⟩ := x; exact ⟨z, its, r, ⟨ob, k _ _ (.inl rfl) e, c⟩, o2, k _ _ (.inl rfl) e2, c2⟩
  | dK kvs => obtain ⟨z, y, vs, r, ob, es, ep, e, c⟩ := x; exact ⟨z, y, vs, r, ob, es, ep, k _ _ (.inl rfl) e, c⟩
  | dT kvs =>
    obtain ⟨z, y, xs, r, ob, es, ep, e, c⟩ := x
    exact ⟨z, y, xs, Paired.mapP r fun p q z => ⟨z.1, ht _ _ z.2.1, z.2.2⟩, ob, es, ep, k _ _ (.inl rfl) e, c⟩
  | set S n => obtain ⟨ob, es, ep, t, e, c⟩ := x; exact ⟨ob, es, ep, t, k _ _ (.inl rfl) e, c⟩
  | ins C dx fs =>
    obtain ⟨d, z, ne, e, mA, ⟨od, es, ep, e2, c⟩, r⟩ := x
    exact ⟨ho _ d, z, ne, k _ _ (.inl rfl) e, mA, ⟨od, es, ep, k _ _ (.inr d) e2, c⟩, r⟩
  | own y => obtain ⟨ob, e⟩ := x; exact ⟨ob, k _ _ (.inl rfl) e⟩
  | xd fs => obtain ⟨mA, ⟨od, es, ep, e, c⟩, r⟩ := x; exact ⟨mA, ⟨od, es, ep, k _ _ (.inl rfl) e, c⟩, r⟩
  | rng lo hi => obtain ⟨t, u, v, e⟩ := x; exact ⟨t, u, v, k _ _ (.inl rfl) e⟩
  | frz ob u ih => obtain ⟨e, q⟩ := x; exact ⟨k _ _ (.inl rfl) e, ih q⟩
  | tbl ps =>
    have e : h.get? a = some { cls := .none, data := .fields ps } := x
    show h'.get? a = some { cls := .none, data := .fields ps }
    exact k a _ (.inl rfl) e
  | met f y =>
    have e : h.get? a = some (PySem.W.methodObj (.ref f) (.ref y)) := x
    show h'.get? a = some (PySem.W.methodObj (.ref f) (.ref y))
    exact k a _ (.inl rfl) e
  | ext φ => obtain ⟨p, ⟨o, e⟩, st⟩ := x; exact ⟨st _ _ p fun o q => k _ _ (.inl rfl) q, ⟨o, k _ _ (.inl rfl) e⟩, st⟩
theorem HOk.lt (x : HOk P w H h) (e : H a = some o) : a < h.objs.size := (x a o e).lt
theorem HOk.fresh (x : HOk P w H h) (e : h.objs.size ≤ a) : H a = none := by
  cases q : H a with
  | none => rfl
  | some u => exact absurd (Nat.lt_of_lt_of_le (x.lt q) e) (Nat.lt_irrefl _)
/-- every object of the heap is kept -/
theorem HOk.kept (x : HOk P w H h) (k : ∀ b u, h.get? b = some u → h'.get? b = some u) : HOk P w H h' := fun a o e =>
  (x a o e).stay (fun b u _ q => k b u q) (fun _ q => q) fun _ _ q => q
/-- a new object is laid and tracked -/
theorem HOk.laid (x : HOk P w H h) (k : ∀ b u, h.get? b = some u → h'.get? b = some u) (hp : h.objs.size ≤ a) (new : ObjOk P w (upd H a o) h' a o) : HOk P w (upd H a o) h' := fun b u e => by
  have hn := x.fresh hp
  by_cases hb : b = a
  · subst hb; rw [upd_same] at e; cases e; exact new
  · rw [upd_ne hb] at e
    exact (x b u e).stay (fun c v _ q => k c v q) (fun c q => by rw [upd_ne (ne_of_none q hn)]; exact q) fun c xs q => by rw [upd_ne (ne_of_none q hn)]; exact q
end

/-- what may be read as u: it is u, or a known u -/
def Rd (H : Hp) (a : Addr) (u : HO) : Prop := H a = some u ∨ ∃ o, H a = some (.frz o u)
theorem Rd.of {H : Hp} {a : Addr} {u : HO} (h : H a = some u) : Rd H a u := .inl h
theorem Rd.ok {P : Program} {w : World} {H : Hp} {h : Heap} {a : Addr} {u : HO} (r : Rd H a u) (x : HOk P w H h) : ObjOk P w H h a u := by
  rcases r with r | ⟨o, r⟩
  · exact x a u r
  · obtain ⟨_, q⟩ := x a _ r
    exact q
/-- what may be written -/
def Mut : Option HO → Prop
  | some (.lst _) => True
  | some (.dK _) => True
  | some (.dT _) => True
  | some (.set _ _) => True
  | some (.ins _ _ _) => True
  | some (.ext _) => True
  | _ => False
section
variable {P : Program} {w : World} {H : Hp} {h h' : Heap} {x e : Addr} {o' : HO}
/-- the object at e is changed: x itself, or the dict of the instance x -/
theorem HOk.write (ok : HOk P w H h) (mu : Mut (H x)) (he : e = x ∨ H e = some (.own x)) (k : ∀ b u, b ≠ e → h.get? b = some u → h'.get? b = some u) (heo : ∃ u, h'.get? e = some u)
    (new : ObjOk P w (upd H x o') h' x o') : HOk P w (upd H x o') h' := fun b u q => by
  have nown : ∀ c y, H c = some (.own y) → c ≠ x := fun c y r z => by subst z; rw [r] at mu; exact mu
  have ntup : ∀ c xs, H c = some (.tup xs) → c ≠ x := fun c xs r z => by subst z; rw [r] at mu; exact mu
  by_cases hb : b = x
  · subst hb; rw [upd_same] at q; cases q; exact new
  · rw [upd_ne hb] at q
    by_cases hbe : b = e
    · have q' : H b = some (.own x) := by
        rcases he with z | z
        · exact absurd (hbe.trans z) hb
        · rw [hbe]; exact z
      rw [q] at q'; cases q'
      obtain ⟨v, hv⟩ := heo
      exact ⟨v, by rw [hbe]; exact hv⟩
    · refine (ok b u q).stay (fun c v hc r => k c v ?_ r) (fun c r => by rw [upd_ne (nown c b r)]; exact r) fun c xs r => by rw [upd_ne (ntup c xs r)]; exact r
      rcases hc with rfl | hc
      · exact hbe
      · rintro rfl
        rcases he with z | z
        · exact nown c b hc z
        · rw [hc] at z; cases z; exact hb rfl
end

/-! ### kept unless tracked; of the frames at fs (the callers') the slots may change (an exception that passes writes there); of the records at ex (iterators) nothing is said -/
structure Un (fs ex : List Addr) (H H' : Hp) (h h' : Heap) : Prop where
  keep : ∀ b o, h.get? b = some o → H b = none → b ∉ fs → b ∉ ex → h'.get? b = some o
  slot : ∀ b o, h.get? b = some o → H b = none → b ∈ fs → b ∉ ex → ∃ sl, h'.get? b = some { o with slots := sl }
  free : ∀ b o, h.get? b = some o → H b = none → b ∉ ex → H' b = none
  there : ∀ b o, h.get? b = some o → b ∉ ex → ∃ o', h'.get? b = some o'
  tups : ∀ b xs, H b = some (.tup xs) → H' b = some (.tup xs)
  frzs : ∀ b o u, H b = some (.frz o u) → H' b = some (.frz o u)
  tbls : ∀ b ps, H b = some (.tbl ps) → ∃ more, H' b = some (.tbl (ps ++ more))
section
variable {fs fs' ex ex' : List Addr} {H H1 H2 : Hp} {h h1 h2 h' : Heap} {a x e : Addr} {o : HO}
theorem Un.any (u : Un fs ex H H1 h h1) {b : Addr} {ob : Obj} (q : h.get? b = some ob) (n : H b = none) (hx : b ∉ ex) : ∃ sl, h1.get? b = some { ob with slots := sl } := by
  by_cases hb : b ∈ fs
  · exact u.slot b ob q n hb hx
  · exact ⟨ob.slots, u.keep b ob q n hb hx⟩
theorem Un.trans (a : Un fs ex H H1 h h1) (b : Un fs ex H1 H2 h1 h2) : Un fs ex H H2 h h2 where
  keep := fun c ob q n hc hx => b.keep c ob (a.keep c ob q n hc hx) (a.free c ob q n hx) hc hx
  slot := fun c ob q n hc hx => by
    obtain ⟨sl, e1⟩ := a.slot c ob q n hc hx
    obtain ⟨sl', e2⟩ := b.slot c _ e1 (a.free c ob q n hx) hc hx
    exact ⟨sl', e2⟩
  free := fun c ob q n hx => by
    obtain ⟨o', e1⟩ := a.there c ob q hx
    exact b.free c o' e1 (a.free c ob q n hx) hx
  there := fun c ob q hx => by
    obtain ⟨o', e1⟩ := a.there c ob q hx
    exact b.there c o' e1 hx
  tups := fun c xs q => b.tups c xs (a.tups c xs q)
  frzs := fun c ob xs q => b.frzs c ob xs (a.frzs c ob xs q)
  tbls := fun c ps q => by
    obtain ⟨m1, e1⟩ := a.tbls c ps q
    obtain ⟨m2, e2⟩ := b.tbls c _ e1
    exact ⟨m1 ++ m2, by rw [e2, Array.append_assoc]⟩
theorem Un.kept (k : ∀ b u, h.get? b = some u → h'.get? b = some u) : Un fs ex H H h h' :=
  ⟨fun b ob q _ _ _ => k b ob q, fun b ob q _ _ _ => ⟨ob.slots, k b ob q⟩, fun _ _ _ n _ => n, fun b ob q _ => ⟨ob, k b ob q⟩, fun _ _ q => q, fun _ _ _ q => q, fun _ ps q => ⟨#[], by rw [q]; simp⟩⟩
theorem Un.refl : Un fs ex H H h h := Un.kept fun _ _ q => q
theorem Un.laid (k : ∀ b u, h.get? b = some u → h'.get? b = some u) (hp : h.objs.size ≤ a) (hn : H a = none) : Un fs ex H (upd H a o) h h' where
  keep := fun b u q _ _ _ => k b u q
  slot := fun b u q _ _ _ => ⟨u.slots, k b u q⟩
  free := fun b u q n _ => by rw [upd_ne (Nat.ne_of_lt (Nat.lt_of_lt_of_le (Heap.lt_size q) hp))]; exact n
  there := fun b u q _ => ⟨u, k b u q⟩
  tups := fun b xs q => by rw [upd_ne (ne_of_none q hn)]; exact q
  frzs := fun b u xs q => by rw [upd_ne (ne_of_none q hn)]; exact q
  tbls := fun b ps q => ⟨#[], by rw [upd_ne (ne_of_none q hn), q]; simp⟩
theorem Un.write (mu : Mut (H x)) (he : e = x ∨ H e = some (.own x)) (k : ∀ b u, b ≠ e → h.get? b = some u → h'.get? b = some u) (heo : ∃ u, h'.get? e = some u) : Un fs ex H (upd H x o) h h' := by
  have hx : ∀ b, H b = none → b ≠ x := fun b n z => by subst z; rw [n] at mu; exact mu
  have hb : ∀ b, H b = none → b ≠ e := fun b n z => by
    subst z
    rcases he with r | r
    · exact hx b n r
    · rw [n] at r; cases r
  have hm : ∀ b u, H b = some u → ¬ Mut (some u) → b ≠ x := fun b u q nm z => by subst z; rw [q] at mu; exact nm mu
  refine ⟨fun b u q n _ _ => k b u (hb b n) q, fun b u q n _ _ => ⟨u.slots, k b u (hb b n) q⟩, fun b u q n _ => by rw [upd_ne (hx b n)]; exact n, fun b u q _ => ?_,
    fun b xs q => by rw [upd_ne (hm b _ q fun z => z)]; exact q, fun b u xs q => by rw [upd_ne (hm b _ q fun z => z)]; exact q, fun b ps q => ⟨#[], by rw [upd_ne (hm b _ q fun z => z), q]; simp⟩⟩
  by_cases hbe : b = e
  · subst hbe; exact heo
  · exact ⟨u, k b u hbe q⟩
theorem Un.mono (u : Un fs ex H H1 h h1) (hs : ∀ b ∈ fs, b ∈ fs') (hx : ∀ b ∈ ex, b ∈ ex') : Un fs' ex' H H1 h h1 :=
  ⟨fun b ob q n hb he => u.keep b ob q n (fun z => hb (hs b z)) fun z => he (hx b z), fun _ _ q n _ he => u.any q n fun z => he (hx _ z), fun b ob q n he => u.free b ob q n fun z => he (hx b z), fun b ob q he => u.there b ob q fun z => he (hx b z), u.tups, u.frzs, u.tbls⟩
end

/-! ### the heap without what is tracked -/
def trk (h : Heap) (H : Hp) : List Addr := (List.range h.objs.size).filter fun a => (H a).isSome
def hidT (h : Heap) (H : Hp) : Heap := PySem.W.hideAll h (trk h H)
theorem hidT_size (h : Heap) (H : Hp) : (hidT h H).objs.size = h.objs.size := PySem.W.hideAll_size _ _
theorem hidT_get {h : Heap} {H : Hp} {b : Addr} {o : Obj} (e : h.get? b = some o) (n : H b = none) : (hidT h H).get? b = some o :=
  PySem.W.hideAll_get _ e fun hm => by
    have q : (H b).isSome = true := (List.mem_filter.mp hm).2
    rw [n] at q; simp at q
theorem of_hidT {h : Heap} {H : Hp} {b : Addr} {o : Obj} (e : (hidT h H).get? b = some o) : h.get? b = some o ∧ H b = none := by
  have e' : h.get? b = some o := PySem.W.of_hideAll (trk h H) e
  refine ⟨e', ?_⟩
  cases q : H b with
  | none => rfl
  | some x =>
    have hm : b ∈ trk h H := List.mem_filter.mpr ⟨List.mem_range.mpr (Heap.lt_size e'), by simp [q]⟩
    have z : (hidT h H).get? b = none := PySem.W.hideAll_none (trk h H) hm
    rw [z] at e; cases e

/-! ### OpenK's ledger, filled with every new object but one -/
def allNews (g h : Heap) (L : Addr) : List (Addr × Obj) := (List.range h.objs.size).filterMap fun a => if a = L ∨ (g.get? a).isSome = true then none else (h.get? a).map fun o => (a, o)
def rest (g h : Heap) (L d : Addr) : List (Addr × Obj) := (allNews g h L).filter fun p => decide (p.1 ≠ d)
end L2

namespace L2
open PySem PySem.Spec PyProof.Rows

/-- the module's facts, over the base: the heap at the law's entry without what is tracked there -/
structure Mod (K : PySem.W.Frag) (mg : Str → Option Value) (base : Heap) : Prop where
  kin : K.In base
  glob : base.Ns mainGlobals mg
  blt : ∃ mb, base.Ns builtinsNs mb ∧ ∀ x : Str, x ≠ "__name__" → mb x = bootBuiltins x
  nolimit : base.NoLimit

/-- the context: a def's body (or a comprehension's block) running. base: fixed through the whole law; s₀, H₀: the entry; outer: the frames whose slots others may change (a def's callers); stack: all frames that run;
   ex: iterators that were made ahead of the entry and are walked here (a comprehension's); fn: the names whose cells were made at the entry (a def: all; a comprehension's block: its own); calm: not within an except suite; pn: pins that every state bears; xe: what is wanted of an exception that leaves the code -/
structure Cx where
  prog : Program
  w : World
  K : PySem.W.Frag
  mg : Str → Option Value
  base : Heap
  A : Around
  N : List Str
  s_0 : Shared
  H_0 : Hp
  env : Env
  outer : List Env
  stack : List Env
  ex : List Addr
  fn : Str → Bool
  calm : Bool
  pn : List (Addr × Obj)
  xe : Value → Shared → Prop
/-- the callers' frames -/
def frs (l : List Env) : List Addr := l.filterMap (·.frame)
abbrev Cx.fs (X : Cx) : List Addr := frs X.outer

def Vis (sc : Scope) (x : Str) : Prop := sc.names.lookup x = some .local ∨ sc.names.lookup x = some .cell ∨ sc.names.lookup x = some .free
def Loc (sc : Scope) (x : Str) : Prop := sc.names.lookup x = some .local ∨ sc.names.lookup x = some .cell
def Look (env : Env) (h : Heap) (m : Str → Option Value) (x : Str) (u : Value) : Prop :=
  (env.kindOf x = some .local ∧ m x = some u) ∨ ((env.kindOf x = some .cell ∨ env.kindOf x = some .free) ∧ ∃ c, env.cells.lookup x = some c ∧ h.IsCell c (some u))

structure Cx.Ok (X : Cx) : Prop where
  mod : Mod X.K X.mg X.base
  kind : X.env.scope.kind = .function
  glob : X.env.globals = mainGlobals
  blt : X.env.builtins = builtinsNs
  above : X.s_0.heap.objs.size ≤ X.env.locals
  inj : ∀ x y c, X.env.cells.lookup x = some c → X.env.cells.lookup y = some c → x = y
  has : ∀ x, (X.env.kindOf x = some .cell ∨ X.env.kindOf x = some .free) → ∃ c, X.env.cells.lookup x = some c
  cab : ∀ x c, X.fn x = true → X.env.cells.lookup x = some c → X.s_0.heap.objs.size ≤ c
  hd : X.calm = true → X.A.handled = none
  frames : X.A.frames = some X.stack
  stk : X.stack = X.outer ∨ (X.stack = X.env :: X.outer ∧ X.env.frame = some X.env.locals)
  exf : ∀ b ∈ X.ex, b ≠ X.env.locals ∧ ∀ x c, X.env.cells.lookup x = some c → c ≠ b
  bs : ∀ b o, X.base.get? b = some o → X.s_0.heap.get? b = some o ∧ X.H_0 b = none
  bsz : X.base.objs.size ≤ X.s_0.heap.objs.size
  noex : ∀ b o, X.base.get? b = some o → b ∉ X.ex
  exfs : ∀ b ∈ X.ex, b ∉ X.fs
  funs : X.s_0.heap.FunFrames X.base X.outer
  frf : ∀ b ∈ X.fs, X.H_0 b = none

structure Inv (X : Cx) (pins : List (Addr × Obj)) (σ : List (Option V)) (H : Hp) (s : Shared) : Prop where
  ok : X.Ok
  os : s.os = X.s_0.os
  bare : AllBare s.gens
  base : Un X.fs X.ex X.H_0 H X.s_0.heap s.heap
  loc : ∃ m, s.heap.Ns X.env.locals m ∧ ∀ (i : Nat) (x : Str) (v : V), X.N[i]? = some x → σ[i]? = some (some v) → Vis X.env.scope x → ∃ u, RelV v u ∧ Look X.env s.heap m x u
  cell : ∀ x c, X.env.cells.lookup x = some c → ∃ v, s.heap.IsCell c v
  free : H X.env.locals = none
  freeC : ∀ x c, X.env.cells.lookup x = some c → H c = none
  pin : ∀ p ∈ X.pn ++ pins, s.heap.get? p.1 = some p.2 ∧ H p.1 = none ∧ p.1 ≠ X.env.locals ∧ p.1 ∉ X.fs ∧ ∀ v, p.2.data ≠ .cell v
  hok : HOk X.prog X.w H s.heap
  len : σ.length = X.N.length

section
variable {X : Cx} {pins : List (Addr × Obj)} {σ : List (Option V)} {H H' : Hp} {s : Shared} {h' : Heap}

theorem Cx.Ok.nofr (ok : X.Ok) {b : Addr} {o : Obj} (e : X.base.get? b = some o) : b ∉ X.fs := fun hb => by
  have := (ok.funs.mem hb).1
  rw [e] at this; cases this
theorem Inv.bs (I : Inv X pins σ H s) : ∀ b o, X.base.get? b = some o → s.heap.get? b = some o ∧ H b = none := fun b o e =>
  ⟨I.base.keep b o (I.ok.bs b o e).1 (I.ok.bs b o e).2 (I.ok.nofr e) (I.ok.noex b o e), I.base.free b o (I.ok.bs b o e).1 (I.ok.bs b o e).2 (I.ok.noex b o e)⟩
theorem Inv.bk (I : Inv X pins σ H s) : ∀ b o, X.base.get? b = some o → s.heap.get? b = some o := fun b o e => (I.bs b o e).1
theorem Inv.mod (I : Inv X pins σ H s) : Mod X.K X.mg X.base := I.ok.mod
theorem Inv.kIn (I : Inv X pins σ H s) : X.K.In s.heap := I.ok.mod.kin.keeps I.bk
theorem Inv.nolimit (I : Inv X pins σ H s) : s.heap.NoLimit := I.ok.mod.nolimit.keeps I.bk
theorem Inv.lt (I : Inv X pins σ H s) : X.env.locals < s.heap.objs.size := let ⟨_, hn, _⟩ := I.loc; hn.lt
theorem Inv.sz (I : Inv X pins σ H s) : X.s_0.heap.objs.size ≤ s.heap.objs.size := Nat.le_trans I.ok.above (Nat.le_of_lt I.lt)
theorem Inv.nofs (I : Inv X pins σ H s) {a : Addr} (h : s.heap.objs.size ≤ a) : a ∉ X.fs := fun hb => by
  obtain ⟨_, o, ho, _⟩ := I.ok.funs.mem hb
  exact absurd (Nat.lt_of_lt_of_le (Heap.lt_size ho) (Nat.le_trans I.sz h)) (Nat.lt_irrefl _)
theorem Inv.cne (I : Inv X pins σ H s) : ∀ x c, X.env.cells.lookup x = some c → c ≠ X.env.locals := fun x c e z => by
  obtain ⟨v, o, ho, hd⟩ := I.cell x c e
  obtain ⟨m, ⟨o', es, ep, ho', hd', _⟩, _⟩ := I.loc
  rw [z, ho'] at ho; cases ho; rw [hd'] at hd; cases hd
theorem Inv.funs (I : Inv X pins σ H s) : s.heap.FunFrames X.base X.outer := by
  have all : ∀ (l : List Env), (∀ b ∈ frs l, b ∈ X.fs) → X.s_0.heap.FunFrames X.base l → s.heap.FunFrames X.base l := by
    intro l
    induction l with
    | nil => intro _ _; trivial
    | cons env r ih =>
      intro hs hl
      obtain ⟨hk, ⟨L, o, hf, hn, ho, hd⟩, hr⟩ := hl
      have hL : L ∈ X.fs := hs L (by unfold frs; rw [List.filterMap_cons, hf]; exact List.mem_cons_self)
      obtain ⟨sl, e⟩ := I.base.slot L o ho (I.ok.frf L hL) hL fun z => I.ok.exfs L z hL
      exact ⟨hk, ⟨L, _, hf, hn, e, hd⟩, ih (fun b hb => hs b (by unfold frs; rw [List.filterMap_cons, hf]; exact List.mem_cons_of_mem _ hb)) hr⟩
  exact all X.outer (fun _ hb => hb) I.ok.funs

/-- the frames that run, for a call -/
theorem Inv.stack (I : Inv X pins σ H s) : s.heap.FunFrames X.base X.stack := by
  rcases I.ok.stk with e | ⟨e, hf⟩
  · rw [e]; exact I.funs
  · rw [e]
    obtain ⟨m, hn, _⟩ := I.loc
    refine .cons (by rw [I.ok.kind]; decide) hf hn ?_ I.funs
    exact Heap.get?_none_of_le (Nat.le_trans I.ok.bsz I.ok.above)
theorem Inv.stkSub (I : Inv X pins σ H s) : ∀ b ∈ frs X.stack, b ∈ X.env.locals :: X.fs := fun b hb => by
  rcases I.ok.stk with e | ⟨e, hf⟩
  · rw [e] at hb; exact List.mem_cons_of_mem _ hb
  · rw [e] at hb
    unfold frs at hb
    rw [List.filterMap_cons, hf] at hb
    exact hb
theorem Inv.stkFree (I : Inv X pins σ H s) : ∀ b ∈ frs X.stack, H b = none := fun b hb => by
  rcases List.mem_cons.mp (I.stkSub b hb) with e | hb
  · rw [e]; exact I.free
  · obtain ⟨_, o, ho, _⟩ := I.ok.funs.mem hb
    exact I.base.free b o ho (I.ok.frf b hb) fun z => I.ok.exfs b z hb

/-- THE STEP: the untracked objects but the frame and the records at ch are kept (the callers' frames up to slots), the frame's map is kept, the new abstract heap is held -/
theorem Inv.step {g' : Array GenState} {t' : Nat} {d' : Drawn} {ch : List Addr} (I : Inv X pins σ H s)
    (hch : ∀ b ∈ ch, (b ∈ X.ex ∨ X.s_0.heap.objs.size ≤ b) ∧ b ≠ X.env.locals ∧ (∀ x c, X.env.cells.lookup x = some c → c ≠ b) ∧ ∀ p ∈ X.pn ++ pins, p.1 ≠ b)
    (keep : ∀ b o, b ≠ X.env.locals → b ∉ X.fs → b ∉ ch → s.heap.get? b = some o → H b = none → h'.get? b = some o)
    (slot : ∀ b o, b ≠ X.env.locals → b ∈ X.fs → b ∉ ch → s.heap.get? b = some o → H b = none → ∃ sl, h'.get? b = some { o with slots := sl }) (free : ∀ b o, b ∉ ch → s.heap.get? b = some o → H b = none → H' b = none)
    (there : ∀ b o, b ∉ ch → s.heap.get? b = some o → ∃ o', h'.get? b = some o')
    (tups : ∀ b xs, H b = some (.tup xs) → H' b = some (.tup xs)) (frzs : ∀ b o u, H b = some (.frz o u) → H' b = some (.frz o u)) (tbls : ∀ b ps, H b = some (.tbl ps) → ∃ more, H' b = some (.tbl (ps ++ more)))
    (ns : ∀ m, s.heap.Ns X.env.locals m → h'.Ns X.env.locals m) (hok : HOk X.prog X.w H' h') (hg : AllBare g') :
    Inv X pins σ H' { s with heap := h', gens := g', drawn := d', toks := t' } := by
  have neL : ∀ b o, X.s_0.heap.get? b = some o → b ≠ X.env.locals := fun b o e => Nat.ne_of_lt (Nat.lt_of_lt_of_le (Heap.lt_size e) I.ok.above)
  have neC : ∀ b o, X.s_0.heap.get? b = some o → b ∉ X.ex → b ∉ ch := fun b o e hx hb => by
    rcases (hch b hb).1 with z | z
    · exact hx z
    · exact absurd (Nat.lt_of_lt_of_le (Heap.lt_size e) z) (Nat.lt_irrefl _)
  have cellK : ∀ x c, X.env.cells.lookup x = some c → ∀ v, s.heap.IsCell c v → h'.IsCell c v := fun x c e v ⟨o, ho, hd⟩ => by
    have nch : c ∉ ch := fun z => (hch c z).2.2.1 x c e rfl
    by_cases hc : c ∈ X.fs
    · obtain ⟨sl, q⟩ := slot c o (I.cne x c e) hc nch ho (I.freeC x c e)
      exact ⟨_, q, hd⟩
    · exact ⟨o, keep c o (I.cne x c e) hc nch ho (I.freeC x c e), hd⟩
  refine ⟨I.ok, I.os, hg, ⟨fun b o e n hb hx => ?_, fun b o e n hb hx => ?_, fun b o e n hx => ?_, fun b o e hx => ?_, fun b xs e => tups b xs (I.base.tups b xs e), fun b o xs e => frzs b o xs (I.base.frzs b o xs e), fun b ps e => ?_⟩, ?_, fun x c e => ?_, ?_, fun x c e => ?_, fun p hp => ?_, hok, I.len⟩
  · exact keep b o (neL b o e) hb (neC b o e hx) (I.base.keep b o e n hb hx) (I.base.free b o e n hx)
  · obtain ⟨sl, e1⟩ := I.base.slot b o e n hb hx
    obtain ⟨sl', e2⟩ := slot b _ (neL b o e) hb (neC b o e hx) e1 (I.base.free b o e n hx)
    exact ⟨sl', e2⟩
  · obtain ⟨o', e1⟩ := I.base.there b o e hx
    exact free b o' (neC b o e hx) e1 (I.base.free b o e n hx)
  · obtain ⟨o', e1⟩ := I.base.there b o e hx
    exact there b o' (neC b o e hx) e1
  · obtain ⟨m1, e1⟩ := I.base.tbls b ps e
    obtain ⟨m2, e2⟩ := tbls b _ e1
    exact ⟨m1 ++ m2, by rw [e2, Array.append_assoc]⟩
  · obtain ⟨m, hn, hl⟩ := I.loc
    refine ⟨m, ns m hn, fun i x v e1 e2 e3 => ?_⟩
    obtain ⟨u, r, l⟩ := hl i x v e1 e2 e3
    refine ⟨u, r, ?_⟩
    rcases l with l | ⟨k, c, e, z⟩
    · exact .inl l
    · exact .inr ⟨k, c, e, cellK x c e _ z⟩
  · obtain ⟨v, z⟩ := I.cell x c e
    exact ⟨v, cellK x c e v z⟩
  · obtain ⟨m, ⟨o, _, _, ho, _⟩, _⟩ := I.loc
    exact free _ o (fun z => (hch _ z).2.1 rfl) ho I.free
  · obtain ⟨v, o, ho, hd⟩ := I.cell x c e
    exact free c o (fun z => (hch c z).2.2.1 x c e rfl) ho (I.freeC x c e)
  · obtain ⟨e, n, ne, nf, d⟩ := I.pin p hp
    have nch : p.1 ∉ ch := fun z => (hch p.1 z).2.2.2 p hp rfl
    exact ⟨keep p.1 p.2 ne nf nch e n, free p.1 p.2 nch e n, ne, nf, d⟩
/-- .. where the frame's own object is kept too -/
theorem Inv.un {t' : Nat} (I : Inv X pins σ H s) (u : Un X.fs [] H H' s.heap h') (hok : HOk X.prog X.w H' h') : Inv X pins σ H' { s with heap := h', toks := t' } := by
  obtain ⟨m, ⟨o, es, ep, ho, r⟩, _⟩ := id I.loc
  obtain ⟨sl, hL⟩ := u.any ho I.free (by simp)
  exact I.step (g' := s.gens) (d' := s.drawn) (ch := []) (fun _ z => nomatch z) (fun b o _ hb _ e n => u.keep b o e n hb (by simp)) (fun b o _ hb _ e n => u.slot b o e n hb (by simp)) (fun b o _ e n => u.free b o e n (by simp)) (fun b o _ e => u.there b o e (by simp)) u.tups u.frzs u.tbls (fun m' hm => by
    obtain ⟨o', es', ep', ho', r'⟩ := hm
    rw [ho] at ho'; cases ho'
    exact ⟨_, es', ep', hL, r'⟩) hok I.bare
/-- behind a call (or a comprehension's block): the slots of this frame may have changed too, the records at ch may have turned -/
theorem Inv.call {g' : Array GenState} {t' : Nat} {d' : Drawn} {ch : List Addr} (I : Inv X pins σ H s) (u : Un (frs X.stack) ch H H' s.heap h') (hok : HOk X.prog X.w H' h') (hg : AllBare g')
    (hch : ∀ b ∈ ch, (b ∈ X.ex ∨ X.s_0.heap.objs.size ≤ b) ∧ b ≠ X.env.locals ∧ (∀ x c, X.env.cells.lookup x = some c → c ≠ b) ∧ ∀ p ∈ X.pn ++ pins, p.1 ≠ b) :
    Inv X pins σ H' { s with heap := h', gens := g', drawn := d', toks := t' } := by
  obtain ⟨m, ⟨o, es, ep, ho, r⟩, _⟩ := id I.loc
  obtain ⟨sl, hL⟩ := u.any ho I.free fun z => (hch _ z).2.1 rfl
  exact I.step (ch := ch) hch (fun b o hL hb hc e n => u.keep b o e n (fun z => (List.mem_cons.mp (I.stkSub b z)).elim hL hb) hc) (fun b o _ _ hc e n => u.any e n hc) (fun b o hc e n => u.free b o e n hc) (fun b o hc e => u.there b o e hc) u.tups u.frzs u.tbls (fun m' hm => by
    obtain ⟨o', es', ep', ho', r'⟩ := hm
    rw [ho] at ho'; cases ho'
    exact ⟨_, es', ep', hL, r'⟩) hok hg
/-- an untracked record of ours (an iterator) has turned -/
theorem Inv.turned {t' : Nat} {it : Addr} (I : Inv X pins σ H s) (k : ∀ b o, b ≠ it → s.heap.get? b = some o → h'.get? b = some o) (hn : H it = none) (hL : it ≠ X.env.locals)
    (h1 : it ∈ X.ex ∨ X.s_0.heap.objs.size ≤ it) (h2 : ∀ x c, X.env.cells.lookup x = some c → c ≠ it) (h3 : ∀ p ∈ X.pn ++ pins, p.1 ≠ it) : Inv X pins σ H { s with heap := h', toks := t' } := by
  have nit : ∀ b u, H b = some u → b ≠ it := fun b u e z => by rw [z, hn] at e; cases e
  refine I.step (g' := s.gens) (d' := s.drawn) (ch := [it]) (fun b hb => ?_) (fun b o _ _ hc e _ => k b o (fun z => hc (by simp [z])) e) (fun b o _ _ hc e _ => ⟨o.slots, k b o (fun z => hc (by simp [z])) e⟩) (fun _ _ _ _ n => n)
    (fun b o hc e => ⟨o, k b o (fun z => hc (by simp [z])) e⟩) (fun _ _ e => e) (fun _ _ _ e => e) (fun b ps e => ⟨#[], by rw [e]; simp⟩) (fun m hm => ?_) (fun b u e => ?_) I.bare
  · have e : b = it := by simpa using hb
    subst e
    exact ⟨h1, hL, h2, h3⟩
  · obtain ⟨o, es, ep, ho, r⟩ := hm
    exact ⟨o, es, ep, k _ o (Ne.symm hL) ho, r⟩
  · refine (I.hok b u e).stay (fun c v hc q => k c v ?_ q) (fun _ q => q) fun _ _ q => q
    rcases hc with z | z
    · rw [z]; exact nit b u e
    · exact nit c _ z
theorem Inv.tok (I : Inv X pins σ H s) (t : Nat) : Inv X pins σ H { s with toks := t } := I.un (h' := s.heap) (t' := t) Un.refl I.hok
/-- all objects kept -/
theorem Inv.kept {t' : Nat} (I : Inv X pins σ H s) (k : ∀ b u, s.heap.get? b = some u → h'.get? b = some u) : Inv X pins σ H { s with heap := h', toks := t' } := I.un (Un.kept k) (I.hok.kept k)
/-- a new object laid and tracked -/
theorem Inv.laid {a : Addr} {o : HO} {t' : Nat} (I : Inv X pins σ H s) (k : ∀ b u, s.heap.get? b = some u → h'.get? b = some u) (hp : s.heap.objs.size ≤ a) (new : ObjOk X.prog X.w (upd H a o) h' a o) :
    Inv X pins σ (upd H a o) { s with heap := h', toks := t' } := I.un (Un.laid k hp (I.hok.fresh hp)) (I.hok.laid k hp new)
/-- an object written -/
theorem Inv.write {x e : Addr} {o : HO} {t' : Nat} (I : Inv X pins σ H s) (mu : Mut (H x)) (he : e = x ∨ H e = some (.own x)) (k : ∀ b u, b ≠ e → s.heap.get? b = some u → h'.get? b = some u) (heo : ∃ u, h'.get? e = some u)
    (new : ObjOk X.prog X.w (upd H x o) h' x o) : Inv X pins σ (upd H x o) { s with heap := h', toks := t' } := I.un (Un.write mu he k heo) (I.hok.write mu he k heo new)
/-- forgetting slots, pins -/
theorem Inv.weak {σ' : List (Option V)} (I : Inv X pins σ H s) (hl : σ'.length = σ.length) (w : ∀ (i : Nat) v, σ'[i]? = some (some v) → σ[i]? = some (some v)) : Inv X pins σ' H s :=
  ⟨I.ok, I.os, I.bare, I.base, let ⟨m, hn, hl'⟩ := I.loc; ⟨m, hn, fun i x v e1 e2 e3 => hl' i x v e1 (w i v e2) e3⟩, I.cell, I.free, I.freeC, I.pin, I.hok, hl.trans I.len⟩
theorem Inv.pins_of {pins' : List (Addr × Obj)} (I : Inv X pins σ H s) (h : ∀ p ∈ pins', s.heap.get? p.1 = some p.2 ∧ H p.1 = none ∧ p.1 ≠ X.env.locals ∧ p.1 ∉ X.fs ∧ ∀ v, p.2.data ≠ .cell v) : Inv X pins' σ H s :=
  ⟨I.ok, I.os, I.bare, I.base, I.loc, I.cell, I.free, I.freeC, fun p hp => (List.mem_append.mp hp).elim (fun z => I.pin p (List.mem_append_left _ z)) (h p), I.hok, I.len⟩

theorem nodup_ix {N : List Str} (hN : N.Nodup) {i j : Nat} {x : Str} (a : N[i]? = some x) (b : N[j]? = some x) : i = j := by
  obtain ⟨h1, e1⟩ := List.getElem?_eq_some_iff.mp a
  obtain ⟨h2, e2⟩ := List.getElem?_eq_some_iff.mp b
  exact (List.getElem_inj hN).mp (e1.trans e2.symm)

/-- a name is stored; what changed -/
theorem store_ok2 {M : Model} {A : Around} {E : Value → Shared → Prop} {i : Nat} {x : Str} {v : V} {u : Value} {Q : Unit → Shared → Prop} (I : Inv X pins σ H s) (hN : X.N.Nodup) (hi : X.N[i]? = some x) (hx : Loc X.env.scope x) (r : RelV v u)
    (h : ∀ s', Inv X pins (σ.set i (some v)) H s' → (∃ a, Heap.SameBut a s.heap s'.heap ∧ (a = X.env.locals ∨ X.env.cells.lookup x = some a)) → Q () s') (hf : X.fn x = true ∨ X.env.scope.names.lookup x = some .local := by first | exact .inl rfl | exact .inr rfl | assumption) : wpAny M A (storeName X.env x u) Q E s := by
  obtain ⟨m, hn, hl⟩ := id I.loc
  have hcls : (X.env.scope.kind == .class || (X.env.scope.kind == .module && X.env.locals != X.env.globals)) = false := by rw [I.ok.kind]; rfl
  have hiσ : i < σ.length := by rw [I.len]; exact (List.getElem?_eq_some_iff.mp hi).1
  have cne := I.cne
  have tracked : ∀ {a : Addr} {h' : Heap}, (∃ o, s.heap.get? a = some o ∧ H a = none) → Heap.SameBut a s.heap h' → HOk X.prog X.w H h' := fun {a h'} ha hs b ob e => by
    obtain ⟨_, _, hfree⟩ := ha
    refine (I.hok b ob e).stay (fun c w' hc q => (hs.2 c ?_).trans q) (fun _ q => q) fun _ _ q => q
    rintro rfl
    rcases hc with rfl | hc
    · rw [hfree] at e; cases e
    · rw [hfree] at hc; cases hc
  rcases hx with hk | hk
  · refine wpAny_storeName_local hk hn (fun h' hn' hs => ?_) hcls
    obtain ⟨oL, _, _, hoL, _⟩ := id hn
    refine h _ ⟨I.ok, I.os, I.bare, ⟨fun b o e n hb hx => ?_, fun b o e n hb hx => ?_, I.base.free, fun b o e hx => ?_, I.base.tups, I.base.frzs, I.base.tbls⟩, ⟨_, hn', fun j y v' e1 e2 e3 => ?_⟩, fun y c e => ?_, I.free, I.freeC, fun p hp => ?_, tracked ⟨oL, hoL, I.free⟩ hs, by simpa using I.len⟩ ⟨_, hs, .inl rfl⟩
    · exact (hs.2 b (Nat.ne_of_lt (Nat.lt_of_lt_of_le (Heap.lt_size e) I.ok.above))).trans (I.base.keep b o e n hb hx)
    · obtain ⟨sl, e1⟩ := I.base.slot b o e n hb hx
      exact ⟨sl, (hs.2 b (Nat.ne_of_lt (Nat.lt_of_lt_of_le (Heap.lt_size e) I.ok.above))).trans e1⟩
    · obtain ⟨o', e1⟩ := I.base.there b o e hx
      exact ⟨o', (hs.2 b (Nat.ne_of_lt (Nat.lt_of_lt_of_le (Heap.lt_size e) I.ok.above))).trans e1⟩
    · by_cases hj : j = i
      · subst hj
        rw [hi] at e1; cases e1
        rw [List.getElem?_set_self hiσ] at e2
        cases e2
        exact ⟨u, r, .inl ⟨hk, by simp⟩⟩
      · rw [List.getElem?_set_ne (Ne.symm hj)] at e2
        obtain ⟨u', r', q⟩ := hl j y v' e1 e2 e3
        refine ⟨u', r', ?_⟩
        rcases q with ⟨k, e⟩ | ⟨k, c, e, z⟩
        · refine .inl ⟨k, ?_⟩
          have : y ≠ x := fun e => hj (nodup_ix hN e1 (e ▸ hi))
          simp [this, e]
        · exact .inr ⟨k, c, e, z.sameBut hs (cne y c e)⟩
    · obtain ⟨w', z⟩ := I.cell y c e
      exact ⟨w', z.sameBut hs (cne y c e)⟩
    · obtain ⟨e, n, ne, nf, d⟩ := I.pin p hp
      exact ⟨(hs.2 p.1 ne).trans e, n, ne, nf, d⟩
  · have hfn : X.fn x = true := by
      rcases hf with z | z
      · exact z
      · rw [z] at hk; cases hk
    obtain ⟨c, hc⟩ := I.ok.has x (.inl hk)
    obtain ⟨w', z⟩ := I.cell x c hc
    refine wpAny_storeName_cell I.ok.kind hk hc z (fun h' hc' hs => ?_)
    obtain ⟨oc, hoc, hocd⟩ := id z
    refine h { s with heap := h' } ⟨I.ok, I.os, I.bare, ⟨fun b o e n hb hx => ?_, fun b o e n hb hx => ?_, I.base.free, fun b o e hx => ?_, I.base.tups, I.base.frzs, I.base.tbls⟩, ⟨m, hn.sameBut hs (Ne.symm (cne x c hc)), fun j y v' e1 e2 e3 => ?_⟩, fun y c' e => ?_, I.free, I.freeC, fun p hp => ?_, tracked ⟨oc, hoc, I.freeC x c hc⟩ hs, by simpa using I.len⟩ ⟨c, hs, .inr hc⟩
    · exact (hs.2 b (Nat.ne_of_lt (Nat.lt_of_lt_of_le (Heap.lt_size e) (I.ok.cab x c hfn hc)))).trans (I.base.keep b o e n hb hx)
    · obtain ⟨sl, e1⟩ := I.base.slot b o e n hb hx
      exact ⟨sl, (hs.2 b (Nat.ne_of_lt (Nat.lt_of_lt_of_le (Heap.lt_size e) (I.ok.cab x c hfn hc)))).trans e1⟩
    · obtain ⟨o', e1⟩ := I.base.there b o e hx
      exact ⟨o', (hs.2 b (Nat.ne_of_lt (Nat.lt_of_lt_of_le (Heap.lt_size e) (I.ok.cab x c hfn hc)))).trans e1⟩
    · by_cases hj : j = i
      · subst hj
        rw [hi] at e1; cases e1
        rw [List.getElem?_set_self hiσ] at e2
        cases e2
        exact ⟨u, r, .inr ⟨.inl hk, c, hc, hc'⟩⟩
      · rw [List.getElem?_set_ne (Ne.symm hj)] at e2
        obtain ⟨u', r', q⟩ := hl j y v' e1 e2 e3
        refine ⟨u', r', ?_⟩
        rcases q with q | ⟨k, c', e, z'⟩
        · exact .inl q
        · refine .inr ⟨k, c', e, z'.sameBut hs ?_⟩
          rintro rfl
          exact hj (nodup_ix hN e1 (I.ok.inj _ _ _ e hc ▸ hi))
    · by_cases hcc : c' = c
      · subst hcc; exact ⟨_, hc'⟩
      · obtain ⟨w2, z2⟩ := I.cell y c' e
        exact ⟨w2, z2.sameBut hs hcc⟩
    · obtain ⟨e, n, ne, nf, d⟩ := I.pin p hp
      refine ⟨(hs.2 p.1 ?_).trans e, n, ne, nf, d⟩
      intro q
      rw [q, hoc] at e
      have q' : oc = p.2 := Option.some.inj e
      exact d w' (by rw [← q']; exact hocd)
theorem store_ok {M : Model} {A : Around} {E : Value → Shared → Prop} {i : Nat} {x : Str} {v : V} {u : Value} {Q : Unit → Shared → Prop} (I : Inv X pins σ H s) (hN : X.N.Nodup) (hi : X.N[i]? = some x) (hx : Loc X.env.scope x) (r : RelV v u)
    (h : ∀ s', Inv X pins (σ.set i (some v)) H s' → Q () s') (hf : X.fn x = true ∨ X.env.scope.names.lookup x = some .local := by first | exact .inl rfl | exact .inr rfl | assumption) : wpAny M A (storeName X.env x u) Q E s :=
  store_ok2 I hN hi hx r (fun s' I' _ => h s' I') hf
/-- behind a call or a block, the state as it is -/
theorem Inv.call' {s' : Shared} {ch : List Addr} (I : Inv X pins σ H s) (ho : s'.os = s.os) (u : Un (frs X.stack) ch H H' s.heap s'.heap) (hok : HOk X.prog X.w H' s'.heap) (hg : AllBare s'.gens)
    (hch : ∀ b ∈ ch, (b ∈ X.ex ∨ X.s_0.heap.objs.size ≤ b) ∧ b ≠ X.env.locals ∧ (∀ x c, X.env.cells.lookup x = some c → c ≠ b) ∧ ∀ p ∈ X.pn ++ pins, p.1 ≠ b) : Inv X pins σ H' s' := by
  obtain ⟨h', g', d', t', o'⟩ := s'
  have e : o' = s.os := ho
  subst e
  exact I.call (g' := g') (t' := t') (d' := d') u hok hg hch
end

/-! ### the judgements -/
/-- an exception: its class, its own dict's address (where it has one), the abstract heap behind it -/
abbrev XK := Value → Option Addr → Hp → Prop
abbrev St := List (Option V)
abbrev VK := V → Hp → Prop
/-- an expression's reading; a test's; an argument list's -/
abbrev TE := St → Hp → VK → Prop
abbrev TT := St → Hp → (Bool → Hp → Prop) → Prop
abbrev TA := St → Hp → (List V → Hp → Prop) → Prop
/-- what is wanted behind a statement -/
structure Ends where
  nx : St → Hp → Prop
  rt : VK
  bk : St → Hp → Prop := fun _ _ => False
  ct : St → Hp → Prop := fun _ _ => False
abbrev TS := Ends → St → Hp → Prop

def EP (X : Cx) (pins : List (Addr × Obj)) (σ : St) (Q : VK) (u : Value) (s' : Shared) : Prop := ∃ v H', Inv X pins σ H' s' ∧ RelV v u ∧ Q v H'
def TP (X : Cx) (pins : List (Addr × Obj)) (σ : St) (Q : Bool → Hp → Prop) (b : Bool) (s' : Shared) : Prop := ∃ H', Inv X pins σ H' s' ∧ Q b H'
def AP (X : Cx) (pins : List (Addr × Obj)) (σ : St) (Q : List V → Hp → Prop) (us : List Value) (s' : Shared) : Prop := ∃ vs H', Inv X pins σ H' s' ∧ Vals vs us ∧ Q vs H'
def SP (X : Cx) (pins : List (Addr × Obj)) (D : Ends) (f : Flow) (s' : Shared) : Prop :=
  match f with
  | .next => ∃ σ' H', Inv X pins σ' H' s' ∧ D.nx σ' H'
  | .brk => ∃ σ' H', Inv X pins σ' H' s' ∧ D.bk σ' H'
  | .cont => ∃ σ' H', Inv X pins σ' H' s' ∧ D.ct σ' H'
  | .ret u => ∃ v σ' H', Inv X pins σ' H' s' ∧ RelV v u ∧ D.rt v H'

def PE (X : Cx) (e : Expr) (t : TE) : Prop :=
  ∀ (pins : List (Addr × Obj)) (s : Shared) (σ : St) (H : Hp) (Q : VK), Inv X pins σ H s → t σ H Q → wpAny (model X.prog X.w) X.A (eval e X.env) (EP X pins σ Q) X.xe s
def PT (X : Cx) (e : Expr) (t : TT) : Prop :=
  ∀ (pins : List (Addr × Obj)) (s : Shared) (σ : St) (H : Hp) (Q : Bool → Hp → Prop), Inv X pins σ H s → t σ H Q → wpAny (model X.prog X.w) X.A (isTrue e X.env (eval e X.env)) (TP X pins σ Q) X.xe s
/-- a test whatever its 'whole' is (and, or) -/
def PW (X : Cx) (e : Expr) (t : TT) : Prop :=
  ∀ (whole : Sem Value) (pins : List (Addr × Obj)) (s : Shared) (σ : St) (H : Hp) (Q : Bool → Hp → Prop), Inv X pins σ H s → t σ H Q → wpAny (model X.prog X.w) X.A (isTrue e X.env whole) (TP X pins σ Q) X.xe s
theorem PW.pt {X : Cx} {e : Expr} {t : TT} (h : PW X e t) : PT X e t := h _
/-- an argument list (no star), from the left -/
def PA (X : Cx) (es : List Expr) (t : TA) : Prop :=
  ∀ (pos : Pos) (pins : List (Addr × Obj)) (s : Shared) (σ : St) (H : Hp) (Q : List V → Hp → Prop), Inv X pins σ H s → t σ H Q → wpAny (model X.prog X.w) X.A (spliced (backTo pos (starEach es X.env))) (AP X pins σ Q) X.xe s
def PS (X : Cx) (st : Stmt) (t : TS) : Prop :=
  ∀ (pins : List (Addr × Obj)) (s : Shared) (σ : St) (H : Hp) (D : Ends), Inv X pins σ H s → t D σ H → wpAny (model X.prog X.w) X.A (exec st X.env) (SP X pins D) X.xe s
def PSs (X : Cx) (st : List Stmt) (t : TS) : Prop :=
  ∀ (pins : List (Addr × Obj)) (s : Shared) (σ : St) (H : Hp) (D : Ends), Inv X pins σ H s → t D σ H → wpAny (model X.prog X.w) X.A (execs st X.env) (SP X pins D) X.xe s
/-- weaken the end -/
theorem thn {α : Type} {t : Sem α} {Q Q' : α → Shared → Prop} {M : Model} {A : Around} {E : Value → Shared → Prop} {s : Shared} (h : wpAny M A t Q E s) (hQ : ∀ a s, Q a s → Q' a s) : wpAny M A t Q' E s := wpAny_mono h hQ fun _ _ x => x
end L2

namespace L2
open PySem PySem.Spec PyProof.Rows
section
variable {X : Cx}

/-! ### names and constants -/
def tVar (i : Nat) : TE := fun σ H Q => ∃ v, σ[i]? = some (some v) ∧ Q v H
def tC (v : V) : TE := fun _ H Q => Q v H
theorem pe_var {i : Nat} {x : Str} {pos : Pos} (hN : X.N[i]? = some x) (hv : Vis X.env.scope x) (hd : (x == ("__debug__" : Str)) = false := by decide) (hcd : (x == ("__classdict__" : Str)) = false := by decide) : PE X (.Name x pos) (tVar i) := by
  intro pins s σ H Q I h
  obtain ⟨v, e, h⟩ := h
  obtain ⟨m, hn, hl⟩ := I.loc
  obtain ⟨u, r, l⟩ := hl i x v hN e hv
  have fin : EP X pins σ Q u s := ⟨v, H, I, r, h⟩
  rcases l with ⟨hk, hm⟩ | ⟨hk, c, hc, hcell⟩
  · exact wpAny_Name (wpAny_loadName_local I.ok.kind hk hn hm fin) hd
  · rcases hk with hk | hk
    · exact wpAny_Name (wpAny_loadName_cell I.ok.kind hk hc hcell fin) hd
    · exact wpAny_Name (wpAny_loadName_free I.ok.kind hk hc hcell fin hcd) hd
theorem pe_int {i j pos} : PE X (.Constant (.int i) j pos) (tC (.int i)) := fun _ _ _ H _ I h => wpAny_Constant_int ⟨.int i, H, I.tok _, ⟨_, rfl⟩, h⟩
theorem pe_bl {b j pos} : PE X (.Constant (.bool b) j pos) (tC (.bl b)) := fun _ _ _ H _ I h => Constant_bool ⟨.bl b, H, I, rfl, h⟩
theorem pe_str {x j pos} : PE X (.Constant (.str x) j pos) (tC (.str x)) := fun _ _ _ H _ I h => Calls.Constant_str ⟨.str x, H, I.tok _, ⟨_, rfl⟩, h⟩

/-- a global name of the def -/
def Gl (X : Cx) (x : Str) : Prop := X.env.kindOf x = some .globalImplicit
theorem ld_glob {E : Value → Shared → Prop} {pins : List (Addr × Obj)} {s : Shared} {σ : St} {H : Hp} {x : Str} {u : Value} {pos : Pos} {Q : Value → Shared → Prop} (I : Inv X pins σ H s) (hg : Gl X x) (hm : X.mg x = some u) (h : Q u s)
    (hd : (x == ("__debug__" : Str)) = false := by decide) : wpAny (model X.prog X.w) X.A (eval (.Name x pos) X.env) Q E s :=
  Calls.Name_function_global I.ok.kind hg (Calls.loadGlobal_global (by rw [I.ok.glob]; exact I.mod.glob.keeps I.bk) hm h) hd
theorem ld_blt {E : Value → Shared → Prop} {pins : List (Addr × Obj)} {s : Shared} {σ : St} {H : Hp} {x : Str} {u : Value} {pos : Pos} {Q : Value → Shared → Prop} (I : Inv X pins σ H s) (hg : Gl X x) (hm : X.mg x = none) (hv : bootBuiltins x = some u) (h : Q u s)
    (hn : x ≠ "__name__" := by decide) (hd : (x == ("__debug__" : Str)) = false := by decide) : wpAny (model X.prog X.w) X.A (eval (.Name x pos) X.env) Q E s := by
  obtain ⟨mb, h1, h2⟩ := I.mod.blt
  exact Calls.Name_function_global I.ok.kind hg (Calls.loadGlobal_builtin (by rw [I.ok.glob]; exact I.mod.glob.keeps I.bk) hm (by rw [I.ok.blt]; exact h1.keeps I.bk) ((h2 x hn).trans hv) h) hd
/-- a module's constant, a class, a function, as a value -/
theorem pe_glob {x : Str} {v : V} {u : Value} {pos : Pos} (hg : Gl X x) (hm : X.mg x = some u) (r : RelV v u) (hd : (x == ("__debug__" : Str)) = false := by decide) : PE X (.Name x pos) (tC v) :=
  fun _ _ _ H _ I h => ld_glob I hg hm ⟨v, H, I, r, h⟩ hd
theorem pe_bltn {x : Str} {v : V} {u : Value} {pos : Pos} (hg : Gl X x) (hm : X.mg x = none) (hv : bootBuiltins x = some u) (r : RelV v u) (hn : x ≠ "__name__" := by decide) (hd : (x == ("__debug__" : Str)) = false := by decide) : PE X (.Name x pos) (tC v) :=
  fun _ _ _ H _ I h => ld_blt I hg hm hv ⟨v, H, I, r, h⟩ hn hd

/-! ### arithmetic -/
variable {a b : Expr} {ta tb : TE} {pos : Pos}
/-! ### comparisons -/
/-! ### and, or, not -/
variable {tA tB' : TT} {rest : List Expr}
def tAnd (t u : TT) : TT := fun σ H Q => t σ H fun c H1 => if c = true then u σ H1 Q else Q false H1
def tOr (t u : TT) : TT := fun σ H Q => t σ H fun c H1 => if c = true then Q true H1 else u σ H1 Q
def tNot (t : TT) : TT := fun σ H Q => t σ H fun c H1 => Q (!c) H1
theorem pw_and1 (ha : PT X a tA) : PW X (.BoolOp .And [a] pos) tA := by
  intro wh pins s σ H Q I h
  refine isTrue_and (thn (ha pins s σ H Q I h) fun c s1 e => ?_)
  cases c with
  | true => exact isTrue_and_nil e
  | false => exact e
theorem pw_or1 (ha : PT X a tA) : PW X (.BoolOp .Or [a] pos) tA := by
  intro wh pins s σ H Q I h
  refine isTrue_or (thn (ha pins s σ H Q I h) fun c s1 e => ?_)
  cases c with
  | false => exact isTrue_or_nil e
  | true => exact e
theorem pw_and (ha : PT X a tA) (hb : PW X (.BoolOp .And (b :: rest) pos) tB') : PW X (.BoolOp .And (a :: b :: rest) pos) (tAnd tA tB') := by
  intro wh pins s σ H Q I h
  refine isTrue_and (thn (ha pins s σ H _ I h) fun c s1 ⟨H1, I1, q1⟩ => ?_)
  cases c with
  | true => exact hb wh pins s1 σ H1 Q I1 q1
  | false => exact ⟨H1, I1, q1⟩
theorem pw_or (ha : PT X a tA) (hb : PW X (.BoolOp .Or (b :: rest) pos) tB') : PW X (.BoolOp .Or (a :: b :: rest) pos) (tOr tA tB') := by
  intro wh pins s σ H Q I h
  refine isTrue_or (thn (ha pins s σ H _ I h) fun c s1 ⟨H1, I1, q1⟩ => ?_)
  cases c with
  | true => exact ⟨H1, I1, q1⟩
  | false => exact hb wh pins s1 σ H1 Q I1 q1
theorem pt_not (ha : PT X a tA) : PT X (.UnaryOp .Not a pos) (tNot tA) := by
  intro pins s σ H Q I h
  exact isTrue_not (ha pins s σ H (fun c H1 => Q (!c) H1) I h)
end
end L2

namespace L2
open PySem PySem.Spec PyProof.Rows

/-! ### a list, a tuple that is read: tracked, frozen, or an object of the module -/
def SqL (K : PySem.W.Frag) (H : Hp) (a : Addr) (xs : List V) : Prop :=
  Rd H a (.lst xs) ∨
    ∃ (o : Obj) (its : Array Value) (n : Nat), K.lookup a = some o ∧ o.cls = .type "list" ∧ o.dict = none ∧ o.data = .seq its n ∧ its.size ≤ sizeLine ∧ Vals xs its.toList
def SqT (K : PySem.W.Frag) (H : Hp) (a : Addr) (xs : List V) : Prop :=
  Rd H a (.tup xs) ∨
    ∃ (o : Obj) (its : Array Value) (n : Nat), K.lookup a = some o ∧ o.cls = .type "tuple" ∧ o.dict = none ∧ o.data = .seq its n ∧ its.size ≤ sizeLine ∧ Vals xs its.toList
def absV : Value → Option V
  | .none => some .non
  | .bool b => some (.bl b)
  | .int i _ => some (.int i)
  | .str x _ => some (.str x)
  | .bytes b _ => some (.byt b)
  | .float b _ => some (.flt b)
  | .ref a => some (.ref a)
  | .type n => some (.ty n)
  | _ => none
theorem RelV.abs {x : V} {u : Value} (r : RelV x u) : absV u = some x := by
  cases x with
  | non => cases r; rfl
  | bl _ => cases r; rfl
  | int _ => obtain ⟨t, rfl⟩ := r; rfl
  | str _ => obtain ⟨t, rfl⟩ := r; rfl
  | byt _ => obtain ⟨t, rfl⟩ := r; rfl
  | flt _ => obtain ⟨t, rfl⟩ := r; rfl
  | ref _ => cases r; rfl
  | ty _ => cases r; rfl
theorem RelV.inj {x y : V} {u : Value} (r : RelV x u) (q : RelV y u) : x = y := Option.some.inj (r.abs.symm.trans q.abs)
theorem Vals.inj : ∀ {xs ys : List V} {us : List Value}, Vals xs us → Vals ys us → xs = ys
  | _, _, _, .nil, .nil => rfl
  | _, _, _, .cons r t, .cons r' t' => by rw [r.inj r', Vals.inj t t']
section
variable {X : Cx} {pins : List (Addr × Obj)} {σ : St} {H : Hp} {s : Shared} {a : Addr} {xs ys : List V}
theorem SqL.of {K : PySem.W.Frag} (h : H a = some (.lst xs)) : SqL K H a xs := .inl (.inl h)
theorem SqT.of {K : PySem.W.Frag} (h : H a = some (.tup xs)) : SqT K H a xs := .inl (.inl h)
theorem Inv.list (I : Inv X pins σ H s) (h : SqL X.K H a xs) : ∃ its : List Value, Vals xs its ∧ PlainL s.heap a its.toArray ∧ xs.length ≤ sizeLine := by
  rcases h with h | ⟨o, its, n, hk, hc, hd, hs, hz, r⟩
  · obtain ⟨z, its, n, r, e⟩ := h.ok I.hok
    exact ⟨its, r, ⟨_, n, e, rfl, rfl, rfl⟩, z⟩
  · refine ⟨its.toList, r, ⟨o, n, I.kIn a o hk, hc, hd, by simpa using hs⟩, ?_⟩
    have e := r.length
    simp only [Array.length_toList] at e
    omega
theorem Inv.tuple (I : Inv X pins σ H s) (h : SqT X.K H a xs) : ∃ its : List Value, Vals xs its ∧ IsTup s.heap a its.toArray ∧ xs.length ≤ sizeLine := by
  rcases h with h | ⟨o, its, n, hk, hc, _, hs, hz, r⟩
  · obtain ⟨z, its, r, p, _⟩ := h.ok I.hok
    exact ⟨its, r, p, z⟩
  · refine ⟨its.toList, r, ⟨o, I.kIn a o hk, hc, n, by simpa using hs⟩, ?_⟩
    have e := r.length
    simp only [Array.length_toList] at e
    omega
theorem Inv.list_inj (I : Inv X pins σ H s) (h : SqL X.K H a xs) (h' : SqL X.K H a ys) : xs = ys := by
  obtain ⟨its, r, ⟨o, n, e, _, _, d⟩, _⟩ := I.list h
  obtain ⟨its', r', ⟨o', n', e', _, _, d'⟩, _⟩ := I.list h'
  rw [e] at e'; cases e'
  rw [d] at d'
  injection d' with d1 _
  have : its = its' := by simpa using congrArg Array.toList d1
  subst this
  exact r.inj r'
theorem Inv.tuple_inj (I : Inv X pins σ H s) (h : SqT X.K H a xs) (h' : SqT X.K H a ys) : xs = ys := by
  obtain ⟨its, r, ⟨o, e, _, n, d⟩, _⟩ := I.tuple h
  obtain ⟨its', r', ⟨o', e', _, n', d'⟩, _⟩ := I.tuple h'
  rw [e] at e'; cases e'
  rw [d] at d'
  injection d' with d1 _
  have : its = its' := by simpa using congrArg Array.toList d1
  subst this
  exact r.inj r'
end

/-! ### another wish about exceptions -/
abbrev Cx.wish (X : Cx) (E : Value → Shared → Prop) : Cx := { X with xe := E }
/-- no exception leaves -/
abbrev Cx.nox (X : Cx) : Cx := X.wish fun _ _ => False
theorem Cx.Ok.wish {X : Cx} (ok : X.Ok) (E : Value → Shared → Prop) : (X.wish E).Ok :=
  ⟨ok.mod, ok.kind, ok.glob, ok.blt, ok.above, ok.inj, ok.has, ok.cab, ok.hd, ok.frames, ok.stk, ok.exf, ok.bs, ok.bsz, ok.noex, ok.exfs, ok.funs, ok.frf⟩
theorem Cx.Ok.unwish {X : Cx} {E : Value → Shared → Prop} (ok : (X.wish E).Ok) : X.Ok :=
  ⟨ok.mod, ok.kind, ok.glob, ok.blt, ok.above, ok.inj, ok.has, ok.cab, ok.hd, ok.frames, ok.stk, ok.exf, ok.bs, ok.bsz, ok.noex, ok.exfs, ok.funs, ok.frf⟩
section
variable {X : Cx} {pins : List (Addr × Obj)} {σ : St} {H : Hp} {s : Shared} {E : Value → Shared → Prop}
theorem Inv.wish (I : Inv X pins σ H s) (E : Value → Shared → Prop) : Inv (X.wish E) pins σ H s := ⟨I.ok.wish E, I.os, I.bare, I.base, I.loc, I.cell, I.free, I.freeC, I.pin, I.hok, I.len⟩
theorem Inv.unwish (I : Inv (X.wish E) pins σ H s) : Inv X pins σ H s := ⟨I.ok.unwish, I.os, I.bare, I.base, I.loc, I.cell, I.free, I.freeC, I.pin, I.hok, I.len⟩
theorem SP.unwish {D : Ends} {f : Flow} {s' : Shared} (h : SP (X.wish E) pins D f s') : SP X pins D f s' := by
  cases f with
  | next => obtain ⟨σ', H', I, q⟩ := h; exact ⟨σ', H', I.unwish, q⟩
  | brk => obtain ⟨σ', H', I, q⟩ := h; exact ⟨σ', H', I.unwish, q⟩
  | cont => obtain ⟨σ', H', I, q⟩ := h; exact ⟨σ', H', I.unwish, q⟩
  | ret u => obtain ⟨v, σ', H', I, r, q⟩ := h; exact ⟨v, σ', H', I.unwish, r, q⟩
theorem PE.nox {e : Expr} {t : TE} (h : PE X.nox e t) : PE X e t := fun pins s σ H Q I hw =>
  wpAny_mono (h pins s σ H Q (I.wish _) hw) (fun _ _ ⟨v, H', I', r, q⟩ => ⟨v, H', I'.unwish, r, q⟩) fun _ _ z => False.elim z
theorem PT.nox {e : Expr} {t : TT} (h : PT X.nox e t) : PT X e t := fun pins s σ H Q I hw =>
  wpAny_mono (h pins s σ H Q (I.wish _) hw) (fun _ _ ⟨H', I', q⟩ => ⟨H', I'.unwish, q⟩) fun _ _ z => False.elim z
theorem PSs.nox {st : List Stmt} {t : TS} (h : PSs X.nox st t) : PSs X st t := fun pins s σ H D I hw =>
  wpAny_mono (h pins s σ H D (I.wish _) hw) (fun _ _ q => q.unwish) fun _ _ z => False.elim z
end

/-! ### blocks and small statements -/
section
variable {X : Cx} {st : Stmt} {rest : List Stmt} {t u : TS} {e : Expr} {te : TE} {pos : Pos}
def tNext : TS := fun D σ H => D.nx σ H
def tSeq (t u : TS) : TS := fun D σ H => t { D with nx := u D } σ H
theorem pss_nil : PSs X [] tNext := fun _ _ σ H _ I h => wpAny_execs_nil ⟨σ, H, I, h⟩
theorem pss_cons (h1 : PS X st t) (h2 : PSs X rest u) : PSs X (st :: rest) (tSeq t u) := by
  intro pins s σ H D I h
  refine wpAny_execs_cons (thn (h1 pins s σ H { D with nx := u D } I h) fun f s1 q => ?_)
  cases f with
  | next =>
    obtain ⟨σ', H', I', q⟩ := q
    exact h2 pins s1 σ' H' D I' q
  | ret v => exact q
  | brk => exact q
  | cont => exact q
theorem pss_one (h1 : PS X st t) : PSs X [st] t := by
  intro pins s σ H D I h
  refine wpAny_execs_cons (thn (h1 pins s σ H D I h) fun f s1 q => ?_)
  cases f with
  | next => exact wpAny_execs_nil q
  | ret v => exact q
  | brk => exact q
  | cont => exact q
/-- in a def's body nothing is shown -/
theorem Inv.quiet {pins : List (Addr × Obj)} {σ : St} {H : Hp} {s : Shared} (I : Inv X pins σ H s) : interactive X.env = false := by simp [interactive, I.ok.kind]
/-- an expression whose value is dropped -/
def tDrop (te : TE) : TS := fun D σ H => te σ H fun _ H1 => D.nx σ H1
theorem ps_expr (he : PE X e te) (hs : swapsWith e none pos.line X.env = pure false := by rfl) : PS X (.Expr e pos) (tDrop te) := by
  intro pins s σ H D I h
  exact wpAny_Expr_any (thn (he pins s σ H _ I h) fun v s1 ⟨x, H1, I1, r1, q1⟩ => ⟨σ, H1, I1, q1⟩) I.quiet hs
def tRet (te : TE) : TS := fun D σ H => te σ H D.rt
theorem ps_ret (he : PE X e te) : PS X (.Return (some e) pos) (tRet te) := by
  intro pins s σ H D I h
  exact wpAny_Return_some (thn (he pins s σ H _ I h) fun v s1 ⟨x, H1, I1, r1, q1⟩ => ⟨x, σ, H1, I1, r1, q1⟩)
def tIfS (c : TT) (t u : TS) : TS := fun D σ H => c σ H fun b H1 => if b = true then t D σ H1 else u D σ H1
theorem ps_if {c : Expr} {a b : List Stmt} {tc : TT} (hc : PT X c tc) (ha : PSs X a t) (hb : PSs X b u) : PS X (.If c a b pos) (tIfS tc t u) := by
  intro pins s σ H D I h
  refine wpAny_If (thn (hc pins s σ H _ I h) fun d s1 ⟨H1, I1, q1⟩ => ?_)
  cases d with
  | true => exact ha pins s1 σ H1 D I1 q1
  | false => exact hb pins s1 σ H1 D I1 q1
end

/-! ### targets -/
abbrev TG := V → St → Hp → (St → Hp → Prop) → Prop
abbrev TGs := List V → St → Hp → (St → Hp → Prop) → Prop
def PG (X : Cx) (target : Expr) (t : TG) : Prop :=
  ∀ (pins : List (Addr × Obj)) (s : Shared) (σ : St) (H : Hp) (v : V) (u : Value) (Q : St → Hp → Prop), Inv X pins σ H s → RelV v u → t v σ H Q →
    wpAny (model X.prog X.w) X.A (assign target X.env u) (fun _ s' => ∃ σ' H', Inv X pins σ' H' s' ∧ Q σ' H') X.xe s
/-- several targets, one after another -/
def PGs (X : Cx) (ts : List Expr) (t : TGs) : Prop :=
  ∀ (pins : List (Addr × Obj)) (s : Shared) (σ : St) (H : Hp) (vs : List V) (us : List Value) (Q : St → Hp → Prop), Inv X pins σ H s → Vals vs us → t vs σ H Q →
    wpAny (model X.prog X.w) X.A (assignInOrder ((assignEach ts X.env).map (·.2)) us) (fun _ s' => ∃ σ' H', Inv X pins σ' H' s' ∧ Q σ' H') X.xe s
/-- o[i] = v, by values -/
abbrev TSet := V → V → V → Hp → (Hp → Prop) → Prop
def PSet (X : Cx) (t : TSet) : Prop :=
  ∀ (pins : List (Addr × Obj)) (s : Shared) (σ : St) (H : Hp) (o i v : V) (ov iv u : Value) (Q : Hp → Prop), Inv X pins σ H s → RelV o ov → RelV i iv → RelV v u → t o i v H Q →
    wpAny (model X.prog X.w) X.A (setItem ov iv u) (fun _ s' => ∃ H', Inv X pins σ H' s' ∧ Q H') X.xe s
/-- a op= b, by values -/
abbrev TIp := V → V → Hp → VK → Prop
def PIp (X : Cx) (op : Operator) (t : TIp) : Prop :=
  ∀ (pins : List (Addr × Obj)) (s : Shared) (σ : St) (H : Hp) (x y : V) (v u : Value) (Q : VK), Inv X pins σ H s → RelV x v → RelV y u → t x y H Q →
    wpAny (model X.prog X.w) X.A (inplaceOp op v u) (EP X pins σ Q) X.xe s
section
variable {X : Cx} {pos : Pos}
def gName (i : Nat) : TG := fun v σ H Q => Q (σ.set i (some v)) H
theorem pg_name {i : Nat} {x : Str} (hN : X.N.Nodup) (hi : X.N[i]? = some x) (hx : Loc X.env.scope x) (hf : X.fn x = true ∨ X.env.scope.names.lookup x = some .local := by first | exact .inl rfl | exact .inr rfl | assumption) : PG X (.Name x pos) (gName i) := by
  intro pins s σ H v u Q I r h
  exact wpAny_assign_Name (store_ok I hN hi hx r (fun s' I' => ⟨_, H, I', h⟩) hf)
def gNil : TGs := fun vs σ H Q => vs = [] ∧ Q σ H
def gCons (t : TG) (u : TGs) : TGs := fun vs σ H Q => ∃ v r, vs = v :: r ∧ t v σ H fun σ' H' => u r σ' H' Q
theorem pgs_nil : PGs X [] gNil := by
  intro pins s σ H vs us Q I r h
  obtain ⟨e, h⟩ := h
  subst e
  cases r
  exact assignInOrder_nil ⟨σ, H, I, h⟩
theorem pgs_cons {e : Expr} {es : List Expr} {t : TG} {u : TGs} (h1 : PG X e t) (h2 : PGs X es u)
    (hs : (assignEach (e :: es) X.env).map (·.2) = assign e X.env :: (assignEach es X.env).map (·.2) := by rfl) : PGs X (e :: es) (gCons t u) := by
  intro pins s σ H vs us Q I r h
  obtain ⟨v, vr, e1, h⟩ := h
  subst e1
  cases r with
  | cons r rr =>
    rw [hs]
    refine assignInOrder_cons (thn (h1 pins s σ H _ _ _ I r h) fun _ s1 ⟨σ1, H1, I1, q1⟩ => ?_)
    exact h2 pins s1 σ1 H1 _ _ Q I1 rr q1
/-- (a, b, ..) = a tuple of that length -/
def gTup (K : PySem.W.Frag) (n : Nat) (t : TGs) : TG := fun v σ H Q => ∃ a xs, v = .ref a ∧ SqT K H a xs ∧ xs.length = n ∧ t xs σ H Q
theorem pg_tup {es : List Expr} {k : Nat} {t : TGs} {n : Nat} (hc : X.calm = true) (h : PGs X es t)
    (hn : (assignEach es X.env).length = n := by rfl) (hst : (assignEach es X.env).findIdx? (·.1) = none := by rfl) : PG X (.Tuple es k pos) (gTup X.K n t) := by
  intro pins s σ H v u Q I r hw
  obtain ⟨a, xs, e1, hq, hl, hw⟩ := hw
  subst e1
  cases r
  obtain ⟨its, rv, ht, hz⟩ := I.tuple hq
  refine assign_Tuple_tuple (I.ok.hd hc) ht (by simp [hn, ← hl, rv.length]) hst fun h' hx => ?_
  have I1 : Inv X pins σ H { s with heap := h' } := I.kept (t' := s.toks) fun b o e => hx b o (Nat.ne_of_lt (Heap.lt_size e)) e
  exact h pins _ σ H xs _ Q I1 (by simpa using rv) hw
/-- o[i] = .. -/
def gSub (to ti : TE) (t : TSet) : TG := fun v σ H Q => to σ H fun o H1 => ti σ H1 fun i H2 => t o i v H2 fun H3 => Q σ H3
theorem pg_sub {o i : Expr} {to ti : TE} {t : TSet} (ho : PE X o to) (hi : PE X i ti) (hs : PSet X t)
    (ha : ∀ v, assign (.Subscript o i pos) X.env v = (do
      let ov ← holding [v] (eval o X.env)
      let iv ← holding [v, ov] (eval i X.env)
      standAt pos
      holding [v, ov, iv] (setItem ov iv v)
      release [v, ov, iv] []) := by intro _; rfl) : PG X (.Subscript o i pos) (gSub to ti t) := by
  intro pins s σ H v u Q I r h
  rw [ha]
  refine wpAny_bind (wpAny_holding (thn (ho pins s σ H _ I h) fun ov s1 ⟨x, H1, I1, r1, q1⟩ => ?_))
  refine wpAny_bind (wpAny_holding (thn (hi pins s1 σ H1 _ I1 q1) fun iv s2 ⟨y, H2, I2, r2, q2⟩ => ?_))
  refine wpAny_bind (wpAny_standAt (wpAny_bind (wpAny_holding (thn (hs pins s2 σ H2 x y v ov iv u _ I2 r1 r2 r q2) fun _ s3 ⟨H3, I3, q3⟩ => ?_))))
  exact wpAny_release ⟨σ, H3, I3, q3⟩
/-- target = value -/
def tAsg (te : TE) (g : TG) : TS := fun D σ H => te σ H fun x H1 => g x σ H1 D.nx
theorem ps_asg {tg e : Expr} {te : TE} {g : TG} (he : PE X e te) (hg : PG X tg g) (hs : swapsWithSole [tg] e pos.line X.env = pure false := by rfl) (hw : swappedStores [tg] e X.env = pure none := by rfl)
    (h1 : (assignEach [tg] X.env).map (·.2) = [assign tg X.env] := by rfl) : PS X (.Assign [tg] e pos) (tAsg te g) := by
  intro pins s σ H D I h
  refine wpAny_Assign_stores (thn (he pins s σ H _ I h) fun v s1 ⟨x, H1, I1, r1, q1⟩ => ?_) hs hw
  rw [h1]
  exact thn (hg pins s1 σ H1 x v _ I1 r1 q1) fun _ s2 q => q
/-- name = value -/
theorem ps_set {i : Nat} {x : Str} {e : Expr} {te : TE} {pos' : Pos} (hN : X.N.Nodup) (hi : X.N[i]? = some x) (hx : Loc X.env.scope x) (he : PE X e te) (hs : swapsWith e (some (.Name x pos')) pos.line X.env = pure false := by rfl) (hf : X.fn x = true ∨ X.env.scope.names.lookup x = some .local := by first | exact .inl rfl | exact .inr rfl | assumption) :
    PS X (.Assign [.Name x pos'] e pos) (tAsg te (gName i)) := by
  intro pins s σ H D I h
  refine wpAny_Assign_Name (thn (he pins s σ H _ I h) fun v s1 ⟨y, H1, I1, r1, q1⟩ => ?_) hs
  exact store_ok I1 hN hi hx r1 (fun s2 I2 => ⟨_, H1, I2, q1⟩) hf
/-- name op= e -/
def tAug (i : Nat) (te : TE) (ti : TIp) : TS := fun D σ H => ∃ x, σ[i]? = some (some x) ∧ te σ H fun y H1 => ti x y H1 fun z H2 => D.nx (σ.set i (some z)) H2
theorem ps_aug {i : Nat} {x : Str} {e : Expr} {te : TE} {op : Operator} {ti : TIp} {pos' : Pos} (hN : X.N.Nodup) (hi : X.N[i]? = some x) (hx : Loc X.env.scope x) (he : PE X e te) (ho : PIp X op ti) (hf : X.fn x = true ∨ X.env.scope.names.lookup x = some .local := by first | exact .inl rfl | exact .inr rfl | assumption) :
    PS X (.AugAssign (.Name x pos') op e pos) (tAug i te ti) := by
  intro pins s σ H D I h
  obtain ⟨v, e1, h⟩ := h
  obtain ⟨m, hn, hl⟩ := I.loc
  have vis : Vis X.env.scope x := by rcases hx with k | k; exact .inl k; exact .inr (.inl k)
  obtain ⟨u, r, l⟩ := hl i x v hi e1 vis
  refine wpAny_AugAssign_Name ?_
  have go : wpAny (model X.prog X.w) X.A (eval e X.env) (fun w s₂ => wpAny (model X.prog X.w) X.A (inplaceOp op u w) (fun r s₃ => wpAny (model X.prog X.w) X.A (storeName X.env x r) (fun _ => SP X pins D .next) X.xe s₃) X.xe s₂) X.xe s := by
    refine thn (he pins s σ H _ I h) fun w s1 ⟨y, H1, I1, r1, q1⟩ => ?_
    refine thn (ho pins s1 σ H1 v y u w _ I1 r r1 q1) fun z s2 ⟨zv, H2, I2, r2, q2⟩ => ?_
    exact store_ok I2 hN hi hx r2 (fun s3 I3 => ⟨_, H2, I3, q2⟩) hf
  rcases l with ⟨hk, hm⟩ | ⟨hk, c, hc, hcell⟩
  · exact wpAny_loadName_local I.ok.kind hk hn hm go
  · rcases hk with hk | hk
    · exact wpAny_loadName_cell I.ok.kind hk hc hcell go
    · rcases hx with k | k
      · have : X.env.scope.names.lookup x = some .free := hk
        rw [k] at this; cases this
      · have : X.env.scope.names.lookup x = some .free := hk
        rw [k] at this; cases this
/-- ints -/
def ipI (f : Int → Int → Int) : TIp := fun x y H Q => ∃ i j, x = .int i ∧ y = .int j ∧ Q (.int (f i j)) H
theorem ip_add : PIp X .Add (ipI fun i j => i + j) := by
  intro pins s σ H x y v u Q I r1 r2 h
  obtain ⟨i, j, e1, e2, q⟩ := h
  subst e1; subst e2
  obtain ⟨t, rfl⟩ := r1
  obtain ⟨t', rfl⟩ := r2
  exact iadd_int ⟨.int _, H, I.tok _, ⟨_, rfl⟩, q⟩
end

/-! ### while -/
section
variable {X : Cx} {pos : Pos}
/-- the invariant W with its measure -/
def tWhile (c : TT) (tb : TS) : TS := fun D σ H => ∃ W : Nat → St → Hp → Prop, (∃ m, W m σ H) ∧ ∀ m σ H, W m σ H →
  c σ H fun b H1 => if b = true then ∃ N : St → Hp → Prop, (∀ σ' H', N σ' H' → ∃ m', m' < m ∧ W m' σ' H') ∧ tb { D with nx := N, ct := N, bk := D.nx } σ H1 else D.nx σ H1
theorem ps_while {c : Expr} {body : List Stmt} {tc : TT} {tb : TS} (hp : PassesOwn (model X.prog X.w) X.A X.env X.xe) (hc : PT X c tc) (hb : PSs X body tb) : PS X (.While c body [] pos) (tWhile tc tb) := by
  intro pins s σ H D I h
  obtain ⟨W, ⟨m0, w0⟩, turn⟩ := h
  refine wpAny_While (codeAny_whileLoop (fun n s' => ∃ σ' H', Inv X pins σ' H' s' ∧ W n σ' H') ?_ m0 ⟨σ, H, I, w0⟩)
  rintro n s1 ⟨σ1, H1, I1, w1⟩
  refine wpAny_passesOwn hp (thn (hc pins s1 σ1 H1 _ I1 (turn n σ1 H1 w1)) fun b s2 ⟨H2, I2, q2⟩ => ?_)
  cases b with
  | true =>
    obtain ⟨N, hN, q2⟩ := q2
    rw [if_pos rfl]
    refine wpAny_passesOwn hp (thn (hb pins s2 σ1 H2 _ I2 q2) fun f s3 q3 => ?_)
    cases f with
    | next =>
      obtain ⟨σ3, H3, I3, n3⟩ := q3
      obtain ⟨m', hm, w3⟩ := hN σ3 H3 n3
      exact ⟨m', hm, σ3, H3, I3, w3⟩
    | cont =>
      obtain ⟨σ3, H3, I3, n3⟩ := q3
      obtain ⟨m', hm, w3⟩ := hN σ3 H3 n3
      exact ⟨m', hm, σ3, H3, I3, w3⟩
    | brk => exact q3
    | ret v => exact q3
  | false =>
    rw [if_neg Bool.false_ne_true]
    exact wpAny_execs_nil ⟨σ1, H2, I2, q2⟩
end

/-! ### what a loop or a comprehension walks -/
/-- at turn i: it yields x (the heap may grow), or it stops -/
structure It where
  go : Nat → Hp → Prop
  yld : Nat → Hp → V → Hp → Prop
  stop : Nat → Hp → Prop
/-- the iterator's own objects may turn: they are not the frame's, not pinned, younger than the entry (or a comprehension's own) -/
def FpOk (X : Cx) (pins : List (Addr × Obj)) (H : Hp) (b : Addr) : Prop :=
  H b = none ∧ b ≠ X.env.locals ∧ b ∉ X.fs ∧ (b ∈ X.ex ∨ X.s_0.heap.objs.size ≤ b) ∧ (∀ x c, X.env.cells.lookup x = some c → c ≠ b) ∧ ∀ p ∈ X.pn ++ pins, p.1 ≠ b
theorem Inv.fpOk {X : Cx} {pins : List (Addr × Obj)} {σ : St} {H H' : Hp} {s : Shared} {b : Addr} (I : Inv X pins σ H s) (hb : s.heap.objs.size ≤ b) (hn : H' b = none) : FpOk X pins H' b := by
  refine ⟨hn, Nat.ne_of_gt (Nat.lt_of_lt_of_le I.lt hb), I.nofs hb, .inr (Nat.le_trans I.sz hb), fun x c e z => ?_, fun p hp z => ?_⟩
  · obtain ⟨v, q⟩ := I.cell x c e
    exact absurd (Nat.lt_of_lt_of_le q.lt (by rw [z]; exact hb)) (Nat.lt_irrefl _)
  · exact absurd (Nat.lt_of_lt_of_le (Heap.lt_size (I.pin p hp).1) (by rw [z]; exact hb)) (Nat.lt_irrefl _)
structure Turn (P : Program) (w : World) (K : PySem.W.Frag) (tg : Expr) (J : It) (fp : List Addr) (it : Addr) (tn : Nat → Heap → Prop) : Prop where
  mem : it ∈ fp
  obj : ∀ i h, tn i h → ∀ b ∈ fp, ∃ o, h.get? b = some o ∧ ∀ v, o.data ≠ .cell v
  keep : ∀ i h h', tn i h → (∀ b ∈ fp, ∀ o, h.get? b = some o → h'.get? b = some o) → tn i h'
  item : ∀ (X : Cx), X.prog = P → X.w = w → X.K = K → X.calm = true → ∀ (i : Nat) (pins : List (Addr × Obj)) (s : Shared) (σ : St) (H : Hp) (E : Value → Shared → Prop), Inv X pins σ H s → (∀ b ∈ fp, FpOk X pins H b) → tn i s.heap → J.go i H →
    wpAny (model P w) X.A (pyNext (.ref it)) (fun r s1 => ∃ u, r = some u ∧
      wpAny (model P w) X.A (letOwnedTupleGo tg (.ref it) u) (fun _ s2 => ∃ x H', Inv X pins σ H' s2 ∧ RelV x u ∧ J.yld i H x H' ∧ tn (i + 1) s2.heap ∧ ∀ b ∈ fp, H' b = none) E s1) E s
  done : ∀ (X : Cx), X.prog = P → X.w = w → X.K = K → X.calm = true → ∀ (i : Nat) (pins : List (Addr × Obj)) (s : Shared) (σ : St) (H : Hp) (E : Value → Shared → Prop), Inv X pins σ H s → (∀ b ∈ fp, FpOk X pins H b) → tn i s.heap → J.stop i H →
    wpAny (model P w) X.A (pyNext (.ref it)) (fun r s1 => r = none ∧ Inv X pins σ H s1) E s
  self : ∀ (A : Around) (i : Nat) (s : Shared) (Q : Value → Shared → Prop) (E : Value → Shared → Prop), tn i s.heap → Q (.ref it) s → wpAny (model P w) A (pyIter (.ref it)) Q E s
abbrev TI := St → Hp → (It → Hp → Prop) → Prop
/-- an iterator has come -/
def PIE (X : Cx) (pins : List (Addr × Obj)) (σ : St) (tg : Expr) (R : It → Hp → Prop) (itv : Value) (s2 : Shared) : Prop :=
  ∃ (it : Addr) (fp : List Addr) (tn : Nat → Heap → Prop) (J : It) (H' : Hp), itv = .ref it ∧ Inv X pins σ H' s2 ∧ Turn X.prog X.w X.K tg J fp it tn ∧ tn 0 s2.heap ∧ (∀ b ∈ fp, FpOk X pins H' b) ∧ R J H'
def PI (X : Cx) (tg iter : Expr) (wi : TI) : Prop :=
  ∀ (pins : List (Addr × Obj)) (s : Shared) (σ : St) (H : Hp) (R : It → Hp → Prop), Inv X pins σ H s → wi σ H R →
    wpAny (model X.prog X.w) X.A (eval iter X.env) (fun v s1 => wpAny (model X.prog X.w) X.A (pyIter v) (PIE X pins σ tg R) X.xe s1) X.xe s

/-- the step ahead of the store is nothing for an iterator that keeps no tuple -/
theorem go_of {M : Model} {A : Around} {E : Value → Shared → Prop} {s : Shared} {tg : Expr} {it : Addr} {u : Value} {o : Obj} {n : String} {vs : Array Value} {Q : Unit → Shared → Prop} (ho : s.heap.get? it = some o) (hc : o.cls = .type n) (hd : o.data = .fields vs)
    (hn : ["enumerate", "zip", "dict_itemiterator", "dict_reverseitemiterator", "odict_iterator", "itertools.zip_longest", "itertools.pairwise"].contains n = false) (hQ : Q () s) : wpAny M A (letOwnedTupleGo tg (.ref it) u) Q E s := by
  unfold letOwnedTupleGo
  cases tg <;> first
    | exact wpAny_pure hQ
    | (cases u <;> first
        | exact wpAny_pure hQ
        | (refine wpAny_bind (wpAny_load ho ?_)
           rw [hc, hd]
           show wpAny M A (if (["enumerate", "zip", "dict_itemiterator", "dict_reverseitemiterator", "odict_iterator", "itertools.zip_longest", "itertools.pairwise"].contains n && vs[0]? == some (rawInt _)) = true then _ else _) Q E s
           rw [if_neg (by intro h; rw [hn, Bool.false_and] at h; cases h)]
           exact wpAny_pure hQ))

/-- the list at a, as it stands at each turn (a loop may append to it) -/
def Itl (K : PySem.W.Frag) (a : Addr) : It :=
  ⟨fun i H => ∃ xs x, SqL K H a xs ∧ xs[i]? = some x, fun i H x H' => H' = H ∧ ∀ xs, SqL K H a xs → xs[i]? = some x, fun i H => ∃ xs, SqL K H a xs ∧ xs.length ≤ i⟩
def Itt (K : PySem.W.Frag) (a : Addr) : It :=
  ⟨fun i H => ∃ xs x, SqT K H a xs ∧ xs[i]? = some x, fun i H x H' => H' = H ∧ ∀ xs, SqT K H a xs → xs[i]? = some x, fun i H => ∃ xs, SqT K H a xs ∧ xs.length ≤ i⟩
/-- lo, lo + 1, .. (n of them) -/
def Itr (lo : Int) (n : Nat) : It := ⟨fun i _ => i < n, fun i H x H' => H' = H ∧ x = .int (lo + i), fun i _ => n ≤ i⟩
theorem turn_list {P : Program} {w : World} {K : PySem.W.Frag} {tg : Expr} (a it : Addr) : Turn P w K tg (Itl K a) [it] it (fun i h => h.IsListIter it a i) where
  mem := by simp
  obj := fun i h st b hb => by
    have e : b = it := by simpa using hb
    subst e
    obtain ⟨o, e, c, d⟩ := st
    exact ⟨o, e, fun v z => by rw [d] at z; cases z⟩
  keep := fun i h h' st k => st.at fun o e => k it (by simp) o e
  item := by
    intro X hP hw hK hc i pins s σ H E I hf st hg
    subst hP hw hK
    obtain ⟨xs, x, hq, hx⟩ := hg
    obtain ⟨its, rv, p, hz⟩ := I.list hq
    obtain ⟨u, hu, ru⟩ := rv.get hx
    obtain ⟨f0, f1, f2, f3, f4, f5⟩ := hf it (by simp)
    refine wpAny_pyNext_list_item st p.isList (x := u) (by simpa using hu) fun h' st' sb => ?_
    have I1 : Inv X pins σ H { s with heap := h' } := I.turned (t' := s.toks) (fun b o hb e => (sb.2 b hb).trans e) f0 f1 f3 f4 f5
    obtain ⟨o, e, c, d⟩ := id st'
    exact ⟨u, rfl, go_of (s := { s with heap := h' }) e c d (by decide) ⟨x, H, I1, ru, ⟨rfl, fun ys hy => by rw [I.list_inj hy hq]; exact hx⟩, st', fun b hb => (hf b hb).1⟩⟩
  done := by
    intro X hP hw hK hc i pins s σ H E I hf st hg
    subst hP hw hK
    obtain ⟨xs, hq, hx⟩ := hg
    obtain ⟨its, rv, p, hz⟩ := I.list hq
    obtain ⟨f0, f1, f2, f3, f4, f5⟩ := hf it (by simp)
    have hl := rv.length
    exact wpAny_pyNext_list_end (I.ok.hd hc) st p.isList (by simp; omega) fun h' eb => ⟨rfl, I.turned (t' := s.toks) (fun b o hb e => eb b o hb e) f0 f1 f3 f4 f5⟩
  self := fun _ _ _ _ _ st h => wpAny_pyIter_listiter st h
theorem turn_tuple {P : Program} {w : World} {K : PySem.W.Frag} {tg : Expr} (a it : Addr) : Turn P w K tg (Itt K a) [it] it (fun i h => h.IsTupleIter it a i) where
  mem := by simp
  obj := fun i h st b hb => by
    have e : b = it := by simpa using hb
    subst e
    obtain ⟨o, e, c, d⟩ := st
    exact ⟨o, e, fun v z => by rw [d] at z; cases z⟩
  keep := fun i h h' st k => st.at fun o e => k it (by simp) o e
  item := by
    intro X hP hw hK hc i pins s σ H E I hf st hg
    subst hP hw hK
    obtain ⟨xs, x, hq, hx⟩ := hg
    obtain ⟨its, rv, p, hz⟩ := I.tuple hq
    obtain ⟨u, hu, ru⟩ := rv.get hx
    obtain ⟨f0, f1, f2, f3, f4, f5⟩ := hf it (by simp)
    refine wpAny_pyNext_tuple_item st (show s.heap.IsTuple a its.toArray from p) (x := u) (by simpa using hu) fun h' st' sb => ?_
    have I1 : Inv X pins σ H { s with heap := h' } := I.turned (t' := s.toks) (fun b o hb e => (sb.2 b hb).trans e) f0 f1 f3 f4 f5
    obtain ⟨o, e, c, d⟩ := id st'
    exact ⟨u, rfl, go_of (s := { s with heap := h' }) e c d (by decide) ⟨x, H, I1, ru, ⟨rfl, fun ys hy => by rw [I.tuple_inj hy hq]; exact hx⟩, st', fun b hb => (hf b hb).1⟩⟩
  done := by
    intro X hP hw hK hc i pins s σ H E I hf st hg
    subst hP hw hK
    obtain ⟨xs, hq, hx⟩ := hg
    obtain ⟨its, rv, p, hz⟩ := I.tuple hq
    obtain ⟨f0, f1, f2, f3, f4, f5⟩ := hf it (by simp)
    have hl := rv.length
    exact wpAny_pyNext_tuple_end (I.ok.hd hc) st (show s.heap.IsTuple a its.toArray from p) (by simp; omega) fun h' eb => ⟨rfl, I.turned (t' := s.toks) (fun b o hb e => eb b o hb e) f0 f1 f3 f4 f5⟩
  self := fun _ _ _ _ _ st h => wpAny_pyIter_tupleiter st h
theorem turn_range {P : Program} {w : World} {K : PySem.W.Frag} {tg : Expr} (it : Addr) (lo : Int) (n : Nat) : Turn P w K tg (Itr lo n) [it] it (fun i h => IsRangeIter h it (lo + (i : Nat) * 1) ((n : Int) - (i : Nat)) 1) where
  mem := by simp
  obj := fun i h st b hb => by
    have e : b = it := by simpa using hb
    subst e
    exact ⟨_, st, fun v z => by
      have z' : Data.fields _ = Data.cell v := z
      cases z'⟩
  keep := fun i h h' st k => k it (by simp) _ st
  item := by
    intro X hP hw hK hc i pins s σ H E I hf st hg
    subst hP hw hK
    obtain ⟨f0, f1, f2, f3, f4, f5⟩ := hf it (by simp)
    have W := Walks.range (prog := X.prog) (w := X.w) (I.ok.hd hc) it lo 1 n
    refine W.item i s _ _ hg st fun v h' tk hv st' kk => ?_
    obtain ⟨t, rfl⟩ := hv
    have I1 : Inv X pins σ H { s with heap := h', toks := tk } := I.turned (fun b o hb e => kk b o (by simpa using hb) e) f0 f1 f3 f4 f5
    refine ⟨_, rfl, go_of (s := { s with heap := h', toks := tk }) (n := "range_iterator") st' rfl rfl (by decide) ⟨.int (lo + i), H, I1, ⟨t, ?_⟩, ⟨rfl, rfl⟩, st', fun b hb => (hf b hb).1⟩⟩
    rw [Int.mul_one]
  done := by
    intro X hP hw hK hc i pins s σ H E I hf st hg
    subst hP hw hK
    obtain ⟨f0, f1, f2, f3, f4, f5⟩ := hf it (by simp)
    exact wpAny_pyNext_range_end (I.ok.hd hc) st (by have : n ≤ i := hg; omega) fun h' eb => ⟨rfl, I.turned (t' := s.toks) (fun b o hb e => eb b o hb e) f0 f1 f3 f4 f5⟩
  self := fun _ _ _ _ _ st h => wpAny_pyIter_rangeiter st h
end L2

namespace L2
open PySem PySem.Spec PyProof.Rows
section
variable {X : Cx} {tg : Expr}
/-- a range object just made, walked -/
theorem range_it {pins : List (Addr × Obj)} {σ : St} {H : Hp} {s : Shared} {R : It → Hp → Prop} {E : Value → Shared → Prop} {lo hi : Int} {t u v : Tok} {tk : Nat} (I : Inv X pins σ H s) (h1 : -(2 ^ 62) ≤ lo) (h2 : lo < 2 ^ 62) (h3 : -(2 ^ 62) ≤ hi) (h4 : hi < 2 ^ 62)
    (q : R (Itr lo (hi - lo).toNat) H) : wpAny (model X.prog X.w) X.A (pyIter (.ref s.heap.objs.size)) (PIE X pins σ tg R) E { s with heap := s.heap.push { cls := .type "range", data := .fields #[.int lo t, .int hi u, .int 1 v] }, toks := tk } := by
  refine wpAny_pyIter_range (IsRange.new ..) (small_one h1 h2 h3 h4) ?_
  have I1 : Inv X pins σ H { s with heap := s.heap.push { cls := .type "range", data := .fields #[.int lo t, .int hi u, .int 1 v] }, toks := tk } := I.kept fun b o e => Heap.get?_push_of_some _ e
  refine ⟨(s.heap.push { cls := .type "range", data := .fields #[.int lo t, .int hi u, .int 1 v] }).objs.size, [(s.heap.push { cls := .type "range", data := .fields #[.int lo t, .int hi u, .int 1 v] }).objs.size], _, _, H, rfl,
    I1.kept (t' := tk) fun b o e => Heap.get?_push_of_some _ e, turn_range _ lo (hi - lo).toNat, ?_, fun b hb => ?_, q⟩
  · have e1 : lo + ((0 : Nat) : Int) * 1 = lo := by simp
    have e2 : (((hi - lo).toNat : Nat) : Int) - ((0 : Nat) : Int) = Builtin.Range.rangeSize lo hi 1 := by rw [rangeSize_one]; split <;> omega
    show IsRangeIter _ _ (lo + ((0 : Nat) : Int) * 1) ((((hi - lo).toNat : Nat) : Int) - ((0 : Nat) : Int)) 1
    rw [e1, e2]
    exact Heap.get?_push_size _ rfl
  · have e : b = (s.heap.push { cls := .type "range", data := .fields #[.int lo t, .int hi u, .int 1 v] }).objs.size := by simpa using hb
    subst e
    exact I1.fpOk (Nat.le_refl _) (I1.hok.fresh (Nat.le_refl _))
def iRng1 (ta : TA) : TI := fun σ H R => ta σ H fun vs H1 => ∃ j : Int, vs = [.int j] ∧ -(2 ^ 62) ≤ j ∧ j < 2 ^ 62 ∧ R (Itr 0 j.toNat) H1
theorem pi_range1 {a : Expr} {ta : TA} {p pos : Pos} (hg : Gl X "range") (hm : X.mg "range" = none) (ha : PA X [a] ta) (hs : starEach [a] X.env = [(false, eval a X.env)] := by rfl) : PI X tg (.Call (.Name "range" p) [a] [] pos) (iRng1 ta) := by
  intro pins s σ H R I h
  refine Call_ (ld_blt I hg hm boot_range (PyProof.Rows.callWith_type1 (thn (ha pos pins s σ H _ I h) fun us s1 ⟨vs, H1, I1, r1, q1⟩ => ?_) hs rfl))
  obtain ⟨j, e, q1, q2, q⟩ := q1
  subst e
  cases r1 with
  | cons r rr =>
    cases rr
    obtain ⟨t, rfl⟩ := r
    exact call_range_1 (range_it I1 (by omega) (by omega) q1 q2 (by simpa using q))
/-! ### for -/
/-- W: the invariant by the turn and a measure; N: what the body is to reach -/
def tFor (wi : TI) (g : TG) (tb : TS) : TS := fun D σ H => wi σ H fun J H1 => ∃ W : Nat → Nat → St → Hp → Prop, (∃ m, W 0 m σ H1) ∧ ∀ i m σ H, W i m σ H →
  (J.stop i H ∧ D.nx σ H) ∨ (J.go i H ∧ ∃ N : St → Hp → Prop, (∀ σ' H', N σ' H' → ∃ m', m' < m ∧ W (i + 1) m' σ' H') ∧ ∀ x H', J.yld i H x H' → g x σ H' fun σ2 H2 => tb { D with nx := N, ct := N, bk := D.nx } σ2 H2)
/-- the records at fp as they stand -/
def pinsAt (fp : List Addr) (h : Heap) : List (Addr × Obj) := fp.filterMap fun b => (h.get? b).map fun o => (b, o)
theorem mem_pinsAt {fp : List Addr} {h : Heap} {b : Addr} {o : Obj} (hb : b ∈ fp) (e : h.get? b = some o) : (b, o) ∈ pinsAt fp h := List.mem_filterMap.mpr ⟨b, hb, by rw [e]; rfl⟩
theorem of_pinsAt {fp : List Addr} {h : Heap} {p : Addr × Obj} (hp : p ∈ pinsAt fp h) : p.1 ∈ fp ∧ h.get? p.1 = some p.2 := by
  obtain ⟨b, hb, e⟩ := List.mem_filterMap.mp hp
  cases q : h.get? b with
  | none => rw [q] at e; cases e
  | some o =>
    rw [q] at e
    have e' : (b, o) = p := Option.some.inj e
    subst e'
    exact ⟨hb, q⟩
theorem Inv.pinned {pins : List (Addr × Obj)} {σ : St} {H : Hp} {s : Shared} {fp : List Addr} (I : Inv X pins σ H s) (hf : ∀ b ∈ fp, FpOk X pins H b) (ho : ∀ b ∈ fp, ∃ o, s.heap.get? b = some o ∧ ∀ v, o.data ≠ .cell v) : Inv X (pins ++ pinsAt fp s.heap) σ H s :=
  I.pins_of fun p hp => (List.mem_append.mp hp).elim (fun z => I.pin p (List.mem_append_right _ z)) fun z => by
    obtain ⟨hb, e⟩ := of_pinsAt z
    obtain ⟨f0, f1, f2, _⟩ := hf p.1 hb
    obtain ⟨o, e', d⟩ := ho p.1 hb
    rw [e] at e'; cases e'
    exact ⟨e, f0, f1, f2, d⟩
theorem Inv.unpinned {pins pl : List (Addr × Obj)} {σ : St} {H : Hp} {s : Shared} (I : Inv X (pins ++ pl) σ H s) : Inv X pins σ H s := I.pins_of fun p hp => I.pin p (List.mem_append_right _ (List.mem_append_left _ hp))
theorem ps_for {iter : Expr} {body : List Stmt} {wi : TI} {g : TG} {tb : TS} {pos : Pos} (hp : PassesOwn (model X.prog X.w) X.A X.env X.xe) (hc : X.calm = true) (hi : PI X tg iter wi) (hg : PG X tg g) (hb : PSs X body tb)
    (hs : ∀ x, foldedSetIterable iter X.env x = pure x := by intro _; rfl) : PS X (.For tg iter body [] pos) (tFor wi g tb) := by
  intro pins s σ H D I h
  refine wpAny_For (thn (hi pins s σ H _ I h) fun v s1 h1 => thn h1 fun itv s2 h2 => ?_) hs
  obtain ⟨it, fp, tn, J, H2, e, I2, T, st2, f2, W, ⟨m0, w0⟩, turn⟩ := h2
  subst e
  -- what stays true of the iterator's objects through the loop
  have stat : ∀ {H' : Hp}, (∀ b ∈ fp, H' b = none) → ∀ b ∈ fp, FpOk X pins H' b := fun hn b hb => ⟨hn b hb, (f2 b hb).2⟩
  refine codeAny_forLoop_any (fun n s' => ∃ i σ' H', Inv X pins σ' H' s' ∧ tn i s'.heap ∧ (∀ b ∈ fp, H' b = none) ∧ W i n σ' H') ?_ m0 ⟨0, σ, H2, I2, st2, fun b hb => (f2 b hb).1, w0⟩
  rintro n s3 ⟨i, σ3, H3, I3, st3, fr3, w3⟩
  rcases turn i n σ3 H3 w3 with ⟨stop, qn⟩ | ⟨go, N, hN, step⟩
  · refine wpAny_passesOwn hp (thn (T.done X rfl rfl rfl hc i pins s3 σ3 H3 X.xe I3 (stat fr3) st3 stop) fun r s4 ⟨hr, I4⟩ => ?_)
    subst hr
    exact wpAny_execs_nil ⟨σ3, H3, I4, qn⟩
  · refine wpAny_passesOwn hp (thn (T.item X rfl rfl rfl hc i pins s3 σ3 H3 X.xe I3 (stat fr3) st3 go) fun r s4 ⟨u, hr, h4⟩ => ?_)
    subst hr
    refine wpAny_passesOwn hp (thn h4 fun _ s5 ⟨x, H5, I5, r5, y5, st5, fr5⟩ => ?_)
    have I5' := I5.pinned (stat fr5) (T.obj _ _ st5)
    refine wpAny_passesOwn hp (thn (hg _ s5 σ3 H5 x u _ I5' r5 (step x H5 y5)) fun _ s6 ⟨σ6, H6, I6, q6⟩ => ?_)
    refine wpAny_passesOwn hp (thn (hb _ s6 σ6 H6 _ I6 q6) fun f s7 q7 => ?_)
    have again : ∀ {σ7 : St} {H7 : Hp}, Inv X (pins ++ pinsAt fp s5.heap) σ7 H7 s7 → N σ7 H7 → ∃ m, m < n ∧ ∃ i σ' H', Inv X pins σ' H' s7 ∧ tn i s7.heap ∧ (∀ b ∈ fp, H' b = none) ∧ W i m σ' H' := fun {σ7 H7} I7 n7 => by
      obtain ⟨m', hm, w7⟩ := hN σ7 H7 n7
      refine ⟨m', hm, i + 1, σ7, H7, I7.unpinned, T.keep _ _ _ st5 fun b hb o e => (I7.pin (b, o) (List.mem_append_right _ (List.mem_append_right _ (mem_pinsAt hb e)))).1, fun b hb => ?_, w7⟩
      obtain ⟨o, e, d⟩ := T.obj _ _ st5 b hb
      exact (I7.pin (b, o) (List.mem_append_right _ (List.mem_append_right _ (mem_pinsAt hb e)))).2.1
    cases f with
    | next => obtain ⟨σ7, H7, I7, n7⟩ := q7; exact again I7 n7
    | cont => obtain ⟨σ7, H7, I7, n7⟩ := q7; exact again I7 n7
    | brk => obtain ⟨σ7, H7, I7, q7⟩ := q7; exact ⟨σ7, H7, I7.unpinned, q7⟩
    | ret v => obtain ⟨x7, σ7, H7, I7, r7, q7⟩ := q7; exact ⟨x7, σ7, H7, I7.unpinned, r7, q7⟩
end

/-! ### the forms one uses -/
end L2

namespace L2
open PySem PySem.Spec PyProof.Rows

abbrev R2 := V → V → Hp → VK → Prop
/-- a two-place operation on values: f is binaryOp op, inplaceOp op or compareOp op -/
def OpR (X : Cx) (f : Value → Value → Sem Value) (r : R2) : Prop :=
  ∀ (pins : List (Addr × Obj)) (s : Shared) (σ : St) (H : Hp) (x y : V) (v u : Value) (Q : VK), Inv X pins σ H s → RelV x v → RelV y u → r x y H Q →
    wpAny (model X.prog X.w) X.A (f v u) (EP X pins σ Q) X.xe s
/-- a one-place operation -/
def UnR (X : Cx) (f : Value → Sem Value) (r : V → Hp → VK → Prop) : Prop :=
  ∀ (pins : List (Addr × Obj)) (s : Shared) (σ : St) (H : Hp) (x : V) (v : Value) (Q : VK), Inv X pins σ H s → RelV x v → r x H Q →
    wpAny (model X.prog X.w) X.A (f v) (EP X pins σ Q) X.xe s
/-- a call of a value that is known (a builtin, a type) with values -/
def CallR (X : Cx) (f : Value) (r : List V → Hp → VK → Prop) : Prop :=
  ∀ (pins : List (Addr × Obj)) (s : Shared) (σ : St) (H : Hp) (xs : List V) (us : List Value) (Q : VK), Inv X pins σ H s → Vals xs us → r xs H Q →
    wpAny (model X.prog X.w) X.A (call f us) (EP X pins σ Q) X.xe s
/-- a value's truth -/
def TruR (X : Cx) (r : V → Hp → (Bool → Hp → Prop) → Prop) : Prop :=
  ∀ (pins : List (Addr × Obj)) (s : Shared) (σ : St) (H : Hp) (x : V) (v : Value) (Q : Bool → Hp → Prop), Inv X pins σ H s → RelV x v → r x H Q →
    wpAny (model X.prog X.w) X.A (truthy v) (TP X pins σ Q) X.xe s

def tOp (r : R2) (ta tb : TE) : TE := fun σ H Q => ta σ H fun x H1 => tb σ H1 fun y H2 => r x y H2 Q
def tUn (r : V → Hp → VK → Prop) (ta : TE) : TE := fun σ H Q => ta σ H fun x H1 => r x H1 Q
/-- ints in, under C, and a value out -/
def rI (C : Int → Int → Prop) (g : Int → Int → V) : R2 := fun x y H Q => ∃ i j, x = .int i ∧ y = .int j ∧ C i j ∧ Q (g i j) H
def rI0 (g : Int → Int → V) : R2 := fun x y H Q => ∃ i j, x = .int i ∧ y = .int j ∧ Q (g i j) H
def rU (g : Int → V) : V → Hp → VK → Prop := fun x H Q => ∃ i, x = .int i ∧ Q (g i) H

section
variable {X : Cx} {a b c : Expr} {ta tb tc : TE} {pos : Pos}

theorem binT (ha : PE X a ta) (hb : PE X b tb) {pins : List (Addr × Obj)} {s : Shared} {σ : St} {H : Hp} {R : V → V → Hp → Prop} (I : Inv X pins σ H s)
    (h : ta σ H fun x H1 => tb σ H1 fun y H2 => R x y H2) {Q : Value → Shared → Prop} {f : Value → Value → Sem Value}
    (hf : ∀ v u s2 x y H2, Inv X pins σ H2 s2 → RelV x v → RelV y u → R x y H2 → wpAny (model X.prog X.w) X.A (f v u) Q X.xe s2) :
    wpAny (model X.prog X.w) X.A (eval a X.env) (fun v s₁ => wpAny (model X.prog X.w) X.A (eval b X.env) (fun u s₂ => wpAny (model X.prog X.w) X.A (f v u) Q X.xe s₂) X.xe s₁) X.xe s := by
  refine thn (ha pins s σ H _ I h) fun v s1 ⟨x, H1, I1, r1, q1⟩ => ?_
  refine thn (hb pins s1 σ H1 _ I1 q1) fun u s2 ⟨y, H2, I2, r2, q2⟩ => ?_
  exact hf v u s2 x y H2 I2 r1 r2 q2

theorem pe_op {op : Operator} {r : R2} (ho : OpR X (binaryOp op) r) (ha : PE X a ta) (hb : PE X b tb) : PE X (.BinOp a op b pos) (tOp r ta tb) := by
  intro pins s σ H Q I h
  exact wpAny_BinOp (binT ha hb I h fun v u s2 x y H2 I2 rx ry q => ho pins s2 σ H2 x y v u Q I2 rx ry q)
theorem pe_un {op : UnaryOp} {r : V → Hp → VK → Prop} (ho : UnR X (unaryOp op) r) (ha : PE X a ta) : PE X (.UnaryOp op a pos) (tUn r ta) := by
  intro pins s σ H Q I h
  exact UnaryOp_ (thn (ha pins s σ H _ I h) fun v s1 ⟨x, H1, I1, r1, q1⟩ => ho pins s1 σ H1 x v Q I1 r1 q1)
/-! ### ints -/
theorem opI {f : Value → Value → Sem Value} {C : Int → Int → Prop} {g : Int → Int → Int}
    (rule : ∀ (i j : Int) (t u : Tok) (s : Shared) (Q : Value → Shared → Prop) (E : Value → Shared → Prop), C i j → Q (.int (g i j) s.toks) { s with toks := s.toks + 1 } → wpAny (model X.prog X.w) X.A (f (.int i t) (.int j u)) Q E s) :
    OpR X f (rI C fun i j => .int (g i j)) := by
  intro pins s σ H x y v u Q I rx ry h
  obtain ⟨i, j, rfl, rfl, hc, q⟩ := h
  obtain ⟨t, rfl⟩ := rx
  obtain ⟨t', rfl⟩ := ry
  exact rule i j t t' s _ _ hc ⟨.int (g i j), H, I.tok _, ⟨_, rfl⟩, q⟩
theorem opI0 {f : Value → Value → Sem Value} {g : Int → Int → Int}
    (rule : ∀ (i j : Int) (t u : Tok) (s : Shared) (Q : Value → Shared → Prop) (E : Value → Shared → Prop), Q (.int (g i j) s.toks) { s with toks := s.toks + 1 } → wpAny (model X.prog X.w) X.A (f (.int i t) (.int j u)) Q E s) :
    OpR X f (rI0 fun i j => .int (g i j)) := by
  intro pins s σ H x y v u Q I rx ry h
  obtain ⟨i, j, rfl, rfl, q⟩ := h
  obtain ⟨t, rfl⟩ := rx
  obtain ⟨t', rfl⟩ := ry
  exact rule i j t t' s _ _ ⟨.int (g i j), H, I.tok _, ⟨_, rfl⟩, q⟩
theorem opB0 {f : Value → Value → Sem Value} {g : Int → Int → Bool}
    (rule : ∀ (i j : Int) (t u : Tok) (s : Shared) (Q : Value → Shared → Prop) (E : Value → Shared → Prop), Q (.bool (g i j)) s → wpAny (model X.prog X.w) X.A (f (.int i t) (.int j u)) Q E s) :
    OpR X f (rI0 fun i j => .bl (g i j)) := by
  intro pins s σ H x y v u Q I rx ry h
  obtain ⟨i, j, rfl, rfl, q⟩ := h
  obtain ⟨t, rfl⟩ := rx
  obtain ⟨t', rfl⟩ := ry
  exact rule i j t t' s _ _ ⟨.bl (g i j), H, I, rfl, q⟩

def CPow (i j : Int) : Prop := 0 ≤ j ∧ j ≤ 1000000 ∧ i.natAbs < 2 ^ 64
def CMul (i j : Int) : Prop := (-(2 ^ 64) < i ∧ i < 2 ^ 64) ∨ (-(2 ^ 64) < j ∧ j < 2 ^ 64)
theorem CMul.ok {i j : Int} (h : CMul i j) : IntMulOk i j := by
  rcases h with ⟨h1, h2⟩ | ⟨h1, h2⟩
  · exact .of_left (intBits_le_64 h1 h2)
  · exact .of_right (intBits_le_64 h1 h2)
theorem op_add : OpR X (binaryOp .Add) (rI0 fun i j => .int (i + j)) := opI0 fun _ _ _ _ _ _ _ q => add_int q
theorem op_sub : OpR X (binaryOp .Sub) (rI0 fun i j => .int (i - j)) := opI0 fun _ _ _ _ _ _ _ q => sub_int q
theorem op_modN : OpR X (binaryOp .Mod) (rI (fun _ j => j ≠ 0) fun i j => .int (i.fmod j)) := opI fun _ _ _ _ _ _ _ hc q => mod_int' hc q
theorem op_pow : OpR X (binaryOp .Pow) (rI CPow fun i j => .int (i ^ j.toNat)) := opI fun _ _ _ _ _ _ _ hc q => pow_int_small hc.1 hc.2.1 hc.2.2 q
theorem unI {f : Value → Sem Value} {g : Int → Int}
    (rule : ∀ (i : Int) (t : Tok) (s : Shared) (Q : Value → Shared → Prop) (E : Value → Shared → Prop), Q (.int (g i) s.toks) { s with toks := s.toks + 1 } → wpAny (model X.prog X.w) X.A (f (.int i t)) Q E s) :
    UnR X f (rU fun i => .int (g i)) := by
  intro pins s σ H x v Q I rx h
  obtain ⟨i, rfl, q⟩ := h
  obtain ⟨t, rfl⟩ := rx
  exact rule i t s _ _ ⟨.int (g i), H, I.tok _, ⟨_, rfl⟩, q⟩
theorem un_neg : UnR X (unaryOp .USub) (rU fun i => .int (-i)) := unI fun _ _ _ _ _ q => neg_int q
/-! ### bools among ints: n += (a < b) -/
end

/-! ### comparisons -/
section
variable {X : Cx} {a b c : Expr} {ta tb tc : TE} {pos : Pos}
theorem fin_bl {pins : List (Addr × Obj)} {σ : St} {H : Hp} {s : Shared} {Q : VK} {k k' : Bool} (I : Inv X pins σ H s) (q : Q (.bl k) H) (e : k = k') : EP X pins σ Q (.bool k') s := by
  subst e
  exact ⟨.bl k, H, I, rfl, q⟩
theorem op_lt : OpR X (compareOp .Lt) (rI0 fun i j => .bl (decide (i < j))) := opB0 fun _ _ _ _ _ _ _ q => lt_int q
theorem op_gt : OpR X (compareOp .Gt) (rI0 fun i j => .bl (decide (j < i))) := opB0 fun _ _ _ _ _ _ _ q => gt_int q
theorem op_ge : OpR X (compareOp .GtE) (rI0 fun i j => .bl (decide (j ≤ i))) := opB0 fun _ _ _ _ _ _ _ q => ge_int q
theorem op_lt_str : OpR X (compareOp .Lt) (fun x y H Q => ∃ i j, x = .str i ∧ y = .str j ∧ Q (.bl (decide (i.cps.toList < j.cps.toList))) H) := by
  intro pins s σ H x y v u Q I rx ry h
  obtain ⟨i, j, rfl, rfl, q⟩ := h
  obtain ⟨t, rfl⟩ := rx
  obtain ⟨t', rfl⟩ := ry
  exact lt_str (fin_bl I q rfl)
/-- two rules for one operation: by cases -/
theorem OpR.or {f : Value → Value → Sem Value} {r r' : R2} (h : OpR X f r) (h' : OpR X f r') : OpR X f (fun x y H Q => r x y H Q ∨ r' x y H Q) := by
  intro pins s σ H x y v u Q I rx ry q
  rcases q with q | q
  · exact h pins s σ H x y v u Q I rx ry q
  · exact h' pins s σ H x y v u Q I rx ry q

theorem nomark (b : Expr) {op : CmpOp} (h : op ≠ .In := by decide) (h2 : op ≠ .NotIn := by decide) : behindInMarks op b = false := by
  have e1 : (op == CmpOp.In) = false := by cases op <;> first | rfl | exact absurd rfl h
  have e2 : (op == CmpOp.NotIn) = false := by cases op <;> first | rfl | exact absurd rfl h2
  cases b <;> simp [behindInMarks, e1, e2]
/-- a comparison as a value; hm: nomark b, or (for in, not in) by with_unfolding_all rfl -/
theorem pe_cmpR {op : CmpOp} {r : R2} (ho : OpR X (compareOp op) r) (ha : PE X a ta) (hb : PE X b tb) (hm : behindInMarks op b = false) : PE X (.Compare a [op] [b] pos) (tOp r ta tb) := by
  intro pins s σ H Q I h
  exact wpAny_Compare1 (binT ha hb I h fun v u s2 x y H2 I2 rx ry q => ho pins s2 σ H2 x y v u Q I2 rx ry q) hm
/-- a reading of a value as a test -/
def tTest (t : TE) : TT := fun σ H Q => t σ H fun x H' => ∃ k, x = .bl k ∧ Q k H'
theorem pt_cmpR {op : CmpOp} {r : R2} (ho : OpR X (compareOp op) r) (ha : PE X a ta) (hb : PE X b tb) (hm : behindInMarks op b = false) : PT X (.Compare a [op] [b] pos) (tTest (tOp r ta tb)) := by
  intro pins s σ H Q I h
  refine wpAny_isTrue_Compare1 (thn (ha pins s σ H _ I h) fun v s1 ⟨x, H1, I1, r1, q1⟩ => thn (hb pins s1 σ H1 _ I1 q1) fun u s2 ⟨y, H2, I2, r2, q2⟩ =>
    thn (ho pins s2 σ H2 x y v u _ I2 r1 r2 q2) fun c s3 ⟨z, H3, I3, r3, k, e, q3⟩ => ?_) hm
  subst e
  cases r3
  exact wpAny_truthy_bool ⟨H3, I3, q3⟩
/-! ### truth -/
/-- a value's truth by the abstract heap -/
def TruV (K : PySem.W.Frag) (x : V) (H : Hp) (k : Bool) : Prop :=
  match x with
  | .non => k = false
  | .bl b => k = b
  | .int i => k = (i != 0)
  | .str y => y.length ≤ sizeLine ∧ k = ((y.length : Int) != 0)
  | .byt y => y.size ≤ sizeLine ∧ k = ((y.size : Int) != 0)
  | .ref p => (∃ xs, SqL K H p xs ∧ k = !xs.isEmpty) ∨ (∃ xs, SqT K H p xs ∧ k = !xs.isEmpty) ∨ ∃ kvs, H p = some (.dK kvs) ∧ k = !kvs.isEmpty
  | _ => False
theorem isEmpty_kv {κ : Type} {kvs : List (κ × V)} {vs : List (κ × Value)} (r : KV kvs vs) : (!vs.isEmpty) = !kvs.isEmpty := by
  cases r <;> rfl
theorem isEmpty_of {xs : List V} {its : List Value} (r : Vals xs its) : (!its.toArray.isEmpty) = !xs.isEmpty := by
  cases r <;> simp
theorem line63 : (sizeLine : Nat) < 2 ^ 63 := by rw [sizeLine_eq]; decide
theorem tru_ok : TruR X (fun x H Q => ∃ k, TruV X.K x H k ∧ Q k H) := by
  intro pins s σ H x v Q I rx h
  obtain ⟨k, e, q⟩ := h
  have hl := line63
  have hs : sizeLine = 16777216 := sizeLine_eq
  cases x with
  | non =>
    cases rx
    have e' : k = false := e
    subst e'
    exact truthy_none ⟨H, I, q⟩
  | bl b =>
    cases rx
    have e' : k = b := e
    subst e'
    exact wpAny_truthy_bool ⟨H, I, q⟩
  | int i =>
    obtain ⟨t, rfl⟩ := rx
    have e' : k = (i != 0) := e
    subst e'
    exact PySem.P.truthy_int ⟨H, I, q⟩
  | str y =>
    obtain ⟨t, rfl⟩ := rx
    obtain ⟨hy, e'⟩ : y.length ≤ sizeLine ∧ k = ((y.length : Int) != 0) := e
    subst e'
    exact PySem.P.truthy_str (by omega) ⟨H, I.tok _, q⟩
  | byt y =>
    obtain ⟨t, rfl⟩ := rx
    obtain ⟨hy, e'⟩ : y.size ≤ sizeLine ∧ k = ((y.size : Int) != 0) := e
    subst e'
    exact PySem.W.truthy_bytes (by omega) ⟨H, I.tok _, q⟩
  | ref p =>
    cases rx
    have e' : (∃ xs, SqL X.K H p xs ∧ k = !xs.isEmpty) ∨ (∃ xs, SqT X.K H p xs ∧ k = !xs.isEmpty) ∨ ∃ kvs, H p = some (.dK kvs) ∧ k = !kvs.isEmpty := e
    rcases e' with ⟨xs, hx, e'⟩ | ⟨xs, hx, e'⟩ | ⟨kvs, hx, e'⟩
    · subst e'
      obtain ⟨its, r, pl, hz⟩ := I.list hx
      have hlen := r.length
      exact wpAny_truthy_list pl.isList (by simp only [List.size_toArray]; omega) ⟨H, I.tok _, by rw [isEmpty_of r]; exact q⟩
    · subst e'
      obtain ⟨its, r, pl, hz⟩ := I.tuple hx
      have hlen := r.length
      exact truthy_tuple pl (by simp only [List.size_toArray]; omega) ⟨H, I.tok _, by rw [isEmpty_of r]; exact q⟩
    · subst e'
      obtain ⟨hz, hS, vs, r, m⟩ : kvs.length ≤ sizeLine ∧ (p == sysModules) = false ∧ ∃ vs, KV kvs vs ∧ s.heap.DictOf (mixKind X.prog X.w) p vs := I.hok p _ hx
      have hlen : kvs.length = vs.length := Paired.length r
      exact wpAny_truthy_dict hS m (by omega) ⟨H, I.tok _, by rw [isEmpty_kv r]; exact q⟩
  | _ => exact (show False from e).elim
/-- any expression whose test is its value's truth (a name, a call, a subscript, a field ..: he by fun _ => rfl) -/
theorem pt_truth (ha : PE X a ta) (he : ∀ whole, isTrue a X.env whole = (do let v ← whole; standAt a.pos; holding [v] (truthy v))) :
    PT X a (fun σ H Q => ta σ H fun x H' => ∃ k, TruV X.K x H' k ∧ Q k H') := by
  intro pins s σ H Q I h
  exact isTrue_plain (thn (ha pins s σ H _ I h) fun v s1 ⟨x, H1, I1, r1, q1⟩ => tru_ok pins s1 σ H1 x v Q I1 r1 q1) (he _)

/-! ### strs and bytes -/
theorem op_add_str : OpR X (binaryOp .Add) (fun x y H Q => ∃ i j, x = .str i ∧ y = .str j ∧ i.length + j.length ≤ sizeLine ∧ Q (.str (i ++ j)) H) := by
  intro pins s σ H x y v u Q I rx ry h
  obtain ⟨i, j, rfl, rfl, hz, q⟩ := h
  obtain ⟨t, rfl⟩ := rx
  obtain ⟨t', rfl⟩ := ry
  exact add_str (fun t' tk => ⟨.str (i ++ j), H, I.tok _, ⟨_, rfl⟩, q⟩) hz
/-! ### scalar builtins, by CallR -/
theorem vals1 {x : V} {us : List Value} (r : Vals [x] us) : ∃ u, us = [u] ∧ RelV x u := by
  cases r with
  | cons r1 r2 => cases r2; exact ⟨_, rfl, r1⟩
theorem vals2 {x y : V} {us : List Value} (r : Vals [x, y] us) : ∃ u w', us = [u, w'] ∧ RelV x u ∧ RelV y w' := by
  cases r with
  | cons r1 r2 =>
    cases r2 with
    | cons r3 r4 => cases r4; exact ⟨_, _, rfl, r1, r3⟩
theorem call_min2 (hc : X.calm = true) : CallR X (.builtin "min") (fun xs H Q => ∃ i j, xs = [.int i, .int j] ∧ Q (.int (if j < i then j else i)) H) := by
  intro pins s σ H xs us Q I r h
  obtain ⟨i, j, rfl, q⟩ := h
  obtain ⟨u, w', rfl, ⟨t, rfl⟩, ⟨t', rfl⟩⟩ := vals2 r
  refine min_two_ints (I.ok.hd hc) fun h' tk k => ⟨_, H, I.kept k, ?_, q⟩
  by_cases hj : j < i
  · rw [if_pos hj, if_pos hj]; exact ⟨_, rfl⟩
  · rw [if_neg hj, if_neg hj]; exact ⟨_, rfl⟩
theorem call_int1 : CallR X (.type "int") (fun xs H Q => (∃ i, xs = [.int i] ∧ Q (.int i) H) ∨ ∃ k, xs = [.bl k] ∧ Q (.int (if k then 1 else 0)) H) := by
  intro pins s σ H xs us Q I r h
  rcases h with ⟨i, rfl, q⟩ | ⟨k, rfl, q⟩
  · obtain ⟨u, rfl, t, rfl⟩ := vals1 r
    exact call_int_int ⟨.int i, H, I, ⟨_, rfl⟩, q⟩
  · obtain ⟨u, rfl, r1⟩ := vals1 r
    cases r1
    exact call_int_bool ⟨.int (if k then 1 else 0), H, I.tok _, ⟨_, rfl⟩, q⟩
theorem call_str_int : CallR X (.type "str") (fun xs H Q => ∃ i, xs = [.int i] ∧ i.natAbs.log2 < 1920 ∧ Q (.str (toString i)) H) := by
  intro pins s σ H xs us Q I r h
  obtain ⟨i, rfl, hz, q⟩ := h
  obtain ⟨u, rfl, t, rfl⟩ := vals1 r
  exact PySem.P.str_of_int hz ⟨.str _, H, I.tok _, ⟨_, rfl⟩, q⟩
/-- len of a str, a bytes, a list, a tuple -/
def LenV (K : PySem.W.Frag) (x : V) (H : Hp) (n : Nat) : Prop :=
  match x with
  | .str y => y.length ≤ sizeLine ∧ n = y.length
  | .byt y => y.size ≤ sizeLine ∧ n = y.size
  | .ref p => (∃ xs, SqL K H p xs ∧ n = xs.length) ∨ ∃ xs, SqT K H p xs ∧ n = xs.length
  | _ => False
theorem call_len : CallR X (.builtin "len") (fun xs H Q => ∃ x n, xs = [x] ∧ LenV X.K x H n ∧ Q (.int n) H) := by
  intro pins s σ H xs us Q I r h
  obtain ⟨x, n, rfl, e, q⟩ := h
  obtain ⟨u, rfl, rx⟩ := vals1 r
  have hl := line63
  have hs : sizeLine = 16777216 := sizeLine_eq
  cases x with
  | str y =>
    obtain ⟨t, rfl⟩ := rx
    obtain ⟨hy, e'⟩ : y.length ≤ sizeLine ∧ n = y.length := e
    subst e'
    exact len_str (by omega) ⟨.int _, H, I.tok _, ⟨_, rfl⟩, q⟩
  | byt y =>
    obtain ⟨t, rfl⟩ := rx
    obtain ⟨hy, e'⟩ : y.size ≤ sizeLine ∧ n = y.size := e
    subst e'
    exact PySem.W.len_bytes (by omega) ⟨.int _, H, I.tok _, ⟨_, rfl⟩, q⟩
  | ref p =>
    cases rx
    have e' : (∃ xs, SqL X.K H p xs ∧ n = xs.length) ∨ ∃ xs, SqT X.K H p xs ∧ n = xs.length := e
    rcases e' with ⟨xs, hx, e'⟩ | ⟨xs, hx, e'⟩
    · subst e'
      obtain ⟨its, r', pl, hz⟩ := I.list hx
      have hlen := r'.length
      exact Calls.call_len_list pl.isList (by simp only [List.size_toArray]; omega) ⟨.int xs.length, H, I.tok _, ⟨_, by simp only [List.size_toArray]; rw [hlen]⟩, q⟩
    · subst e'
      obtain ⟨its, r', pl, hz⟩ := I.tuple hx
      have hlen := r'.length
      exact len_tuple pl (by simp only [List.size_toArray]; omega) ⟨.int xs.length, H, I.tok _, ⟨_, by simp only [List.size_toArray]; rw [hlen]⟩, q⟩
  | _ => exact (show False from e).elim
end
end L2

namespace L2
open PySem PySem.Spec PyProof.Rows

/-! ### an instance, its attributes a map -/
structure ObjM (h : Heap) (x dx C : Addr) (mA : Str → Option Value) : Prop where
  obj : h.get? x = some (PySem.W.instObj C dx)
  ns : h.Ns1 dx mA
  ne : dx ≠ x

theorem lookIn_ns {h : Heap} {dx : Addr} {mA : Str → Option Value} (n : h.Ns1 dx mA) : ∃ od, h.get? dx = some od ∧ ∀ name, PySem.W.lookIn name od = some (mA name) := by
  obtain ⟨o, es, ep, ho, hd, hk, _, hm⟩ := n
  refine ⟨o, ho, fun name => ?_⟩
  have e := hm name
  unfold nsFind findBy at e
  rw [← Array.find?_toList] at e
  unfold PySem.W.lookIn
  rw [hd]
  dsimp only
  split
  · rename_i y q
    rw [q] at e
    exact congrArg some e
  · rename_i q
    rw [q] at e
    have a : es.toList.any (·.refKey) = false := by
      rw [List.any_eq_false]
      intro y hy
      obtain ⟨z, t, hkey⟩ := hk y (Array.mem_toList_iff.mp hy)
      simp [DictEntry.refKey, hkey]
    have a' : ¬ es.toList.any (·.refKey) = true := by rw [a]; exact Bool.false_ne_true
    rw [if_neg a']
    exact congrArg some e

theorem ObjM.look {h : Heap} {x dx C : Addr} {mA : Str → Option Value} (I : ObjM h x dx C mA) : ∃ od, PySem.W.InstAt h x (PySem.W.instObj C dx) C (some od) ∧ ∀ name, PySem.W.lookIn name od = some (mA name) :=
  let ⟨od, ho, hl⟩ := lookIn_ns I.ns
  ⟨od, ⟨I.obj, rfl, rfl, ho⟩, hl⟩

section
variable {prog : Program} {w : World} {A : Around} {E : Value → Shared → Prop} {s : Shared} {K : PySem.W.Frag} {x dx C f : Addr} {mA : Str → Option Value} {name : Str} {v : Value}

end

/-! ### the attributes as a list of pairs -/
theorem RelO.some_of {v : V} {o : Option Value} (r : RelO (some v) o) : ∃ u, o = some u ∧ RelV v u := by
  cases o with
  | none => exact (show False from r).elim
  | some u => exact ⟨u, rfl, r⟩
section
variable {P : Program} {w : World} {H H' : Hp} {h h' : Heap} {a C dx : Addr} {fs fs' : List (Str × V)}
end

/-! ### what of the text a class must have -/
structure Cls (K : PySem.W.Frag) (C : Addr) : Prop where
  pg : PySem.W.plainGet K C Str.empty = true
  hd : PySem.W.hasDictIn K C = true
  po : PySem.W.plainOver K C = true
  sa : PySem.W.findIn K (.ref C) "__setattr__" = some (some (.builtin "object.__setattr__"))
theorem Cls.get {K : PySem.W.Frag} {C : Addr} (c : Cls K C) (f : Str) : PySem.W.plainGet K C f = true := c.pg
/-- a constant of the class -/
structure Con (K : PySem.W.Frag) (C : Addr) (f : Str) (v : V) (u : Value) : Prop where
  at_ : PySem.W.findIn K (.ref C) f = some (some u)
  rel : RelV v u
  get : PySem.W.specialIn K u "__get__" = some none
  cp : PySem.W.copiedNames.contains f = false
/-- a method: a plain def of the class or of one above it -/
structure Meth (K : PySem.W.Frag) (C : Addr) (m : Str) (f : Addr) : Prop where
  at_ : PySem.W.findIn K (.ref C) m = some (some (.ref f))
  fn : PySem.W.isFn K (.ref f) = true
  kp : PySem.W.keepIn K (.ref f) = true

section
variable {X : Cx} {pins : List (Addr × Obj)} {σ : St} {H : Hp} {s : Shared} {a C dx : Addr} {fs : List (Str × V)} {f : Str} {v : V} {A : Around} {E : Value → Shared → Prop}

end

/-! ### readings and rules -/
section
variable {X : Cx} {o e value : Expr} {f : Str} {pos pos' tpos : Pos} {ta tv : TE}
def rAdd : V → V → Hp → VK → Prop := fun x y H Q => ∃ i j, x = .int i ∧ y = .int j ∧ Q (.int (i + j)) H
end

/-! ### isinstance -/
section
variable {X : Cx} {pins : List (Addr × Obj)} {σ : St} {H : Hp} {s : Shared} {A : Around} {E : Value → Shared → Prop} {Q : Value → Shared → Prop} {c : Value} {b : Bool}
/-- the type of a value, as the fragment's deciders take it; for an instance its class -/
inductive TyOf (K : PySem.W.Frag) (H : Hp) : V → Value → Prop where
  | non : TyOf K H .non (.type "NoneType")
  | bl (x : Bool) : TyOf K H (.bl x) (.type "bool")
  | int (i : Int) : TyOf K H (.int i) (.type "int")
  | str (x : Str) : TyOf K H (.str x) (.type "str")
  | flt (x : UInt64) : TyOf K H (.flt x) (.type "float")
  | lst {a : Addr} {xs : List V} (e : H a = some (.lst xs)) : TyOf K H (.ref a) (.type "list")
  | frz {a : Addr} {o : Obj} {xs : List V} (e : H a = some (.frz o (.lst xs))) : TyOf K H (.ref a) (.type "list")
  | tup {a : Addr} {xs : List V} (e : H a = some (.tup xs)) : TyOf K H (.ref a) (.type "tuple")
  | dK {a : Addr} {kvs : List (Key × V)} (e : H a = some (.dK kvs)) : TyOf K H (.ref a) (.type "dict")
  | dT {a : Addr} {kvs : List (List Key × V)} (e : H a = some (.dT kvs)) : TyOf K H (.ref a) (.type "dict")
  | ins {a C dx : Addr} {fs : List (Str × V)} (e : H a = some (.ins C dx fs)) (cl : Cls K C) (ha : PySem.W.findIn K (.ref C) "__class__" = some (some (.builtin "object.__class__")))
      (hn : PySem.W.specialIn K (.builtin "object.__class__") "__get__" = some (some (.builtin "getset_descriptor.__get__"))) (htk : PySem.W.takesIn K (.builtin "object.__class__") = some true)
      (hm : PySem.W.mroIn K C (.type "object") = some true) : TyOf K H (.ref a) (.ref C)
end
end L2

namespace L2
open PySem PySem.Spec PyProof.Rows

/-! ### room -/
structure Room (k : Nat) (A : Around) : Prop where
  hd : A.handled = none
  dp : A.depth + 3 * k + 5 < recursionLimit
  un : A.units + 16 * k + 200 < cLine
theorem Room.mono {j k : Nat} {A : Around} (r : Room k A) (h : j ≤ k) : Room j A := ⟨r.hd, by have := r.dp; omega, by have := r.un; omega⟩
theorem Room.deeper {k : Nat} {A : Around} (r : Room (k + 1) A) (env : Env) : Room k (A.deeper env) :=
  ⟨r.hd, by have := r.dp; show A.depth + 1 + 3 * k + 5 < _; omega, by have := r.un; show A.units + 3 + 16 * k + 200 < _; omega⟩
theorem Room.in1 {k : Nat} {A : Around} (r : Room (k + 1) A) : Room k A.in1 :=
  ⟨r.hd, by have := r.dp; show A.depth + 3 * k + 5 < _; omega, by have := r.un; show A.units + 1 + 16 * k + 200 < _; omega⟩
theorem Room.depth {k : Nat} {A : Around} (r : Room k A) : A.depth < recursionLimit := by have := r.dp; omega
theorem Room.units {k : Nat} {A : Around} (r : Room k A) : A.units + 64 < cLine := by have := r.un; omega
/-! ### argument lists and displays -/
def tNil : TA := fun _ H Q => Q [] H
def tCons (ta : TE) (tr : TA) : TA := fun σ H Q => ta σ H fun x H1 => tr σ H1 fun xs H2 => Q (x :: xs) H2
section
variable {X : Cx} {e : Expr} {es : List Expr} {te : TE} {t : TA} {pos : Pos}
theorem pa_nil : PA X [] tNil := fun _ _ _ _ H Q I h => Calls.spliced_nil ⟨[], H, I, .nil, h⟩
theorem pa_cons (ha : PE X e te) (hr : PA X es t) (hs : starEach (e :: es) X.env = (false, eval e X.env) :: starEach es X.env := by rfl) : PA X (e :: es) (tCons te t) := by
  intro pos pins s σ H Q I h
  rw [hs]
  show wpAny _ _ (spliced ((false, eval e X.env) :: backTo pos (starEach es X.env))) _ _ s
  refine Calls.spliced_cons (thn (ha pins s σ H _ I h) fun u s1 ⟨x, H1, I1, r1, q1⟩ => ?_)
  exact thn (hr pos pins s1 σ H1 _ I1 q1) fun us s2 ⟨xs, H2, I2, r2, q2⟩ => ⟨x :: xs, H2, I2, .cons r1 r2, q2⟩

/-- a tuple, a list of written items -/
def tTup (t : TA) : TE := fun σ H Q => t σ H fun xs H1 => xs.length ≤ sizeLine ∧ ∀ p, H1 p = none → Q (.ref p) (upd H1 p (.tup xs))
def tLst (t : TA) : TE := fun σ H Q => t σ H fun xs H1 => xs.length ≤ sizeLine ∧ ∀ p, H1 p = none → Q (.ref p) (upd H1 p (.lst xs))
theorem pe_tup {x1} (h : PA X es t) : PE X (.Tuple es x1 pos) (tTup t) := by
  intro pins s σ H Q I hq
  refine wpAny_Tuple_spliced (thn (h pos pins s σ H _ I hq) fun us s1 ⟨xs, H1, I1, r, z, q⟩ => ⟨by rw [← r.length]; exact z, ?_⟩)
  have hf : H1 s1.heap.objs.size = none := I1.hok.fresh (Nat.le_refl _)
  refine ⟨.ref s1.heap.objs.size, upd H1 s1.heap.objs.size (.tup xs), I1.laid (t' := s1.toks) (fun b u e => Heap.get?_push_of_some _ e) (Nat.le_refl _) ?_, rfl, q _ hf⟩
  exact ⟨z, us, r, ⟨_, Heap.get?_push_size _ rfl, rfl, _, rfl⟩, _, Heap.get?_push_size _ rfl, rfl⟩
theorem pe_lst (h : PA X es t) : PE X (.List es pos) (tLst t) := by
  intro pins s σ H Q I hq
  refine wpAny_List_spliced (thn (h pos pins s σ H _ I hq) fun us s1 ⟨xs, H1, I1, r, z, q⟩ => ⟨by rw [← r.length]; exact z, ?_⟩)
  have hf : H1 s1.heap.objs.size = none := I1.hok.fresh (Nat.le_refl _)
  refine ⟨.ref s1.heap.objs.size, upd H1 s1.heap.objs.size (.lst xs), I1.laid (t' := s1.toks) (fun b u e => Heap.get?_push_of_some _ e) (Nat.le_refl _) ?_, rfl, q _ hf⟩
  exact ⟨z, us, 0, r, Heap.get?_push_size _ rfl⟩
end

/-! ### what a def promises -/
/-- a def's promise: the bound arguments in the parameters' order, the heap, the wanted end, the wanted exception -/
abbrev Sp := List V → Hp → VK → XK → Prop
/-- how an exception lies behind a call (file 08 gives it): the callers' frames, abstract heap and state ahead of the call, the wish, the exception, the state -/
abbrev CXT := List Env → Hp → Shared → XK → Value → Shared → Prop

/-- the state at a call -/
structure Env0 (P : Program) (w : World) (K : PySem.W.Frag) (mg : Str → Option Value) (base : Heap) (A : Around) (outer : List Env) (s : Shared) (H : Hp) : Prop where
  frames : A.frames = some outer
  mod : Mod K mg base
  bs : ∀ b o, base.get? b = some o → s.heap.get? b = some o ∧ H b = none
  bsz : base.objs.size ≤ s.heap.objs.size
  funs : s.heap.FunFrames base outer
  frf : ∀ b ∈ frs outer, H b = none
  hok : HOk P w H s.heap
  bare : AllBare s.gens
/-- a call's end -/
def CE (outer : List Env) (P : Program) (w : World) (H : Hp) (s : Shared) (Q : VK) (u : Value) (s' : Shared) : Prop :=
  ∃ v H', s'.os = s.os ∧ AllBare s'.gens ∧ Un (frs outer) [] H H' s.heap s'.heap ∧ HOk P w H' s'.heap ∧ RelV v u ∧ Q v H'
def CR (CX : CXT) (outer : List Env) (P : Program) (w : World) (H : Hp) (s : Shared) (Q : VK) (E : XK) (r : Result) (s' : Shared) : Prop :=
  match r with
  | .ok (.ret u) => CE outer P w H s Q u s'
  | .ok _ => False
  | .error e => CX outer H s E e s'
structure FnOk (P : Program) (w : World) (K : PySem.W.Frag) (mg : Str → Option Value) (base : Heap) (CX : CXT) (k : Nat) (f : Addr) (fd : FuncData) (ps : List Str) (sp : Sp) : Prop where
  len : ∀ vs H Q E, sp vs H Q E → vs.length = ps.length
  run : ∀ (A : Around) (outer : List Env) (s : Shared) (H : Hp) (args : Args) (us : List Value) (vs : List V) (Q : VK) (E : XK), Room k A → Env0 P w K mg base A outer s H → BindsTo s fd args (ps.zip us) → Vals vs us → sp vs H Q E →
    codeAny (model P w) A (.call (.ref f) args) (CR CX outer P w H s Q E) s
theorem FnOk.mono {P : Program} {w : World} {K : PySem.W.Frag} {mg : Str → Option Value} {base : Heap} {CX : CXT} {j k : Nat} {f : Addr} {fd : FuncData} {ps : List Str} {sp : Sp} (F : FnOk P w K mg base CX j f fd ps sp) (h : j ≤ k) :
    FnOk P w K mg base CX k f fd ps sp := ⟨F.len, fun A outer s H args us vs Q E hr => F.run A outer s H args us vs Q E (hr.mono h)⟩
/-- a weaker promise -/
theorem FnOk.imp {P : Program} {w : World} {K : PySem.W.Frag} {mg : Str → Option Value} {base : Heap} {CX : CXT} {k : Nat} {f : Addr} {fd : FuncData} {ps : List Str} {sp sp' : Sp} (F : FnOk P w K mg base CX k f fd ps sp)
    (h : ∀ vs H Q E, sp' vs H Q E → sp vs H Q E) : FnOk P w K mg base CX k f fd ps sp' :=
  ⟨fun vs H Q E q => F.len vs H Q E (h _ _ _ _ q), fun A outer s H args us vs Q E hr he hb hv hs => F.run A outer s H args us vs Q E hr he hb hv (h _ _ _ _ hs)⟩

theorem Env0.in1 {P : Program} {w : World} {K : PySem.W.Frag} {mg : Str → Option Value} {base : Heap} {A : Around} {outer : List Env} {s : Shared} {H : Hp} (e : Env0 P w K mg base A outer s H) :
    Env0 P w K mg base A.in1 outer s H := ⟨e.frames, e.mod, e.bs, e.bsz, e.funs, e.frf, e.hok, e.bare⟩

section
variable {X : Cx} {pins : List (Addr × Obj)} {σ : St} {H : Hp} {s s' : Shared}
/-- from a body: what a callee wants -/
theorem Inv.env0 (I : Inv X pins σ H s) : Env0 X.prog X.w X.K X.mg X.base X.A X.stack s H :=
  ⟨I.ok.frames, I.ok.mod, I.bs, Nat.le_trans I.ok.bsz I.sz, I.stack, I.stkFree, I.hok, I.bare⟩
/-- behind a call -/
theorem Inv.after {Q : VK} {u : Value} (I : Inv X pins σ H s) (h : CE X.stack X.prog X.w H s Q u s') : EP X pins σ Q u s' := by
  obtain ⟨v, H', os, bare, un, hok, r, q⟩ := h
  obtain ⟨hh, g, d, t, os'⟩ := s'
  obtain rfl : os' = s.os := os
  exact ⟨v, H', I.call (h' := hh) (g' := g) (d' := d) (t' := t) (ch := []) un hok bare (fun b z => absurd z (by simp)), r, q⟩
end

/-! ### calls -/
/-- f(..): the written arguments, then the defaults dvs; E: what is wanted of an exception -/
def tCall (sp : Sp) (dvs : List V) (E : XK) (t : TA) : TE := fun σ H Q => t σ H fun vs H1 => sp (vs ++ dvs) H1 Q E
/-- how the parameters are bound: us the positional arguments, kw the keywords' values by name, ds the defaults that fill up -/
def Binds (K : PySem.W.Frag) (fd : FuncData) (ps : List Str) (ds : List Value) : Prop :=
  ∀ (s : Shared) (us : List Value), K.In s.heap → (us ++ ds).length = ps.length → BindsTo s fd ⟨us, []⟩ (ps.zip (us ++ ds))
/-- every parameter is given -/
theorem Binds.all {K : PySem.W.Frag} {fd : FuncData} {ps : List Str} (h : ∀ us : List Value, us.length = ps.length → bindArgs fd ⟨us, []⟩ = pure (ps.zip us)) : Binds K fd ps [] := fun s us _ hl => by
  rw [List.append_nil] at hl ⊢
  exact .of_eq (h us hl)

/-- an exception of a callee reaches what this body wants of exceptions -/
def Passes (CX : CXT) (X : Cx) (E : XK) : Prop := ∀ (pins : List (Addr × Obj)) (σ : St) (H : Hp) (s : Shared) (e : Value) (s' : Shared), Inv X pins σ H s → CX X.stack H s E e s' → X.xe e s'

section
variable {X : Cx} {CX : CXT} {k : Nat} {f C : Addr} {fd : FuncData} {ps : List Str} {sp : Sp} {dvs : List V} {ds : List Value} {E : XK} {x m : Str} {p pos apos : Pos} {e o : Expr} {es : List Expr} {ta : TE} {t : TA}

/-- the callee runs -/
theorem run_fn {pins : List (Addr × Obj)} {σ : St} {H : Hp} {s : Shared} {Q : VK} {us : List Value} {vs : List V} (F : FnOk X.prog X.w X.K X.mg X.base CX k f fd ps sp) (hr : Room k X.A) (hb : Binds X.K fd ps ds) (hd : Vals dvs ds) (hx : Passes CX X E)
    (I : Inv X pins σ H s) (r : Vals vs us) (h : sp (vs ++ dvs) H Q E) : wpAny (model X.prog X.w) X.A (call (.ref f) us) (EP X pins σ Q) X.xe s := by
  have r2 : Vals (vs ++ dvs) (us ++ ds) := r.append hd
  have hl : (us ++ ds).length = ps.length := by rw [← r2.length]; exact F.len _ _ _ _ h
  refine wpAny_call (codeAny_mono (F.run X.A X.stack s H ⟨us, []⟩ (us ++ ds) (vs ++ dvs) Q E hr I.env0 (hb s us I.kIn hl) r2 h) fun r s' hq => ?_)
  cases r with
  | error e => exact hx pins σ H s e s' I hq
  | ok fl =>
    cases fl with
    | ret u => exact I.after hq
    | next => exact False.elim hq
    | brk => exact False.elim hq
    | cont => exact False.elim hq

theorem pe_call (F : FnOk X.prog X.w X.K X.mg X.base CX k f fd ps sp) (hr : Room k X.A) (hg : Gl X x) (hm : X.mg x = some (.ref f)) (hk : PySem.W.keepIn X.K (.ref f) = true) (hb : Binds X.K fd ps ds) (hd : Vals dvs ds) (hx : Passes CX X E)
    (ha : PA X (e :: es) t) (hdb : (x == ("__debug__" : Str)) = false := by decide) (he : starEach (e :: es) X.env = (false, eval e X.env) :: starEach es X.env := by rfl) (hpl : (backTo pos (starEach es X.env)).any (·.1) = false := by rfl) :
    PE X (.Call (.Name x p) (e :: es) [] pos) (tCall sp dvs E t) := by
  intro pins s σ H Q I h
  refine wpAny_Call_Name_kw (ld_glob I hg hm ?_ hdb)
  refine PySem.W.callWith_K (h₀ := X.base) I.ok.mod.kin hk (thn (ha pos pins s σ H _ I h) fun us s1 ⟨vs, H1, I1, r, q⟩ => ⟨I1.kIn, ?_⟩) he hpl
  exact run_fn F hr hb hd hx I1 r q
theorem pe_call0 (F : FnOk X.prog X.w X.K X.mg X.base CX k f fd ps sp) (hr : Room k X.A) (hg : Gl X x) (hm : X.mg x = some (.ref f)) (hk : PySem.W.keepIn X.K (.ref f) = true) (hb : Binds X.K fd ps ds) (hd : Vals dvs ds) (hx : Passes CX X E)
    (hdb : (x == ("__debug__" : Str)) = false := by decide) : PE X (.Call (.Name x p) [] [] pos) (tCall sp dvs E tNil) := by
  intro pins s σ H Q I h
  refine wpAny_Call_Name_kw (ld_glob I hg hm ?_ hdb)
  exact PySem.W.callWith_K0 I.kIn hk (run_fn (us := []) F hr hb hd hx I .nil h)

/-- what a class must have to be made -/
structure Mk (K : PySem.W.Frag) (C f : Addr) : Prop where
  makes : PySem.W.makesIn K C = true
  init : PySem.W.findIn K (.ref C) "__init__" = some (some (.ref f))
  fn : PySem.W.isFn K (.ref f) = true
  kp : PySem.W.keepIn K (.ref C) = true

end

/-! ### keywords -/
section
variable {X : Cx} {CX : CXT} {k : Nat} {f C : Addr} {fd : FuncData} {ps ks : List Str} {sp : Sp} {E : XK} {x m : Str} {p pos apos kpos : Pos} {e o : Expr} {es : List Expr} {kws : List Keyword} {te ta : TE} {t tk : TA} {nm : Option Str}
/-- how a call with keywords binds: g puts the positional values us and the keywords' values ws (names ks) in the parameters' order, defaults among them -/
structure KBinds (K : PySem.W.Frag) (fd : FuncData) (ps ks : List Str) (g : List Value → List Value → List Value) (gV : List V → List V → List V) : Prop where
  to : ∀ (s : Shared) (us ws : List Value), K.In s.heap → (g us ws).length = ps.length → BindsTo s fd ⟨us, ks.zip ws⟩ (ps.zip (g us ws))
  rel : ∀ {vs : List V} {us : List Value} {zs : List V} {ws : List Value}, Vals vs us → Vals zs ws → Vals (gV vs zs) (g us ws)
variable {g : List Value → List Value → List Value} {gV : List V → List V → List V}
end

/-! ### a def's body keeps its promise -/
/-- names: the parameters first -/
structure FnScope (N P : List Str) (sc : Scope) : Prop where
  kind : sc.kind = .function
  co : sc.isCoroutine = false
  gen : sc.isGenerator = false
  nd : N.Nodup
  pre : N.take P.length = P
  par : ∀ x ∈ P, sc.names.lookup x = some .local ∨ sc.names.lookup x = some .cell
  nofree : ∀ y ∈ sc.names, y.2 ≠ .free

theorem bindL_out {kindOf : Str → Option NameKind} {x : Str} : ∀ {binds : List (Str × Value)} {m : Str → Option Value}, (∀ v, (x, v) ∉ binds) → bindL kindOf binds m x = m x
  | [], _, _ => rfl
  | (n, v) :: r, m, h => by
    unfold bindL
    rw [bindL_out fun w hw => h w (List.mem_cons_of_mem _ hw)]
    split
    · have : x ≠ n := by rintro rfl; exact h v List.mem_cons_self
      simp [this]
    · rfl
theorem bindC_out {kindOf : Str → Option NameKind} {x : Str} : ∀ {binds : List (Str × Value)} {m : Str → Option Value}, (∀ v, (x, v) ∉ binds) → bindC kindOf binds m x = m x
  | [], _, _ => rfl
  | (n, v) :: r, m, h => by
    unfold bindC
    rw [bindC_out fun w hw => h w (List.mem_cons_of_mem _ hw)]
    split
    · rfl
    · have : x ≠ n := by rintro rfl; exact h v List.mem_cons_self
      simp [this]
theorem bindL_get {kindOf : Str → Option NameKind} {x : Str} {v : Value} : ∀ {P : List Str} {vs : List Value} {i : Nat} {m : Str → Option Value}, P.Nodup → P[i]? = some x → vs[i]? = some v → kindOf x = some .local →
    bindL kindOf (P.zip vs) m x = some v
  | [], _, _, _, _, h, _, _ => by simp at h
  | _ :: _, [], _, _, _, _, h, _ => by simp at h
  | p :: P, w :: vs, 0, m, nd, h1, h2, hk => by
    simp at h1 h2; subst h1; subst h2
    show bindL kindOf ((p, w) :: P.zip vs) m p = _
    unfold bindL
    rw [bindL_out fun v hv => (List.nodup_cons.mp nd).1 (List.of_mem_zip hv).1, if_pos hk]
    simp
  | p :: P, w :: vs, i + 1, m, nd, h1, h2, hk => by
    show bindL kindOf ((p, w) :: P.zip vs) m x = _
    unfold bindL
    exact bindL_get (i := i) (List.nodup_cons.mp nd).2 (by simpa using h1) (by simpa using h2) hk
theorem bindC_get {kindOf : Str → Option NameKind} {x : Str} {v : Value} : ∀ {P : List Str} {vs : List Value} {i : Nat} {m : Str → Option Value}, P.Nodup → P[i]? = some x → vs[i]? = some v → kindOf x ≠ some .local →
    bindC kindOf (P.zip vs) m x = some v
  | [], _, _, _, _, h, _, _ => by simp at h
  | _ :: _, [], _, _, _, _, h, _ => by simp at h
  | p :: P, w :: vs, 0, m, nd, h1, h2, hk => by
    simp at h1 h2; subst h1; subst h2
    show bindC kindOf ((p, w) :: P.zip vs) m p = _
    unfold bindC
    rw [bindC_out fun v hv => (List.nodup_cons.mp nd).1 (List.of_mem_zip hv).1, if_neg hk]
    simp
  | p :: P, w :: vs, i + 1, m, nd, h1, h2, hk => by
    show bindC kindOf ((p, w) :: P.zip vs) m x = _
    unfold bindC
    exact bindC_get (i := i) (List.nodup_cons.mp nd).2 (by simpa using h1) (by simpa using h2) hk

/-- the names' values at the entry -/
def start (N : List Str) (vs : List V) : St := vs.map some ++ List.replicate (N.length - vs.length) none

/-- the context of a def's body, at its entry; an exception leaves the frame, then lies as CX says -/
def cxOf (CX : CXT) (P : Program) (w : World) (K : PySem.W.Frag) (mg : Str → Option Value) (base : Heap) (N : List Str) (qual : Str) (scope : Scope) (f : Addr) (cd : Value) (A : Around) (outer : List Env) (s : Shared) (H : Hp) (E : XK) : Cx where
  prog := P
  w := w
  K := K
  mg := mg
  base := base
  A := A.deeper (envOfC qual scope s.heap.objs.size f cd)
  N := N
  s_0 := s
  H_0 := H
  env := envOfC qual scope s.heap.objs.size f cd
  outer := outer
  stack := envOfC qual scope s.heap.objs.size f cd :: outer
  ex := []
  calm := true
  fn := fun _ => true
  pn := []
  xe := fun e s' => wpAny (model P w) (A.deeper (envOfC qual scope s.heap.objs.size f cd)) (leaving (envOfC qual scope s.heap.objs.size f cd) e) (fun _ s'' => CX outer H s E e s'') (fun e' s'' => CX outer H s E e' s'') s'

theorem cell_has {sc : Scope} {n : Nat} {x : Str} (h : sc.names.lookup x = some .cell) : ∃ c, (cellsFrom n sc.names []).lookup x = some c := by
  have q := PySem.W.cellsFrom_some sc.names n [] (.inl h)
  exact Option.isSome_iff_exists.mp q

theorem inv_start {CX : CXT} {P : Program} {w : World} {K : PySem.W.Frag} {mg : Str → Option Value} {base : Heap} {N ps : List Str} {qual : Str} {scope : Scope} {f : Addr} {cd : Value} {A : Around} {outer : List Env} {s s1 : Shared} {H : Hp} {E : XK} {us : List Value} {vs : List V}
    (S : FnScope N ps scope) (hd : A.handled = none) (e0 : Env0 P w K mg base A outer s H) (hl : vs.length = ps.length) (r : Vals vs us)
    (x : InCallC s s.heap.objs.size (bindL (envOfC qual scope s.heap.objs.size f cd).kindOf (ps.zip us) fun _ => none) (cellsFrom (s.heap.objs.size + 1) scope.names []) (bindC (envOfC qual scope s.heap.objs.size f cd).kindOf (ps.zip us) fun _ => none) s1) :
    Inv (cxOf CX P w K mg base N qual scope f cd A outer s H E) [] (start N vs) H s1 := by
  have hpl : ps.length ≤ N.length := by have := congrArg List.length S.pre; rw [List.length_take] at this; omega
  obtain ⟨h1, tk, rfl, hk⟩ := x.done
  have noA : ∀ b : Addr, b ∉ (cxOf CX P w K mg base N qual scope f cd A outer s H E).ex := fun b z => absurd (show b ∈ ([] : List Addr) from z) (by simp)
  refine ⟨⟨e0.mod, S.kind, rfl, rfl, Nat.le_refl _, fun y z c h1 h2 => ?_, fun y hy => ?_, fun y c _ h => ?_, fun _ => hd, Around.frames_deeper e0.frames, .inr ⟨rfl, rfl⟩, fun b z => absurd z (noA b), e0.bs, e0.bsz, fun b _ _ => noA b, fun b z => absurd z (noA b), e0.funs, e0.frf⟩,
    rfl, e0.bare, Un.kept hk, ⟨_, x.toInCall.ns, fun i y v h1 h2 h3 => ?_⟩, fun y c h => ⟨_, x.cell y c h⟩, e0.hok.fresh (Nat.le_refl _), fun y c h => ?_, fun p hp => absurd (show p ∈ ([] : List (Addr × Obj)) from hp) (by simp), e0.hok.kept hk, ?_⟩
  · exact name_of_addr x.apart (PySem.mem_of_lookup h1) (PySem.mem_of_lookup h2)
  · have hy : scope.names.lookup y = some .cell ∨ scope.names.lookup y = some .free := hy
    rcases hy with hy | hy
    · exact cell_has hy
    · exact absurd rfl (S.nofree _ (PySem.mem_of_lookup hy))
  · exact Nat.le_of_lt (x.above y c (PySem.mem_of_lookup h))
  · have hi : i < vs.length := by
      unfold start at h2
      by_cases hi : i < vs.length
      · exact hi
      · rw [List.getElem?_append_right (by simpa using hi)] at h2
        rw [List.getElem?_replicate] at h2
        split at h2 <;> cases h2
    have ha : vs[i]? = some v := by
      unfold start at h2
      rw [List.getElem?_append_left (by simpa using hi), List.getElem?_map] at h2
      cases e : vs[i]? with
      | none => rw [e] at h2; cases h2
      | some a => rw [e] at h2; cases h2; rfl
    obtain ⟨u, hu, rv⟩ := r.get ha
    have hp : ps[i]? = some y := by
      rw [← S.pre, List.getElem?_take_of_lt (by omega)]; exact h1
    have ndP : ps.Nodup := by rw [← S.pre]; exact S.nd.sublist (List.take_sublist _ _)
    refine ⟨u, rv, ?_⟩
    rcases S.par y (List.mem_of_getElem? hp) with k | k
    · exact .inl ⟨k, bindL_get ndP hp hu k⟩
    · obtain ⟨c, e⟩ := cell_has (n := s.heap.objs.size + 1) k
      refine .inr ⟨.inl k, c, e, ?_⟩
      have q := x.cell y c e
      rw [bindC_get ndP hp hu (by show scope.names.lookup y ≠ _; rw [k]; decide)] at q
      exact q
  · exact e0.hok.fresh (Nat.le_of_lt (x.above y c (PySem.mem_of_lookup h)))
  · unfold start
    show _ = N.length
    rw [List.length_append, List.length_map, List.length_replicate]
    omega

/-- THE RULE: a def (or a method) of the text, by its body. The body's reading t is chosen for each entry; it is run at the parameters' values -/
theorem fn_of {CX : CXT} {P : Program} {w : World} {K : PySem.W.Frag} {mg : Str → Option Value} {base : Heap} {k : Nat} {f : Addr} {name qual : Str} {params : Arguments} {body : List Stmt} {scope : Scope} {dV kV doc pm cdv ct oc : Value} {an od : Option Addr}
    {osl : Array (Option Value)} {N ps : List Str} {sp : Sp} (lk : K.lookup f = some ⟨oc, od, .func (PySem.W.fnOf name qual params body scope dV kV doc pm an cdv ct), osl⟩) (hcd : PySem.W.codeIn K cdv qual = true) (S : FnScope N ps scope)
    (len : ∀ vs H Q E, sp vs H Q E → vs.length = ps.length)
    (hbody : ∀ (A : Around) (outer : List Env) (s : Shared) (H : Hp) (vs : List V) (Q : VK) (E : XK), Room k (A.deeper (envOfC qual scope s.heap.objs.size f cdv)) → sp vs H Q E →
      ∃ t, PSs (cxOf CX P w K mg base N qual scope f cdv A outer s H E) body t ∧ t { nx := fun _ H' => Q .non H', rt := Q } (start N vs) H) :
    FnOk P w K mg base CX (k + 1) f (PySem.W.fnOf name qual params body scope dV kV doc pm an cdv ct) ps sp := by
  refine ⟨len, fun A outer s H args us vs Q E hr e0 hb r hsp => ?_⟩
  have hl := len _ _ _ _ hsp
  have KX : K.In s.heap := e0.mod.kin.keeps fun b o e => (e0.bs b o e).1
  have lim : s.heap.NoLimit := e0.mod.nolimit.keeps fun b o e => (e0.bs b o e).1
  have hkind : ∀ y ∈ ps.zip us, scope.names.lookup y.1 = some .local ∨ (scope.names.lookup y.1 = some .cell ∧ ((cellsFrom (s.heap.objs.size + 1) scope.names []).lookup y.1).isSome = true) := fun ⟨n, v⟩ hy => by
    rcases S.par n (List.of_mem_zip hy).1 with q | q
    · exact .inl q
    · exact .inr ⟨q, PySem.W.cellsFrom_some _ _ _ (.inl q)⟩
  refine codeAny_call_function hr.depth (KX _ _ lk) rfl S.co S.gen rfl (PySem.W.codeRec_of KX hcd) (hb _ _ _ _ ?_)
  refine wpAny_newFunctionEnv_cells S.kind hkind fun env he s1 x => ?_
  subst he
  refine ⟨lim.keeps x.toInCall.keep, codeAny_func ?_⟩
  obtain ⟨t, ht, hq⟩ := hbody A outer s H vs Q E (hr.deeper _) hsp
  have I : Inv (cxOf CX P w K mg base N qual scope f cdv A outer s H E) [] (start N vs) H s1 := inv_start S hr.hd e0 hl r x
  refine wpAny_mono (ht [] s1 (start N vs) H _ I hq) (fun fl s' hs => ?_) fun e s' hs => hs
  have fin : ∀ {σ' : St} {H' : Hp} {v : V} {u : Value}, Inv (cxOf CX P w K mg base N qual scope f cdv A outer s H E) [] σ' H' s' → RelV v u → Q v H' → CE outer P w H s Q u s' :=
    fun {σ' H' v u} J rv q => ⟨v, H', J.os, J.bare, J.base, J.hok, rv, q⟩
  cases fl with
  | ret u =>
    obtain ⟨v, σ', H', J, rv, q⟩ := hs
    exact fin J rv q
  | next =>
    obtain ⟨σ', H', J, q⟩ := hs
    exact fin (v := V.non) (u := Value.none) J rfl q
  | brk =>
    obtain ⟨_, _, _, q⟩ := hs
    exact False.elim q
  | cont =>
    obtain ⟨_, _, _, q⟩ := hs
    exact False.elim q
end L2

namespace L2
open PySem PySem.Spec PyProof.Rows
section
variable {X : Cx} {x : Str} {p pos : Pos} {e : Expr} {es : List Expr} {t : TA} {id T : String} {r : List V → Hp → VK → Prop}

def tCB (r : List V → Hp → VK → Prop) (t : TA) : TE := fun σ H Q => t σ H fun vs H1 => r vs H1 Q
/-- f(e, ..), f a built-in function -/
theorem pe_callB (hc : CallR X (.builtin id) r) (hg : Gl X x) (hm : X.mg x = none) (hv : bootBuiltins x = some (.builtin id)) (ha : PA X (e :: es) t) (hn : x ≠ "__name__" := by decide) (hdb : (x == ("__debug__" : Str)) = false := by decide)
    (he : starEach (e :: es) X.env = (false, eval e X.env) :: starEach es X.env := by rfl) (hpl : (backTo pos (starEach es X.env)).any (·.1) = false := by rfl) : PE X (.Call (.Name x p) (e :: es) [] pos) (tCB r t) := by
  intro pins s σ H Q I h
  refine wpAny_Call_Name_kw (ld_blt I hg hm hv ?_ hn hdb)
  exact PyProof.Rows.callWith_builtin1 (thn (ha pos pins s σ H _ I h) fun us s1 ⟨vs, H1, I1, r1, q1⟩ => hc pins s1 σ H1 vs us Q I1 r1 q1) he hpl
/-- T(e, ..), T a built-in type -/
theorem pe_callTy (hc : CallR X (.type T) r) (hg : Gl X x) (hm : X.mg x = none) (hv : bootBuiltins x = some (.type T)) (ha : PA X (e :: es) t) (hn : x ≠ "__name__" := by decide) (hdb : (x == ("__debug__" : Str)) = false := by decide)
    (he : starEach (e :: es) X.env = (false, eval e X.env) :: starEach es X.env := by rfl) (hpl : (backTo pos (starEach es X.env)).any (·.1) = false := by rfl) : PE X (.Call (.Name x p) (e :: es) [] pos) (tCB r t) := by
  intro pins s σ H Q I h
  refine wpAny_Call_Name_kw (ld_blt I hg hm hv ?_ hn hdb)
  exact PyProof.Rows.callWith_type1 (thn (ha pos pins s σ H _ I h) fun us s1 ⟨vs, H1, I1, r1, q1⟩ => hc pins s1 σ H1 vs us Q I1 r1 q1) he hpl
end
end L2

namespace HT
open PySem PyProof.Rows

section
open PySem.SeqAt
open PySem.AutoSeq1 (wpAny_loadPart')
open PySem.MeetsSeq PySem.MeetsSeq2 PySem.MeetsSeq3

end

section
variable {prog : Program} {w : World} {A : Around} {E : Value → Shared → Prop} {s : Shared}

/-- t + u, t not empty -/
theorem cat_tup {t b : Addr} {vs ws : List Value} {Q : Value → Shared → Prop} (ht : IsTup s.heap t vs.toArray) (hb : IsTup s.heap b ws.toArray) (hv : vs ≠ [])
    (h1 : ws = [] → Q (.ref t) s) (h2 : ws ≠ [] → Q (.ref s.heap.objs.size) { s with heap := s.heap.push { cls := .type "tuple", data := .seq (vs ++ ws).toArray } })
    (hsz : vs.length + ws.length ≤ sizeLine) : wpAny (model prog w) A (binaryOp .Add (.ref t) (.ref b)) Q E s := by
  obtain ⟨⟨cls, dd, data, sl⟩, ho, hc, n, hd⟩ := id ht
  obtain ⟨⟨cls2, dd2, data2, sl2⟩, ho2, hc2, n2, hd2⟩ := id hb
  simp only at hc hd hc2 hd2
  subst hc hd hc2 hd2
  have e : vs.toArray ++ ws.toArray = (vs ++ ws).toArray := by simp
  by_cases hw : ws = []
  · exact concat_meets ⟨_, ho, rfl⟩ ⟨_, ho2, rfl⟩ noFill_tuple_add seq_tuple_add PySem.F.slot_tuple_add PySem.F.entry_tuple_add (PySem.F.args_tuple_add_2 _ _)
      (tuple_addW1 t b vs.toArray ws.toArray n n2 dd dd2 sl sl2 (by simpa using hv) (by simp [hw])) ⟨ho, ho2, h1 hw⟩
  · refine concat_meets ⟨_, ho, rfl⟩ ⟨_, ho2, rfl⟩ noFill_tuple_add seq_tuple_add PySem.F.slot_tuple_add PySem.F.entry_tuple_add (PySem.F.args_tuple_add_2 _ _)
      (tuple_addW2 t b vs.toArray ws.toArray n n2 dd dd2 sl sl2 (by simpa using hv) (by simpa using hw) (by rw [List.size_toArray, List.size_toArray]; exact hsz)) ⟨ho, ho2, ?_⟩
    rw [e]
    exact h2 hw

/-! ### t[a:b], not the whole -/
/-- a slice's bound as a place among n (d where it is left out) -/
def sIx (n d : Nat) : Option Int → Nat
  | none => d
  | some v => if v < 0 then (v + (n : Int)).toNat else min v.toNat n
theorem sIx_none (n d : Nat) : sIx n d none = d := rfl
theorem sIx_nat (n d k : Nat) : sIx n d (some (k : Int)) = min k n := by
  show (if (k : Int) < 0 then ((k : Int) + (n : Int)).toNat else min (k : Int).toNat n) = min k n
  rw [if_neg (by omega), Int.toNat_natCast]
theorem sIx_le (n d : Nat) (hd : d ≤ n) (o : Option Int) : sIx n d o ≤ n := by
  cases o with
  | none => exact hd
  | some v =>
    show (if v < 0 then (v + (n : Int)).toNat else min v.toNat n) ≤ n
    by_cases hv : v < 0
    · rw [if_pos hv]; omega
    · rw [if_neg hv]; exact Nat.min_le_right _ _
theorem clip_eq (v : Int) (n d : Nat) : (if v < 0 then max (v + (n : Int)) 0 else min v (n : Int)) = ((sIx n d (some v) : Nat) : Int) := by
  show (if v < 0 then max (v + (n : Int)) 0 else min v (n : Int)) = (((if v < 0 then (v + (n : Int)).toNat else min v.toNat n) : Nat) : Int)
  by_cases hv : v < 0
  · simp only [if_pos hv]; omega
  · simp only [if_neg hv]; omega
theorem adjust_gen (lo hi : Option Int) (n : Nat) : Builtin.Slice.sliceAdjust lo hi 1 (n : Int) = (((sIx n 0 lo : Nat) : Int), ((sIx n n hi : Nat) : Int)) := by
  have h1 : ¬ ((1 : Int) < 0) := by omega
  unfold Builtin.Slice.sliceAdjust
  simp only [h1, if_false]
  refine Prod.ext ?_ ?_
  · cases lo with
    | none => rfl
    | some v => exact clip_eq v n 0
  · cases hi with
    | none => rfl
    | some v => exact clip_eq v n n
theorem places_gen (i j : Nat) : Builtin.Slice.slicePlaces (i : Int) (j : Int) 1 = j - i := by
  unfold Builtin.Slice.slicePlaces
  have h1 : (1 : Int) > 0 := by omega
  simp only [h1, if_true, Int.ediv_one]
  split <;> omega
theorem slicePart_ {v : Value} {o : Option Int} {Q : Option Int → Shared → Prop} (p : IsPart v o) (h : Q o s) : wpAny (model prog w) A (Builtin.Slice.slicePartIndex v) Q E s := by
  cases p with
  | none => exact slicePart_none h
  | int i t => exact slicePart_int h
theorem sliceApplied_gen {sl : Addr} {vl vu : Value} {lo hi : Option Int} {n : Nat} {Q : Int × Int × Nat → Shared → Prop} (hs : s.heap.IsSliceOf sl vl vu .none) (pl : IsPart vl lo) (pu : IsPart vu hi)
    (h : Q (((sIx n 0 lo : Nat) : Int), 1, sIx n n hi - sIx n 0 lo) s) : wpAny (model prog w) A (Builtin.Slice.sliceApplied (.ref sl) (pure (n : Int))) Q E s := by
  obtain ⟨os, hos, hcs, hds⟩ := id hs
  unfold Builtin.Slice.sliceApplied Builtin.Slice.sliceFields
  refine wpAny_bind (wpAny_bind (wpAny_field hos hds (x := vl) rfl (wpAny_bind (wpAny_field hos hds (x := vu) rfl (wpAny_bind (wpAny_field hos hds (x := .none) rfl (wpAny_pure ?_)))))))
  refine wpAny_bind (slicePart_none ?_)
  show wpAny _ _ (if ((1 : Int) == 0) = true then _ else _) _ _ s
  rw [if_neg (by decide)]
  refine wpAny_bind (slicePart_ pl (wpAny_bind (slicePart_ pu (wpAny_bind (wpAny_pure ?_)))))
  show wpAny _ _ (match Builtin.Slice.sliceAdjust lo hi 1 (n : Int) with | (lo, hi) => pure (lo, (1 : Int), Builtin.Slice.slicePlaces lo hi 1)) _ _ s
  rw [adjust_gen lo hi n]
  show wpAny _ _ (pure (((sIx n 0 lo : Nat) : Int), (1 : Int), Builtin.Slice.slicePlaces ((sIx n 0 lo : Nat) : Int) ((sIx n n hi : Nat) : Int) 1)) _ _ s
  rw [places_gen]
  exact wpAny_pure h
theorem pick_gen (xs : Array Value) (i k : Nat) : ((List.range k).filterMap fun (m : Nat) => xs[((i : Int) + (m : Int) * 1).toNat]?).toArray = ((xs.toList.drop i).take k).toArray := by
  have e : (fun (m : Nat) => xs[((i : Int) + (m : Int) * 1).toNat]?) = fun m => xs[i + m]? := by
    funext m
    have : ((i : Int) + (m : Int) * 1).toNat = i + m := by omega
    rw [this]
  rw [e]
  have := pick_run xs i k
  rw [List.filterMap_map] at this
  have e2 : ((fun x => xs[x]?) ∘ fun x => i + x) = fun m => xs[i + m]? := rfl
  rw [e2] at this
  rw [this]

theorem getItem_tuple_cut {t sl : Addr} {items : Array Value} {vl vu : Value} {lo hi : Option Int} {Q : Value → Shared → Prop} (ht : IsTup s.heap t items) (hs : s.heap.IsSliceOf sl vl vu .none) (pl : IsPart vl lo) (pu : IsPart vu hi)
    (hw : ¬ (sIx items.size 0 lo = 0 ∧ sIx items.size items.size hi = items.size))
    (h : Q (.ref s.heap.objs.size) { s with heap := s.heap.push { cls := .type "tuple", data := .seq ((items.toList.drop (sIx items.size 0 lo)).take (sIx items.size items.size hi - sIx items.size 0 lo)).toArray } })
    (hsz : items.size ≤ sizeLine) : wpAny (model prog w) A (getItem (.ref t) (.ref sl)) Q E s := by
  have htake : sizeOk (.seq ((items.toList.drop (sIx items.size 0 lo)).take (sIx items.size items.size hi - sIx items.size 0 lo)).toArray) := by
    show ((items.toList.drop (sIx items.size 0 lo)).take (sIx items.size items.size hi - sIx items.size 0 lo)).toArray.size ≤ sizeLine
    rw [List.size_toArray, List.length_take, List.length_drop, Array.length_toList]
    omega
  have hj : sIx items.size items.size hi ≤ items.size := sIx_le _ _ (Nat.le_refl _) hi
  obtain ⟨os, hos, hcs, hds⟩ := id hs
  have hTs : s.TypeIs (.ref sl) "slice" := ⟨os, hos, hcs⟩
  unfold getItem
  try with_reducible refine wpAny_holding ?_
  first | refine wpAny_bind (wpAny_pure ?_) | skip
  refine wpAny_bind (wpAny_sequenceKey ht.typeIs (by decide) ?_)
  refine wpAny_bind (wpAny_callSpecial?_slot (name := Str.ofString "__getitem__") ht.typeIs PyProof.Rows.slot_tuple_getitem
    (wpAny_call_entry PyProof.Rows.slot_tuple_getitem ht.typeIs entry_tuple_getitem ?_ (args_tuple_getitem _ _)))
  show wpAny _ _ (Builtin.Tuple.tupleItemsOf (.ref t) >>= _) _ _ s
  refine wpAny_bind (tupleItemsOf_ ht ?_)
  refine wpAny_bind (wpAny_typeOf hTs ?_)
  rw [if_pos (by decide)]
  refine wpAny_bind (sliceApplied_gen hs pl pu ?_)
  have hno : ¬ ((((sIx items.size 0 lo : Nat) : Int) == 0 && (1 : Int) == 1 && (sIx items.size items.size hi - sIx items.size 0 lo) == items.size) = true) := by
    intro q
    rw [Bool.and_eq_true, Bool.and_eq_true] at q
    have q1 : ((sIx items.size 0 lo : Nat) : Int) = 0 := eq_of_beq q.1.1
    have q2 : sIx items.size items.size hi - sIx items.size 0 lo = items.size := eq_of_beq q.2
    exact hw ⟨by omega, by omega⟩
  show wpAny _ _ (if (((sIx items.size 0 lo : Nat) : Int) == 0 && (1 : Int) == 1 && (sIx items.size items.size hi - sIx items.size 0 lo) == items.size) = true then _ else _) _ _ s
  rw [if_neg hno, pick_gen]
  first
    | exact wpAny_bind (m := Builtin.Tuple.tupleExact _) (wpAny_newObj_type (wpAny_pure ⟨_, rfl, wpAny_pure h⟩) htake)
    | exact wpAny_bind (m := Builtin.Tuple.tupleExact _) (wpAny_newObj_type (wpAny_bind (wpAny_pure (wpAny_pure ⟨_, rfl, wpAny_pure h⟩))) htake)
    | exact wpAny_bind (wpAny_bind (m := Builtin.Tuple.tupleExact _) (wpAny_newObj_type (wpAny_pure (wpAny_pure ⟨_, rfl, wpAny_pure h⟩)) htake))
    | exact wpAny_bind (wpAny_bind (m := Builtin.Tuple.tupleExact _) (wpAny_newObj_type (wpAny_pure ⟨_, rfl, wpAny_pure h⟩) htake))
end
end HT

namespace L2
open PySem PySem.Spec PyProof.Rows

/-! ### the parts of a slice -/
abbrev TO := St → Hp → (Option Int → Hp → Prop) → Prop
/-- a slice's part (left out, or an int) -/
def PO (X : Cx) (e : Option Expr) (t : TO) : Prop :=
  ∀ (pins : List (Addr × Obj)) (s : Shared) (σ : St) (H : Hp) (Q : Option Int → Hp → Prop), Inv X pins σ H s → t σ H Q →
    wpAny (model X.prog X.w) X.A (evalPart e X.env) (fun u s' => ∃ o H', Inv X pins σ H' s' ∧ IsPart u o ∧ Q o H') X.xe s
def tNoPart : TO := fun _ H Q => Q none H
def tPart (t : TE) : TO := fun σ H Q => t σ H fun x H1 => ∃ i, x = .int i ∧ Q (some i) H1

section
variable {X : Cx} {e : Expr} {te : TE} {lo hi : Option Expr} {tl th : TO} {pos p2 : Pos}

theorem po_none : PO X none tNoPart := by
  intro pins s σ H Q I h
  rw [evalPart_none]
  exact wpAny_pure ⟨none, H, I, .none, h⟩
theorem po_some (h : PE X e te) : PO X (some e) (tPart te) := by
  intro pins s σ H Q I hw
  rw [evalPart_some]
  refine thn (h pins s σ H _ I hw) fun u s1 ⟨x, H1, I1, r1, q1⟩ => ?_
  obtain ⟨i, rfl, q⟩ := q1
  obtain ⟨t, rfl⟩ := r1
  exact ⟨some i, H1, I1, .int i t, q⟩

/-- what a slice of a value is, by values: the slice object stands at sl -/
def SlR (X : Cx) (r : V → Option Int → Option Int → Hp → VK → Prop) : Prop :=
  ∀ (pins : List (Addr × Obj)) (s : Shared) (σ : St) (H : Hp) (x : V) (v vl vu : Value) (lo hi : Option Int) (sl : Addr) (Q : VK), Inv X pins σ H s → RelV x v → s.heap.IsSliceOf sl vl vu .none → IsPart vl lo → IsPart vu hi → r x lo hi H Q →
    ∃ T id, typeLookup (.type T) "__getitem__" = pure (some (.builtin id)) ∧ s.TypeIs v T ∧ wpAny (model X.prog X.w) X.A (getItem v (.ref sl)) (EP X pins σ Q) X.xe s
theorem SlR.or {r r' : V → Option Int → Option Int → Hp → VK → Prop} (h : SlR X r) (h' : SlR X r') : SlR X (fun x lo hi H Q => r x lo hi H Q ∨ r' x lo hi H Q) := by
  intro pins s σ H x v vl vu lo hi sl Q I rx hs pl pu q
  rcases q with q | q
  · exact h pins s σ H x v vl vu lo hi sl Q I rx hs pl pu q
  · exact h' pins s σ H x v vl vu lo hi sl Q I rx hs pl pu q
def tSl (r : V → Option Int → Option Int → Hp → VK → Prop) (te : TE) (tl th : TO) : TE := fun σ H Q => te σ H fun x H1 => tl σ H1 fun l H2 => th σ H2 fun u H3 => r x l u H3 Q
/-- a[lo:hi], any a -/
theorem pe_slice {r : V → Option Int → Option Int → Hp → VK → Prop} (hr : SlR X r) (he : PE X e te) (hl : PO X lo tl) (hu : PO X hi th) : PE X (.Subscript e (.Slice lo hi none p2) pos) (tSl r te tl th) := by
  intro pins s σ H Q I h
  refine Subscript_ (thn (he pins s σ H _ I h) fun v s1 ⟨x, H1, I1, r1, q1⟩ => ?_)
  refine wpAny_Slice (thn (hl pins s1 σ H1 _ I1 q1) fun vl s2 ⟨l, H2, I2, pl, q2⟩ => thn (hu pins s2 σ H2 _ I2 q2) fun vu s3 ⟨u, H3, I3, pu, q3⟩ => ?_)
  rw [evalPart_none]
  refine wpAny_pure ?_
  have I4 : Inv X pins σ H3 { s3 with heap := s3.heap.push { cls := .type "slice", data := .fields #[vl, vu, .none] } } := I3.kept (t' := s3.toks) fun b ob q => Heap.get?_push_of_some _ q
  obtain ⟨T, id, hT, ht, hg⟩ := hr pins { s3 with heap := s3.heap.push { cls := .type "slice", data := .fields #[vl, vu, .none] } } σ H3 x v vl vu l u s3.heap.objs.size Q I4 r1 (Heap.IsSliceOf.new ..) pl pu q3
  show wpAny (model X.prog X.w) X.A (subscriptTail e (.Slice lo hi none p2) v (.ref s3.heap.objs.size)) (EP X pins σ Q) X.xe { s3 with heap := s3.heap.push { cls := .type "slice", data := .fields #[vl, vu, .none] } }
  exact tail_any (ops := [.ref s3.heap.objs.size, v]) ht hT hg (by with_unfolding_all rfl)

/-- the items of xs[lo:hi] -/
def cutV (xs : List V) (lo hi : Option Int) : List V := (xs.drop (HT.sIx xs.length 0 lo)).take (HT.sIx xs.length xs.length hi - HT.sIx xs.length 0 lo)
theorem cutV_length (xs : List V) (lo hi : Option Int) : (cutV xs lo hi).length ≤ xs.length := by
  unfold cutV
  rw [List.length_take, List.length_drop]
  omega
/-- t[lo:hi], not the whole of it (the whole would be t itself) -/
def rSlT (K : PySem.W.Frag) : V → Option Int → Option Int → Hp → VK → Prop := fun x lo hi H Q => ∃ a xs, x = .ref a ∧ SqT K H a xs ∧
  ¬ (HT.sIx xs.length 0 lo = 0 ∧ HT.sIx xs.length xs.length hi = xs.length) ∧ ∀ p, H p = none → Q (.ref p) (upd H p (.tup (cutV xs lo hi)))
theorem sl_tup : SlR X (rSlT X.K) := by
  intro pins s σ H x v vl vu lo hi sl Q I rx hs pl pu h
  obtain ⟨a, xs, rfl, hx, hw, q⟩ := h
  cases rx
  obtain ⟨its, r, ht, hz⟩ := I.tuple hx
  have hlen : its.toArray.size = xs.length := by rw [List.size_toArray]; exact r.length.symm
  refine ⟨"tuple", _, PyProof.Rows.slot_tuple_getitem.lookup, ht.typeIs, ?_⟩
  refine HT.getItem_tuple_cut ht hs pl pu (by rw [hlen]; exact hw) ?_ (by rw [hlen]; exact hz)
  rw [hlen]
  refine ⟨.ref s.heap.objs.size, _, I.laid (t' := s.toks) (o := .tup (cutV xs lo hi)) (fun b ob q => Heap.get?_push_of_some _ q) (Nat.le_refl _) ?_, rfl, q _ (I.hok.fresh (Nat.le_refl _))⟩
  exact ⟨Nat.le_trans (cutV_length xs lo hi) hz, _, (r.drop (HT.sIx xs.length 0 lo)).take (HT.sIx xs.length xs.length hi - HT.sIx xs.length 0 lo), IsTup.new _ _, _, Heap.get?_push_size _ rfl, rfl⟩

/-! ### t < u, t + u -/
/-- t + u, t not empty: u empty gives t itself -/
def rCatT (K : PySem.W.Frag) : R2 := fun x y H Q => ∃ a b xs ys, x = .ref a ∧ y = .ref b ∧ SqT K H a xs ∧ SqT K H b ys ∧ xs ≠ [] ∧ xs.length + ys.length ≤ sizeLine ∧
  (ys = [] → Q (.ref a) H) ∧ (ys ≠ [] → ∀ p, H p = none → Q (.ref p) (upd H p (.tup (xs ++ ys))))
theorem Vals.nil_iff {xs : List V} {us : List Value} (r : Vals xs us) : us = [] ↔ xs = [] := by
  cases r with
  | nil => simp
  | cons _ _ => simp
theorem op_catT : OpR X (binaryOp .Add) (rCatT X.K) := by
  intro pins s σ H x y v u Q I rx ry h
  obtain ⟨a, b, xs, ys, rfl, rfl, ha, hb, hx, hz, q1, q2⟩ := h
  cases rx
  cases ry
  obtain ⟨its, r1, p1, _⟩ := I.tuple ha
  obtain ⟨its2, r2, p2, _⟩ := I.tuple hb
  refine HT.cat_tup p1 p2 (fun z => hx (r1.nil_iff.mp z)) (fun z => ⟨.ref a, H, I, rfl, q1 (r2.nil_iff.mp z)⟩) (fun z => ?_) (by rw [← r1.length, ← r2.length]; exact hz)
  refine ⟨.ref s.heap.objs.size, _, I.laid (t' := s.toks) (o := .tup (xs ++ ys)) (fun b ob q => Heap.get?_push_of_some _ q) (Nat.le_refl _) ?_, rfl, q2 (fun w => z (r2.nil_iff.mpr w)) _ (I.hok.fresh (Nat.le_refl _))⟩
  exact ⟨by rw [List.length_append]; exact hz, _, r1.append r2, IsTup.new _ _, _, Heap.get?_push_size _ rfl, rfl⟩
end
end L2

namespace L2
open PySem PySem.Spec PyProof.Rows

/-! ### places -/
/-- the place that an index of any sign means -/
def ixN (n : Nat) (i : Int) : Option Nat := if 0 ≤ i then (if i < n then some i.toNat else none) else if -(n : Int) ≤ i then some (i + n).toNat else none
def atI {α : Type} (xs : List α) (i : Int) : Option α := (ixN xs.length i).bind fun j => xs[j]?
theorem ixN_seq {n : Nat} {i : Int} {j : Nat} (h : ixN n i = some j) : seqIndex? i n = some j ∧ j < n ∧ -(n : Int) ≤ i ∧ i < n := by
  unfold ixN at h
  by_cases h0 : 0 ≤ i
  · rw [if_pos h0] at h
    by_cases h1 : i < n
    · rw [if_pos h1] at h
      have e : i.toNat = j := Option.some.inj h
      exact ⟨by rw [seqIndex_of h0 h1, e], by omega, by omega, h1⟩
    · rw [if_neg h1] at h; cases h
  · rw [if_neg h0] at h
    by_cases h1 : -(n : Int) ≤ i
    · rw [if_pos h1] at h
      have e : (i + n).toNat = j := Option.some.inj h
      exact ⟨by rw [seqIndex_neg (by omega) h1, e], by omega, h1, by omega⟩
    · rw [if_neg h1] at h; cases h
theorem atI_get {α : Type} {xs : List α} {i : Int} {v : α} (h : atI xs i = some v) : ∃ j, seqIndex? i xs.length = some j ∧ xs[j]? = some v ∧ j < xs.length ∧ -(xs.length : Int) ≤ i ∧ i < xs.length := by
  unfold atI at h
  cases e : ixN xs.length i with
  | none => rw [e] at h; cases h
  | some j =>
    rw [e] at h
    obtain ⟨h1, h2, h3, h4⟩ := ixN_seq e
    exact ⟨j, h1, h, h2, h3, h4⟩
/-! ### what may be subscripted -/
/-- what stands as an index of a plain subscript -/
def PlainIx (b : Expr) : Prop := ∀ o i, subscripted b false o i = operate [o, i] (getItem o i)
/-- a subscript by values -/
def IxR (X : Cx) (r : R2) : Prop :=
  ∀ (value slice : Expr) (pins : List (Addr × Obj)) (s : Shared) (σ : St) (H : Hp) (x y : V) (v u : Value) (Q : VK), Inv X pins σ H s → RelV x v → RelV y u → r x y H Q →
    subscripted slice false v u = operate [v, u] (getItem v u) → wpAny (model X.prog X.w) X.A (subscriptTail value slice v u) (EP X pins σ Q) X.xe s
/-- a call of a builtin's method by values: the receiver, the arguments -/
def MtR (X : Cx) (id : String) (r : V → List V → Hp → VK → Prop) : Prop :=
  ∀ (pins : List (Addr × Obj)) (s : Shared) (σ : St) (H : Hp) (x : V) (xs : List V) (v : Value) (us : List Value) (Q : VK), Inv X pins σ H s → RelV x v → Vals xs us → r x xs H Q →
    wpAny (model X.prog X.w) X.A (call (.builtin id) (v :: us)) (EP X pins σ Q) X.xe s
section
variable {X : Cx} {a b : Expr} {ta tb : TE} {pos : Pos}
theorem IxR.or {r r' : R2} (h : IxR X r) (h' : IxR X r') : IxR X (fun x y H Q => r x y H Q ∨ r' x y H Q) := by
  intro value slice pins s σ H x y v u Q I rx ry q hs
  rcases q with q | q
  · exact h value slice pins s σ H x y v u Q I rx ry q hs
  · exact h' value slice pins s σ H x y v u Q I rx ry q hs
theorem MtR.or {id : String} {r r' : V → List V → Hp → VK → Prop} (h : MtR X id r) (h' : MtR X id r') : MtR X id (fun x xs H Q => r x xs H Q ∨ r' x xs H Q) := by
  intro pins s σ H x xs v us Q I rx rs q
  rcases q with q | q
  · exact h pins s σ H x xs v us Q I rx rs q
  · exact h' pins s σ H x xs v us Q I rx rs q
/-- a[b] -/
theorem pe_ix {r : R2} (hr : IxR X r) (ha : PE X a ta) (hb : PE X b tb) (hs : PlainIx b) : PE X (.Subscript a b pos) (tOp r ta tb) := by
  intro pins s σ H Q I h
  exact Subscript_ (binT ha hb I h fun v u s2 x y H2 I2 rx ry q => hr a b pins s2 σ H2 x y v u Q I2 rx ry q (hs _ _))

def rIxL (K : PySem.W.Frag) : R2 := fun x y H Q => ∃ p xs i v, x = .ref p ∧ y = .int i ∧ SqL K H p xs ∧ atI xs i = some v ∧ Q v H
def rIxT (K : PySem.W.Frag) : R2 := fun x y H Q => ∃ p xs i v, x = .ref p ∧ y = .int i ∧ SqT K H p xs ∧ atI xs i = some v ∧ Q v H
def rIxS : R2 := fun x y H Q => ∃ z i c, x = .str z ∧ y = .int i ∧ z.length ≤ sizeLine ∧ atI z.cps.toList i = some c ∧ Q (.str ⟨#[c]⟩) H
theorem ix_list : IxR X (rIxL X.K) := by
  intro value slice pins s σ H x y v u Q I rx ry h hs
  obtain ⟨p, xs, i, z, rfl, rfl, hq, he, q⟩ := h
  cases rx
  obtain ⟨t, rfl⟩ := ry
  obtain ⟨its, r, pl, hz⟩ := I.list hq
  obtain ⟨j, h1, h2, h3, h4, h5⟩ := atI_get he
  obtain ⟨w, ew, rw'⟩ := r.get h2
  have hl := r.length
  have hn := line63
  have fin : EP X pins σ Q w s := ⟨z, H, I, rw', q⟩
  by_cases h0 : 0 ≤ i
  · have hj : i.toNat = j := by
      rw [seqIndex_of h0 h5] at h1
      exact Option.some.inj h1
    exact item_listR pl.isList h0 (by omega) (by rw [hj]; simpa using ew) fin hs
  · have hj : (i + (its.toArray.size : Int)).toNat = j := by
      rw [seqIndex_neg (by omega) h4] at h1
      rw [List.size_toArray, ← hl]
      exact Option.some.inj h1
    exact subscriptTail_builtinR (x := w) pl.isList.typeIs slot_list_getitem.lookup
      (wpAny_getItem_list_neg (Q := fun r s' => r = w ∧ EP X pins σ Q r s') pl.isList (by omega) (by rw [List.size_toArray] <;> omega) (by omega) (by rw [hj]; simpa using ew) ⟨rfl, fin⟩) hs
theorem ix_tup : IxR X (rIxT X.K) := by
  intro value slice pins s σ H x y v u Q I rx ry h hs
  obtain ⟨p, xs, i, z, rfl, rfl, hq, he, q⟩ := h
  cases rx
  obtain ⟨t, rfl⟩ := ry
  obtain ⟨its, r, pl, hz⟩ := I.tuple hq
  obtain ⟨j, h1, h2, h3, h4, h5⟩ := atI_get he
  obtain ⟨w, ew, rw'⟩ := r.get h2
  have hl := r.length
  have hn := line63
  have fin : EP X pins σ Q w s := ⟨z, H, I, rw', q⟩
  exact subscriptTail_builtinR (x := w) pl.typeIs slot_tuple_getitem.lookup
    (getItem_tuple (j := j) (Q := fun r s' => r = w ∧ EP X pins σ Q r s') pl (by omega) (by omega) (by rw [List.size_toArray, ← hl]; exact h1) (by simpa using ew) ⟨rfl, fin⟩) hs
theorem ix_str : IxR X rIxS := by
  intro value slice pins s σ H x y v u Q I rx ry h hs
  obtain ⟨z, i, c, rfl, rfl, hz, he, q⟩ := h
  obtain ⟨t, rfl⟩ := rx
  obtain ⟨t', rfl⟩ := ry
  obtain ⟨j, h1, h2, h3, h4, h5⟩ := atI_get he
  have hl : z.cps.toList.length = z.length := by simp [Str.length]
  rw [hl] at h1 h4 h5
  have hn := line63
  exact tail_any (typeIs_str s z t) slot_str_getitem.lookup (getItem_str (c := c) (by
    have e1 : decide (i < -(2 ^ 63 : Int)) = false := decide_eq_false (by omega)
    have e2 : decide (i ≥ 2 ^ 63) = false := decide_eq_false (by omega)
    rw [e1, e2, Bool.or_false]) (by rw [h1]; simpa using h2) ⟨.str ⟨#[c]⟩, H, I.tok _, ⟨_, rfl⟩, q⟩) hs
/-- list, tuple or str -/
def rIx (K : PySem.W.Frag) : R2 := fun x y H Q => rIxL K x y H Q ∨ rIxT K x y H Q ∨ rIxS x y H Q
theorem ix_seq : IxR X (rIx X.K) := ix_list.or (ix_tup.or ix_str)

/-! ### xs[i] = v, any sign -/
/-- the list's object behind a store -/
theorem mapSeq_set (its : List Value) (n j : Nat) (u : Value) : Obj.mapSeq (·.setIfInBounds j u) { cls := .type "list", data := .seq its.toArray n } = { cls := .type "list", data := .seq (its.set j u).toArray n } := by
  simp [Obj.mapSeq]
theorem Inv.lst {pins : List (Addr × Obj)} {σ : St} {H : Hp} {s : Shared} {p : Addr} {xs : List V} (I : Inv X pins σ H s) (h : H p = some (.lst xs)) :
    ∃ (its : List Value) (n : Nat), Vals xs its ∧ s.heap.get? p = some { cls := .type "list", data := .seq its.toArray n } ∧ xs.length ≤ sizeLine := by
  obtain ⟨z, its, n, r, e⟩ := I.hok p _ h
  exact ⟨its, n, r, e, z⟩
/-- the list at p is written by an update of its object -/
theorem Inv.lstUpd {pins : List (Addr × Obj)} {σ : St} {H : Hp} {s : Shared} {p : Addr} {xs ys : List V} {its its' : List Value} {n n' : Nat} {f : Obj → Obj} (I : Inv X pins σ H s) (h : H p = some (.lst xs))
    (ho : s.heap.get? p = some { cls := .type "list", data := .seq its.toArray n }) (hf : f { cls := .type "list", data := .seq its.toArray n } = { cls := .type "list", data := .seq its'.toArray n' }) (r : Vals ys its') (hz : ys.length ≤ sizeLine) (t : Nat) :
    Inv X pins σ (upd H p (.lst ys)) { s with heap := s.heap.update p f, toks := t } := by
  have e : (s.heap.update p f).get? p = some { cls := .type "list", data := .seq its'.toArray n' } := by
    rw [Heap.get?_update_self f ho (by rw [hf] <;> rfl), hf]
  refine I.write (x := p) (e := p) (by rw [h]; trivial) (.inl rfl) (fun b u hb q => (Heap.get?_update_other _ _ (Ne.symm hb)).trans q) ⟨_, e⟩ ?_
  exact ⟨hz, its', n', r, e⟩
def rSetL : V → V → V → Hp → (Hp → Prop) → Prop := fun o i v H Q => ∃ p xs k j, o = .ref p ∧ i = .int k ∧ H p = some (.lst xs) ∧ ixN xs.length k = some j ∧ Q (upd H p (.lst (xs.set j v)))
theorem set_list : PSet X rSetL := by
  intro pins s σ H o i v ov iv u Q I ro ri rv h
  obtain ⟨p, xs, k, j, rfl, rfl, hp, hj, q⟩ := h
  cases ro
  obtain ⟨t, rfl⟩ := ri
  obtain ⟨its, n, r, ho, hz⟩ := I.lst hp
  obtain ⟨h1, h2, h3, h4⟩ := ixN_seq hj
  have hl := r.length
  have hn := line63
  have I' : Inv X pins σ (upd H p (.lst (xs.set j v))) { s with heap := s.heap.update p (Obj.mapSeq (·.setIfInBounds j u)) } :=
    I.lstUpd hp ho (mapSeq_set its n j u) (r.set rv j) (by rw [List.length_set]; exact hz) s.toks
  by_cases h0 : 0 ≤ k
  · have hk : k.toNat = j := by
      rw [seqIndex_of h0 h4] at h1
      exact Option.some.inj h1
    exact PySem.W.ki_setAt ho h0 (by omega) (by rw [List.size_toArray, ← hl]; exact h4) (by rw [hk]; exact ⟨_, I', q⟩)
  · have hk : (k + (its.toArray.size : Int)).toNat = j := by
      rw [seqIndex_neg (by omega) h3] at h1
      rw [List.size_toArray, ← hl]
      exact Option.some.inj h1
    exact PySem.W.ki_setBack ho (by omega) (by rw [List.size_toArray, ← hl]; exact h3) (by omega) (by rw [hk]; exact ⟨_, I', q⟩)

/-! ### slices -/
theorem slice_bounds (lo hi : Option Int) (n : Nat) : (sliceBounds lo hi none n).1 = ((HT.sIx n 0 lo : Nat) : Int) ∧ (sliceBounds lo hi none n).2.1 = ((HT.sIx n n hi : Nat) : Int) ∧ (sliceBounds lo hi none n).2.2 = 1 := by
  refine ⟨?_, ?_, rfl⟩
  · cases lo with
    | none => simp [sliceBounds, HT.sIx]
    | some i =>
      simp only [sliceBounds, HT.sIx, Option.getD_none, show (1 : Int) > 0 by decide, if_true]
      by_cases h : i < 0
      · simp only [h, if_true] <;> omega
      · simp only [h, if_false] <;> omega
  · cases hi with
    | none => simp [sliceBounds, HT.sIx]
    | some i =>
      simp only [sliceBounds, HT.sIx, Option.getD_none, show (1 : Int) > 0 by decide, if_true]
      by_cases h : i < 0
      · simp only [h, if_true] <;> omega
      · simp only [h, if_false] <;> omega
theorem slicePick_cut (its : List Value) (lo hi : Option Int) : slicePick its.toArray lo hi none = ((its.drop (HT.sIx its.length 0 lo)).take (HT.sIx its.length its.length hi - HT.sIx its.length 0 lo)).toArray := by
  obtain ⟨h1, h2, h3⟩ := slice_bounds lo hi its.toArray.size
  unfold slicePick
  rw [h1, h2, h3]
  simp only [sliceRange_one, pick_run, List.size_toArray] <;> rfl
/-- xs[lo:hi] of a list: a new list -/
def rSlL (K : PySem.W.Frag) : V → Option Int → Option Int → Hp → VK → Prop := fun x lo hi H Q => ∃ a xs, x = .ref a ∧ SqL K H a xs ∧ ∀ p, H p = none → Q (.ref p) (upd H p (.lst (cutV xs lo hi)))
theorem sl_list : SlR X (rSlL X.K) := by
  intro pins s σ H x v vl vu lo hi sl Q I rx hs pl pu h
  obtain ⟨a, xs, rfl, hx, q⟩ := h
  cases rx
  obtain ⟨its, r, ht, hz⟩ := I.list hx
  have hlen := r.length
  refine ⟨"list", _, slot_list_getitem.lookup, ht.isList.typeIs, ?_⟩
  refine wpAny_getItem_list_slice ht.isList hs pl pu .none (by simp) ?_ (by rw [List.size_toArray] <;> omega)
  rw [slicePick_cut, ← hlen]
  refine ⟨.ref s.heap.objs.size, _, I.laid (t' := s.toks) (o := .lst (cutV xs lo hi)) (fun b ob q => Heap.get?_push_of_some _ q) (Nat.le_refl _) ?_, rfl, q _ (I.hok.fresh (Nat.le_refl _))⟩
  exact ⟨Nat.le_trans (cutV_length xs lo hi) hz, _, 0, (r.drop (HT.sIx xs.length 0 lo)).take (HT.sIx xs.length xs.length hi - HT.sIx xs.length 0 lo), Heap.get?_push_size _ rfl⟩

/-! ### in, not in: flat items -/
def flatV : V → Bool
  | .non => true
  | .bl _ => true
  | .int _ => true
  | .str _ => true
  | _ => false
/-- == of flat values -/
def eqV : V → V → Bool
  | .non, .non => true
  | .bl a, .bl b => a == b
  | .bl a, .int b => (if a then 1 else 0) == b
  | .int a, .bl b => a == (if b then 1 else 0)
  | .int a, .int b => a == b
  | .str a, .str b => a == b
  | _, _ => false
theorem eqAt_V {A : Around} {s : Shared} {y x : V} {u v : Value} (ry : RelV y u) (rx : RelV x v) (fy : flatV y = true) (fx : flatV x = true) : SeqAt.EqAt A s u v (eqV y x) := by
  cases y with
  | non =>
    cases ry
    cases x with
    | non => cases rx; exact SeqAt.EqAt.same _
    | bl b => cases rx; exact SeqAt.EqAt.none_bool b
    | int b => obtain ⟨t, rfl⟩ := rx; exact SeqAt.EqAt.none_int b t
    | str b => obtain ⟨t, rfl⟩ := rx; exact SeqAt.EqAt.none_str b t
    | _ => exact absurd (show false = true from fx) Bool.false_ne_true
  | bl a =>
    cases ry
    cases x with
    | non => cases rx; exact SeqAt.EqAt.bool_none a
    | bl b => cases rx; exact SeqAt.EqAt.bool_bool a b
    | int b => obtain ⟨t, rfl⟩ := rx; exact SeqAt.EqAt.bool_int a b t
    | str b => obtain ⟨t, rfl⟩ := rx; exact SeqAt.EqAt.bool_str a b t
    | _ => exact absurd (show false = true from fx) Bool.false_ne_true
  | int a =>
    obtain ⟨t', rfl⟩ := ry
    cases x with
    | non => cases rx; exact SeqAt.EqAt.int_none a t'
    | bl b => cases rx; exact SeqAt.EqAt.int_bool a t' b
    | int b => obtain ⟨t, rfl⟩ := rx; exact SeqAt.EqAt.int_int a t' b t
    | str b => obtain ⟨t, rfl⟩ := rx; exact SeqAt.EqAt.int_str a t' b t
    | _ => exact absurd (show false = true from fx) Bool.false_ne_true
  | str a =>
    obtain ⟨t', rfl⟩ := ry
    cases x with
    | non => cases rx; exact SeqAt.EqAt.str_none a t'
    | bl b => cases rx; exact SeqAt.EqAt.str_bool a t' b
    | int b => obtain ⟨t, rfl⟩ := rx; exact SeqAt.EqAt.str_int a t' b t
    | str b => obtain ⟨t, rfl⟩ := rx; exact SeqAt.EqAt.str_str a t' b t
    | _ => exact absurd (show false = true from fx) Bool.false_ne_true
  | _ => exact absurd (show false = true from fy) Bool.false_ne_true
/-- the items' answers, read off the values (a value's own answer does not lean on its token) -/
def eqU (x : V) (u : Value) : Bool := match u with
  | .none => eqV .non x
  | .bool b => eqV (.bl b) x
  | .int i _ => eqV (.int i) x
  | .str z _ => eqV (.str z) x
  | _ => false
theorem eqU_of {x y : V} {u : Value} (r : RelV y u) (f : flatV y = true) : eqU x u = eqV y x := by
  cases y with
  | non => cases r; rfl
  | bl b => cases r; rfl
  | int i => obtain ⟨t, rfl⟩ := r; rfl
  | str z => obtain ⟨t, rfl⟩ := r; rfl
  | _ => exact absurd (show false = true from f) Bool.false_ne_true
theorem any_eqU {x : V} : ∀ {xs : List V} {us : List Value}, Vals xs us → xs.all flatV = true → us.any (eqU x) = xs.any fun y => eqV y x
  | _, _, .nil, _ => rfl
  | y :: xs, u :: us, .cons r t, f => by
    rw [List.all_cons, Bool.and_eq_true] at f
    rw [List.any_cons, List.any_cons, eqU_of r f.1, any_eqU t f.2]
theorem mem_eqAt {A : Around} {s : Shared} {x : V} {v : Value} (rx : RelV x v) (fx : flatV x = true) : ∀ {xs : List V} {us : List Value}, Vals xs us → xs.all flatV = true → ∀ u ∈ us, SeqAt.EqAt A s u v (eqU x u)
  | _, _, .nil, _ => fun u hu => by cases hu
  | y :: xs, u :: us, .cons r t, f => fun u' hu => by
    rw [List.all_cons, Bool.and_eq_true] at f
    rcases List.mem_cons.mp hu with rfl | hu
    · rw [eqU_of r f.1]; exact eqAt_V r rx f.1 fx
    · exact mem_eqAt rx fx t f.2 u' hu
def inV (x : V) (xs : List V) : Bool := xs.any fun y => eqV y x
/-- x in a list or tuple of flat items -/
def rIn (K : PySem.W.Frag) (neg : Bool) : R2 := fun x y H Q => ∃ p xs, y = .ref p ∧ (SqL K H p xs ∨ SqT K H p xs) ∧ flatV x = true ∧ xs.all flatV = true ∧ Q (.bl (if neg then !inV x xs else inV x xs)) H
theorem op_in_seq : OpR X (compareOp .In) (rIn X.K false) := by
  intro pins s σ H x y v u Q I rx ry h
  obtain ⟨p, xs, rfl, hq, fx, fs, q⟩ := h
  cases ry
  rcases hq with hq | hq
  · obtain ⟨its, r, pl, hz⟩ := I.list hq
    refine SeqAt.in_listAt (eqU x) pl.isList (fun w hw => mem_eqAt rx fx r fs w (by simpa using hw)) ⟨.bl _, H, I, rfl, ?_⟩
    rw [show its.toArray.any (eqU x) = its.any (eqU x) by simp, any_eqU r fs]
    exact q
  · obtain ⟨its, r, pl, hz⟩ := I.tuple hq
    refine SeqAt.in_tupleAt (eqU x) pl (fun w hw => mem_eqAt rx fx r fs w (by simpa using hw)) ⟨.bl _, H, I, rfl, ?_⟩
    rw [show its.toArray.any (eqU x) = its.any (eqU x) by simp, any_eqU r fs]
    exact q
theorem op_notIn_seq : OpR X (compareOp .NotIn) (rIn X.K true) := by
  intro pins s σ H x y v u Q I rx ry h
  obtain ⟨p, xs, rfl, hq, fx, fs, q⟩ := h
  cases ry
  rcases hq with hq | hq
  · obtain ⟨its, r, pl, hz⟩ := I.list hq
    refine SeqAt.notIn_listAt (eqU x) pl.isList (fun w hw => mem_eqAt rx fx r fs w (by simpa using hw)) ⟨.bl _, H, I, rfl, ?_⟩
    rw [show its.toArray.any (eqU x) = its.any (eqU x) by simp, any_eqU r fs]
    exact q
  · obtain ⟨its, r, pl, hz⟩ := I.tuple hq
    refine SeqAt.notIn_tupleAt (eqU x) pl (fun w hw => mem_eqAt rx fx r fs w (by simpa using hw)) ⟨.bl _, H, I, rfl, ?_⟩
    rw [show its.toArray.any (eqU x) = its.any (eqU x) by simp, any_eqU r fs]
    exact q
/-! ### len, list(x), tuple(x) of any list or tuple that is read -/
theorem CallR.or {f : Value} {r r' : List V → Hp → VK → Prop} (h : CallR X f r) (h' : CallR X f r') : CallR X f (fun xs H Q => r xs H Q ∨ r' xs H Q) := by
  intro pins s σ H xs us Q I rs q
  rcases q with q | q
  · exact h pins s σ H xs us Q I rs q
  · exact h' pins s σ H xs us Q I rs q
theorem call_list_of : CallR X (.type "list") (fun xs H Q => ∃ p ys, xs = [.ref p] ∧ (SqL X.K H p ys ∨ SqT X.K H p ys) ∧ ∀ l, H l = none → Q (.ref l) (upd H l (.lst ys))) := by
  intro pins s σ H xs us Q I r h
  obtain ⟨p, ys, rfl, hq, q⟩ := h
  obtain ⟨u, rfl, rx⟩ := vals1 r
  cases rx
  have fin : ∀ (its : List Value), Vals ys its → ys.length ≤ sizeLine → ∀ (h' : Heap) (c' : Nat), (∀ b o', s.heap.get? b = some o' → h'.get? b = some o') →
      h'.get? s.heap.objs.size = some { cls := .type "list", dict := none, data := .seq its.toArray c', slots := #[] } → EP X pins σ Q (.ref s.heap.objs.size) { s with heap := h' } := fun its r' hz h' c' kp e =>
    ⟨.ref s.heap.objs.size, _, I.laid (t' := s.toks) kp (Nat.le_refl _) (show ObjOk X.prog X.w _ h' _ (.lst ys) from ⟨hz, its, c', r', e⟩), rfl, q _ (I.hok.fresh (Nat.le_refl _))⟩
  rcases hq with hq | hq
  · obtain ⟨its, r', pl, hz⟩ := I.list hq
    have hlen := r'.length
    obtain ⟨o, ho, hc, n, hd⟩ := pl.isList
    exact call_list_seq p (.inl rfl) ho hc hd (fun h' c' kp e => fin its r' hz h' c' kp e) (by simp only [List.size_toArray] <;> omega)
  · obtain ⟨its, r', pl, hz⟩ := I.tuple hq
    have hlen := r'.length
    obtain ⟨o, ho, hc, n, hd⟩ := pl
    exact call_list_seq p (.inr rfl) ho hc hd (fun h' c' kp e => fin its r' hz h' c' kp e) (by simp only [List.size_toArray] <;> omega)
theorem call_tuple_of : CallR X (.type "tuple") (fun xs H Q => ∃ p ys, xs = [.ref p] ∧ ((SqL X.K H p ys ∧ ∀ l, H l = none → Q (.ref l) (upd H l (.tup ys))) ∨ (SqT X.K H p ys ∧ Q (.ref p) H))) := by
  intro pins s σ H xs us Q I r h
  obtain ⟨p, ys, rfl, h⟩ := h
  obtain ⟨u, rfl, rx⟩ := vals1 r
  cases rx
  rcases h with ⟨hq, q⟩ | ⟨hq, q⟩
  · obtain ⟨its, r', pl, hz⟩ := I.list hq
    have hlen := r'.length
    refine call_tuple_list pl.isList (fun h' kp => ?_) (by simp only [List.size_toArray] <;> omega)
    have I1 : Inv X pins σ H { s with heap := h' } := I.kept (t' := s.toks) kp
    have I2 : Inv X pins σ (upd H h'.objs.size (.tup ys)) { s with heap := h'.push { cls := .type "tuple", data := .seq its.toArray } } :=
      I1.laid (t' := s.toks) (fun b o e => Heap.get?_push_of_some _ e) (Nat.le_refl _) (show ObjOk X.prog X.w _ _ _ (.tup ys) from ⟨hz, its, r', IsTup.new _ _, _, Heap.get?_push_size _ rfl, rfl⟩)
    exact ⟨.ref h'.objs.size, _, I2, rfl, q _ (I1.hok.fresh (Nat.le_refl _))⟩
  · obtain ⟨its, r', pl, hz⟩ := I.tuple hq
    exact call_tuple_same pl ⟨.ref p, H, I, rfl, q⟩

/-! ### the call of a builtin's method: o.m(..) -/
/-- the value is of that builtin type -/
def tyV (K : PySem.W.Frag) (T : String) (x : V) (H : Hp) : Prop := match x with
  | .str _ => T = "str"
  | .int _ => T = "int"
  | .ref p => (T = "list" ∧ ∃ xs, SqL K H p xs) ∨ (T = "tuple" ∧ ∃ o, K.lookup p = some o ∧ o.cls = .type "tuple" ∧ o.dict = none) ∨
      (T = "dict" ∧ ((∃ kvs, H p = some (.dK kvs)) ∨ ∃ kvs, H p = some (.dT kvs))) ∨ (T = "set" ∧ ∃ S n, H p = some (.set S n))
  | _ => False
theorem tyV_is {pins : List (Addr × Obj)} {σ : St} {H : Hp} {s : Shared} {T : String} {x : V} {v : Value} (I : Inv X pins σ H s) (r : RelV x v) (ty : tyV X.K T x H) :
    s.TypeIs v T ∧ ∀ a, v = .ref a → ∃ ob, s.heap.get? a = some ob ∧ ob.dict = none := by
  cases x with
  | str z =>
    obtain ⟨t, rfl⟩ := r
    cases (show T = "str" from ty)
    exact ⟨typeIs_str s z t, fun _ e => nomatch e⟩
  | int i =>
    obtain ⟨t, rfl⟩ := r
    cases (show T = "int" from ty)
    exact ⟨typeIs_int s i t, fun _ e => nomatch e⟩
  | ref p =>
    cases r
    rcases ty with ⟨rfl, xs, hq⟩ | ⟨rfl, o, hk, hc, hd⟩ | ⟨rfl, hk⟩ | ⟨rfl, S, n, hk⟩
    · obtain ⟨its, _, pl, _⟩ := I.list hq
      refine ⟨pl.isList.typeIs, fun a e => ?_⟩
      cases e
      obtain ⟨o, n, e, c, hd, _⟩ := pl
      exact ⟨o, e, hd⟩
    · refine ⟨⟨o, I.kIn p o hk, hc⟩, fun a e => ?_⟩
      cases e
      exact ⟨o, I.kIn _ o hk, hd⟩
    · have z : ∃ o, s.heap.get? p = some o ∧ o.ExactDict := by
        rcases hk with ⟨kvs, hk⟩ | ⟨kvs, hk⟩
        · obtain ⟨_, _, _, _, o, _, _, e, ex, _⟩ := I.hok p _ hk
          exact ⟨o, e, ex⟩
        · obtain ⟨_, _, _, _, o, _, _, e, ex, _⟩ := I.hok p _ hk
          exact ⟨o, e, ex⟩
      obtain ⟨o, e, ex⟩ := z
      refine ⟨⟨o, e, ex.1⟩, fun a e2 => ?_⟩
      cases e2
      exact ⟨o, e, ex.2.1⟩
    · obtain ⟨o, _, _, _, e, ex, _⟩ := I.hok p _ hk
      refine ⟨⟨o, e, ex.1⟩, fun a e2 => ?_⟩
      cases e2
      exact ⟨o, e, ex.2.1⟩
  | _ => exact False.elim ty
def tBM (K : PySem.W.Frag) (T : String) (r : V → List V → Hp → VK → Prop) (to : TE) (t : TA) : TE := fun σ H Q => to σ H fun x H1 => tyV K T x H1 ∧ t σ H1 fun xs H2 => r x xs H2 Q
variable {o e : Expr} {es : List Expr} {to : TE} {t : TA} {name : Str} {apos cpos : Pos} {T id : String} {r : V → List V → Hp → VK → Prop}
theorem pe_bm (pa : PlainAttrs T) (slot : Slot T name id) (hty : typeOf (.builtin id) = pure (.type "method_descriptor")) (hm : MtR X id r) (ho : PE X o to) (ha : PA X (e :: es) t)
    (hbase : attributeBase o name X.env (eval o X.env) = eval o X.env := by rfl)
    (hfew : ((backTo cpos (starEach (e :: es) X.env)).all (fun x => !x.1) && (backToKw cpos (keywordEach [] X.env)).all (fun x => x.1.isSome)
      && decide ((e :: es).length + ([] : List Keyword).length + (if ([] : List Keyword).isEmpty then 0 else 1) < 30)) = true := by rfl)
    (hline : (apos.endLine == cpos.line) = true := by rfl) (hs : starEach (e :: es) X.env = (false, eval e X.env) :: starEach es X.env := by rfl) (hplain : (backTo cpos (starEach es X.env)).any (·.1) = false := by rfl) :
    PE X (.Call (.Attribute o name apos) (e :: es) [] cpos) (tBM X.K T r to t) := by
  intro pins s σ H Q I h
  refine wpAny_Call_method_late hbase hfew hline rfl (thn (ho pins s σ H _ I h) fun v s1 ⟨x, H1, I1, r1, ty, q1⟩ => ?_)
  obtain ⟨h1, h2⟩ := tyV_is I1 r1 ty
  refine ⟨T, id, pa, slot, hty, h1, h2, ?_⟩
  have hA := ha cpos pins s1 σ H1 _ I1 q1
  rw [hs] at hA ⊢
  refine Calls.callWith_builtin (by show (false || (backTo cpos (starEach es X.env)).any (·.1)) = false; rw [hplain] <;> rfl) (Calls.evalArgs_plain ?_)
  exact thn hA fun us s2 ⟨vs, H2, I2, r2, q2⟩ => hm pins s2 σ H2 x vs v us Q I2 r1 r2 q2
/- xs.append(e), list.index on a module's tuple .. are MtR facts of 06m -/
end
end L2

namespace L2
open PySem PySem.Spec PyProof.Rows

def MtM (X : Cx) (id : String) (r : V → List V → Hp → VK → Prop) : Prop :=
  ∀ (pins : List (Addr × Obj)) (s : Shared) (σ : St) (H : Hp) (x : V) (xs : List V) (v : Value) (us : List Value) (Q : VK), Inv X pins σ H s → RelV x v → Vals xs us → r x xs H Q →
    wpAny (model X.prog X.w) X.A (call (.builtin id) (v :: us)) (EP X pins σ Q) X.xe s

/-! ### lists of values -/
theorem Vals.one : ∀ {x : V} {us : List Value}, Vals [x] us → ∃ u, us = [u] ∧ RelV x u
  | _, _, .cons r .nil => ⟨_, rfl, r⟩
theorem Vals.two : ∀ {x y : V} {us : List Value}, Vals [x, y] us → ∃ u v, us = [u, v] ∧ RelV x u ∧ RelV y v
  | _, _, _, .cons r (.cons q .nil) => ⟨_, _, rfl, r, q⟩
theorem Vals.zero : ∀ {us : List Value}, Vals [] us → us = []
  | _, .nil => rfl
theorem Vals.eraseIdx : ∀ {xs : List V} {us : List Value} (i : Nat), Vals xs us → Vals (xs.eraseIdx i) (us.eraseIdx i)
  | _, _, _, .nil => .nil
  | _, _, 0, .cons _ t => t
  | _, _, i + 1, .cons r t => .cons r (Vals.eraseIdx i t)
theorem Vals.reverse {xs : List V} {us : List Value} (h : Vals xs us) : Vals xs.reverse us.reverse := by
  induction h with
  | nil => exact .nil
  | cons r t ih => rw [List.reverse_cons, List.reverse_cons]; exact Vals.append ih (.cons r .nil)
theorem Vals.rep {xs : List V} {us : List Value} (h : Vals xs us) : ∀ k : Nat, Vals (List.replicate k xs).flatten (List.replicate k us).flatten
  | 0 => .nil
  | k + 1 => by
    rw [List.replicate_succ, List.replicate_succ, List.flatten_cons, List.flatten_cons]
    exact Vals.append h (Vals.rep h k)
theorem len_erase {α : Type} : ∀ (l : List α) (i : Nat), (l.eraseIdx i).length ≤ l.length
  | [], _ => Nat.le_refl _
  | _ :: _, 0 => Nat.le_succ _
  | _ :: r, i + 1 => Nat.succ_le_succ (len_erase r i)
theorem foldl_rep (its : List Value) : ∀ (k : Nat) (acc : List Value),
    List.foldl (fun x1 x2 => x1 ++ x2) acc.toArray (List.replicate k its.toArray) = (acc ++ (List.replicate k its).flatten).toArray
  | 0, acc => by simp
  | k + 1, acc => by
    have e : acc.toArray ++ its.toArray = (acc ++ its).toArray := by simp
    have e2 : (acc ++ its) ++ (List.replicate k its).flatten = acc ++ (List.replicate (k + 1) its).flatten := by
      rw [List.replicate_succ, List.flatten_cons, List.append_assoc]
    rw [← e2, ← foldl_rep its k (acc ++ its), ← e, List.replicate_succ, List.foldl_cons]

section
variable {X : Cx} {pins : List (Addr × Obj)} {σ : St} {H : Hp} {s : Shared} {l b : Addr} {xs ys zs : List V}

/-! ### the two steps: a tracked list is rewritten, a new list is laid -/
theorem Inv.lset {its its' : List Value} {n : Nat} {f : Array Value → Array Value} {t' : Nat} (I : Inv X pins σ H s) (hH : H l = some (.lst xs))
    (e : s.heap.get? l = some { cls := .type "list", data := .seq its.toArray n }) (hf : f its.toArray = its'.toArray) (hv : Vals ys its') (hz : ys.length ≤ sizeLine) :
    Inv X pins σ (upd H l (.lst ys)) { s with heap := s.heap.update l (Obj.mapSeq f), toks := t' } := by
  have q := PySem.IsL.update e f
  rw [hf] at q
  refine I.write (x := l) (e := l) (by rw [hH]; exact trivial) (.inl rfl) (fun b' u hb hu => (Heap.get?_update_other s.heap (Obj.mapSeq f) (Ne.symm hb)).trans hu) ⟨_, q⟩ ?_
  exact ⟨hz, its', _, hv, q⟩
theorem Inv.lnew {its : List Value} {t' : Nat} (I : Inv X pins σ H s) (hv : Vals ys its) (hz : ys.length ≤ sizeLine) :
    Inv X pins σ (upd H s.heap.objs.size (.lst ys)) { s with heap := s.heap.push { cls := .type "list", data := .seq its.toArray }, toks := t' } :=
  I.laid (fun _ _ q => Heap.get?_push_of_some _ q) (Nat.le_refl _) ⟨hz, its, 0, hv, Heap.get?_push_size _ rfl⟩
theorem Inv.fresh (I : Inv X pins σ H s) : H s.heap.objs.size = none := I.hok.fresh (Nat.le_refl _)
theorem Inv.lstM (I : Inv X pins σ H s) (hH : H l = some (.lst xs)) : xs.length ≤ sizeLine ∧ ∃ (its : List Value) (n : Nat), Vals xs its ∧ xs.length = its.length ∧ s.heap.get? l = some { cls := .type "list", data := .seq its.toArray n } := by
  obtain ⟨z, its, n, r, e⟩ := I.hok l _ hH
  exact ⟨z, its, n, r, r.length, e⟩

theorem notLongL {n : Nat} (h : n ≤ sizeLine) : Builtin.List.listTooLong n = false := by
  unfold Builtin.List.listTooLong
  exact decide_eq_false (by omega)
end

section
variable {X : Cx}

/-! ### methods -/
def rAppend : V → List V → Hp → VK → Prop := fun x vs H Q => ∃ l xs y, x = .ref l ∧ vs = [y] ∧ H l = some (.lst xs) ∧ xs.length < sizeLine ∧ Q .non (upd H l (.lst (xs ++ [y])))
theorem mt_append : MtM X "list.append" rAppend := by
  intro pins s σ H x vs v us Q I rx rv h
  obtain ⟨l, xs, y, rfl, rfl, hH, hz, q⟩ := h
  cases rx
  obtain ⟨u, rfl, ru⟩ := rv.one
  obtain ⟨z, its, n, r, hl, e⟩ := I.lstM hH
  refine call_meets F.slot_list_append ⟨_, e, rfl⟩ F.entry_list_append (F.args_list_append_2 _ _) (PySem.list_append l its.toArray n u (by rw [List.size_toArray]; omega)) ⟨e, ?_⟩
  refine ⟨.non, _, I.lset (its' := its ++ [u]) hH e (by simp) (r.append (.cons ru .nil)) ?_, rfl, q⟩
  rw [List.length_append, List.length_singleton]
  omega

def rPopAt : V → List V → Hp → VK → Prop := fun x vs H Q => ∃ l xs i k y, x = .ref l ∧ vs = [.int i] ∧ H l = some (.lst xs) ∧ -(2 ^ 63) ≤ i ∧ i < 2 ^ 63 ∧ seqIndex? i xs.length = some k ∧ xs[k]? = some y ∧ Q y (upd H l (.lst (xs.eraseIdx k)))
theorem mt_popAt : MtM X "list.pop" rPopAt := by
  intro pins s σ H x vs v us Q I rx rv h
  obtain ⟨l, xs, i, k, y, rfl, rfl, hH, h1, h2, hk, hy, q⟩ := h
  cases rx
  obtain ⟨u, rfl, ru⟩ := rv.one
  obtain ⟨t, rfl⟩ := ru
  obtain ⟨z, its, n, r, hl, e⟩ := I.lstM hH
  obtain ⟨w, hw, rw'⟩ := r.get hy
  refine call_meets F.slot_list_pop ⟨_, e, rfl⟩ F.entry_list_pop (F.args_list_pop_2 _ _)
    (MeetsSeq.list_pop_at l its.toArray n i t k w (fitsIndex_both h1 h2) (by rw [List.size_toArray, ← hl]; exact hk) (by rw [← Array.getElem?_toList]; exact hw) (by rw [List.size_toArray]; omega)) ⟨e, ?_⟩
  refine ⟨y, _, I.lset (its' := its.eraseIdx k) hH e ?_ (r.eraseIdx k) ?_, rw', q⟩
  · show its.toArray.eraseIdxIfInBounds k = (its.eraseIdx k).toArray
    rw [List.eraseIdxIfInBounds_toArray]
  · have := len_erase xs k
    omega

/-! ### list + list, list += list, list * int -/
def rCat : R2 := fun x y H Q => ∃ l b xs zs, x = .ref l ∧ y = .ref b ∧ H l = some (.lst xs) ∧ H b = some (.lst zs) ∧ xs.length + zs.length ≤ sizeLine ∧ ∀ p, H p = none → Q (.ref p) (upd H p (.lst (xs ++ zs)))
theorem op_cat : OpR X (binaryOp .Add) rCat := by
  intro pins s σ H x y v u Q I rx ry h
  obtain ⟨l, b, xs, zs, rfl, rfl, hH, hB, hz, q⟩ := h
  cases rx
  cases ry
  obtain ⟨z, its, n, r, hl, e⟩ := I.lstM hH
  obtain ⟨z2, its2, n2, r2, hl2, e2⟩ := I.lstM hB
  refine PySem.P.add_list e e2 ?_ (by rw [List.size_toArray, List.size_toArray]; omega)
  have ea : its.toArray ++ its2.toArray = (its ++ its2).toArray := by simp
  rw [ea]
  exact ⟨.ref _, _, I.lnew (t' := s.toks) (r.append r2) (by rw [List.length_append]; omega), rfl, q _ I.fresh⟩
/-- a list times an int (a negative one is nothing) -/
def rRep : R2 := fun x y H Q => ∃ l k xs, x = .ref l ∧ y = .int k ∧ H l = some (.lst xs) ∧ -(2 ^ 63) ≤ k ∧ k < 2 ^ 63 ∧ xs.length * k.toNat ≤ sizeLine ∧
  ∀ p, H p = none → Q (.ref p) (upd H p (.lst (List.replicate k.toNat xs).flatten))
theorem len_rep {α : Type} (xs : List α) (k : Nat) : (List.replicate k xs).flatten.length = k * xs.length := by
  induction k with
  | zero => simp
  | succ k ih => rw [List.replicate_succ, List.flatten_cons, List.length_append, ih, Nat.succ_mul, Nat.add_comm]
theorem op_rep : OpR X (binaryOp .Mult) rRep := by
  intro pins s σ H x y v u Q I rx ry h
  obtain ⟨l, k, xs, rfl, rfl, hH, h1, h2, hz, q⟩ := h
  cases rx
  obtain ⟨t, rfl⟩ := ry
  obtain ⟨z, its, n, r, hl, e⟩ := I.lstM hH
  have hlen : its.toArray.size * k.toNat ≤ sizeLine := by rw [List.size_toArray, ← hl]; exact hz
  have hcap : ¬ its.toArray.size * k.toNat > (2 ^ 63 - 1) / 8 := by
    have : (sizeLine : Nat) ≤ (2 ^ 63 - 1) / 8 := by decide
    omega
  have hfit : ¬ (!Builtin.List.listFitsIndex k) = true := by
    rw [fitsIndex_both h1 h2]
    exact Bool.false_ne_true
  have hlong : ¬ Builtin.List.listTooLong (its.toArray.size * k.toNat) = true := by
    rw [notLongL hlen]
    exact Bool.false_ne_true
  have hnew : List.foldl (fun x1 x2 => x1 ++ x2) #[] (List.replicate (if its.toArray.isEmpty = true then 0 else k.toNat) its.toArray) = (List.replicate k.toNat its).flatten.toArray := by
    have f0 : ∀ m : Nat, List.foldl (fun x1 x2 => x1 ++ x2) #[] (List.replicate m its.toArray) = (List.replicate m its).flatten.toArray := fun m => by
      have := foldl_rep its m []
      rw [List.nil_append] at this
      exact this
    rw [f0]
    cases its with
    | nil => simp
    | cons a r' => rw [if_neg (by simp)]
  refine wpAny_binaryOp_repeat_ref (T := "list") (U := "int") (by decide) ⟨_, e, rfl⟩ (fun s' => typeIs_int s' k t) noFill_list_mul F.fills_int_mul F.slot_int_rmul repeat_list F.slot_int_index.lookup
    (call_meets F.slot_int_rmul (typeIs_int s k t) F.entry_int_rmul (F.args_int_rmul_2 _ _) (int___rmul___int_list k t l its.toArray n)
      ⟨e, rfl, ⟨_, e, rfl⟩, call_meets F.slot_list_mul ⟨_, e, rfl⟩ F.entry_list_mul (F.args_list_mul_2 _ _) (AutoListH.list___mul___list_int_3 l its.toArray n k t hfit hcap hlong) ⟨e, ?_⟩⟩)
  rw [hnew]
  exact ⟨.ref _, _, I.lnew (t' := s.toks) (r.rep k.toNat) (by rw [len_rep, Nat.mul_comm]; exact hz), rfl, q _ I.fresh⟩

/-! ### del xs[i] -/
end

/-! ### xs[a:b] = ys -/
section
variable {prog : Program} {w : World} {A : Around} {E : Value → Shared → Prop} {s : Shared}
end

section
variable {X : Cx}
end
end L2

namespace L2
open PySem PySem.Spec PyProof.Rows

theorem Vals.ints : ∀ {ns : List Int} {us : List Value}, Vals (ns.map V.int) us → IntsAre us ns
  | [], us, h => by
    rw [List.map_nil] at h
    cases h
    exact IntsAre.nil
  | n :: ns, us, h => by
    rw [List.map_cons] at h
    cases h with
    | cons r t =>
      obtain ⟨k, rfl⟩ := r
      exact IntsAre.cons n k (Vals.ints t)
theorem Vals.strs : ∀ {xs : List Str} {us : List Value}, Vals (xs.map V.str) us → StrsAre us xs
  | [], us, h => by
    rw [List.map_nil] at h
    cases h
    exact StrsAre.nil
  | x :: xs, us, h => by
    rw [List.map_cons] at h
    cases h with
    | cons r t =>
      obtain ⟨k, rfl⟩ := r
      exact StrsAre.cons x k (Vals.strs t)
theorem Vals.ref1 {a : Addr} {us : List Value} (r : Vals [V.ref a] us) : us = [Value.ref a] := by
  cases r with
  | cons r t =>
    cases t
    cases r
    rfl
/-! ### the library's walks over a list of ints, kept objects alone -/
section
variable {prog : Program} {w : World} {A : Around} {E : Value → Shared → Prop} {s : Shared} {l : Addr} {its : List Value} {ns : List Int} {Q : Value → Shared → Prop}
theorem sum_raw (hh : A.handled = none) (hl : s.heap.IsList l its.toArray) (hi : IntsAre its ns)
    (h : ∀ h' tk t', (∀ b o, s.heap.get? b = some o → h'.get? b = some o) → Q (.int ns.sum t') { s with heap := h', toks := tk }) : wpAny (model prog w) A (call (.builtin "sum") [.ref l]) Q E s := by
  obtain ⟨xs, e⟩ := hi.allInts.items
  have hn : numsOf (intItems xs).toList = ns := by rw [← e]; exact hi.numsOf
  rw [nums_intItems] at hn
  rw [e] at hl
  refine PySem.sum_intListG hh hl fun h' tk t' hk => ?_
  have := h h' tk t' hk
  rw [preSum_eq, List.take_of_length_le (by simp), hn]; exact this
end

/-! ### the calls, by values (CallR of 03t; MtR of 06l) -/
section
variable {X : Cx}
/-- sum(xs) of a list of ints -/
def rSum (K : PySem.W.Frag) : List V → Hp → VK → Prop := fun vs H Q => ∃ (a : Addr) (ns : List Int), vs = [V.ref a] ∧ SqL K H a (ns.map V.int) ∧ Q (.int ns.sum) H
theorem cr_sum (hc : X.calm = true) : CallR X (.builtin "sum") (rSum X.K) := by
  intro pins s σ H vs us Q I r h
  obtain ⟨a, ns, rfl, hs, q⟩ := h
  obtain ⟨its, rv, hl, _⟩ := I.list hs
  rw [Vals.ref1 r]
  exact sum_raw (I.ok.hd hc) hl.isList rv.ints fun h' tk t' hk => ⟨.int _, H, I.kept hk, ⟨_, rfl⟩, q⟩
/-! sorted, sort (fewer than 64 items: the library's own bound) -/
end

/-! ### list.index, flat items -/
section
variable {X : Cx}
end

/-! ### type(x) of an own instance; is, is not of a module's class -/
section
variable {X : Cx}
end

/-! ### any(xs), all(xs) of a list of bools -/
section
variable {X : Cx}
end

/-! ### == and != of data at any depth: none, bools, ints, texts, lists, tuples -/
mutual
inductive Dp (K : PySem.W.Frag) (H : Hp) : V → PyData → Prop
  | non : Dp K H .non .none
  | bl (b : Bool) : Dp K H (.bl b) (.bool b)
  | int (i : Int) : Dp K H (.int i) (.int i)
  | str (x : Str) : Dp K H (.str x) (.str x)
  | lst {a : Addr} {xs : List V} {ds : List PyData} : SqL K H a xs → DpAll K H xs ds → Dp K H (.ref a) (.list ds)
  | tup {a : Addr} {xs : List V} {ds : List PyData} : SqT K H a xs → DpAll K H xs ds → Dp K H (.ref a) (.tuple ds)
inductive DpAll (K : PySem.W.Frag) (H : Hp) : List V → List PyData → Prop
  | nil : DpAll K H [] []
  | cons {v : V} {vs : List V} {d : PyData} {ds : List PyData} : Dp K H v d → DpAll K H vs ds → DpAll K H (v :: vs) (d :: ds)
end
section
variable {X : Cx} {pins : List (Addr × Obj)} {σ : St} {H : Hp} {s : Shared}
mutual
theorem Dp.reads (I : Inv X pins σ H s) : ∀ (d : PyData) (v : V) (u : Value), Dp X.K H v d → RelV v u → ∃ as, Reads s.heap u d as
  | .none, _, _, h, r => by
    cases h
    cases r
    exact ⟨_, Reads.none⟩
  | .bool b, _, _, h, r => by
    cases h
    cases r
    exact ⟨_, Reads.bool b⟩
  | .int i, _, _, h, r => by
    cases h
    obtain ⟨t, rfl⟩ := r
    exact ⟨_, Reads.int i t⟩
  | .str x, _, _, h, r => by
    cases h
    obtain ⟨t, rfl⟩ := r
    exact ⟨_, Reads.str x t⟩
  | .list ds, _, _, h, r => by
    cases h with
    | lst hs ha =>
      cases r
      obtain ⟨its, rv, ⟨o, n, ho, hc, _, hd⟩, _⟩ := I.list hs
      obtain ⟨as, hr⟩ := Dp.readsAll I ds _ its ha rv
      exact ⟨_, Reads.list ho hc hd hr⟩
  | .tuple ds, _, _, h, r => by
    cases h with
    | tup hs ha =>
      cases r
      obtain ⟨its, rv, ⟨o, ho, hc, n, hd⟩, _⟩ := I.tuple hs
      obtain ⟨as, hr⟩ := Dp.readsAll I ds _ its ha rv
      exact ⟨_, Reads.tuple ho hc hd hr⟩
  | .dict _, _, _, h, _ => by cases h
theorem Dp.readsAll (I : Inv X pins σ H s) : ∀ (ds : List PyData) (vs : List V) (us : List Value), DpAll X.K H vs ds → Vals vs us → ∃ as, ReadsAll s.heap us ds as
  | [], _, _, h, r => by
    cases h
    cases r
    exact ⟨_, ReadsAll.nil⟩
  | d :: ds, _, _, h, r => by
    cases h with
    | cons h1 h2 =>
      cases r with
      | cons r1 r2 =>
        obtain ⟨as, q1⟩ := Dp.reads I d _ _ h1 r1
        obtain ⟨bs, q2⟩ := Dp.readsAll I ds _ _ h2 r2
        exact ⟨_, ReadsAll.cons q1 q2⟩
end
end
section
variable {X : Cx}
def rEqD (K : PySem.W.Frag) : R2 := fun x y H Q => ∃ d e, Dp K H x d ∧ Dp K H y e ∧ SeqAt.shaped d = true ∧ SeqAt.shaped e = true ∧ Q (.bl (PyData.eqv d e)) H
def rNeD (K : PySem.W.Frag) : R2 := fun x y H Q => ∃ d e, Dp K H x d ∧ Dp K H y e ∧ SeqAt.shaped d = true ∧ SeqAt.shaped e = true ∧ Q (.bl (!PyData.eqv d e)) H
theorem op_eqD (hu : X.A.units + 64 < cLine) : OpR X (compareOp .Eq) (rEqD X.K) := by
  intro pins s σ H x y v u Q I rx ry h
  obtain ⟨d, e, hd, he, sd, se, q⟩ := h
  obtain ⟨as, r1⟩ := Dp.reads I d x v hd rx
  obtain ⟨bs, r2⟩ := Dp.reads I e y u he ry
  exact SeqAt.compareEq_shaped r1 r2 sd se hu ⟨.bl _, H, I, rfl, q⟩
theorem op_neD (hu : X.A.units + 64 < cLine) : OpR X (compareOp .NotEq) (rNeD X.K) := by
  intro pins s σ H x y v u Q I rx ry h
  obtain ⟨d, e, hd, he, sd, se, q⟩ := h
  obtain ⟨as, r1⟩ := Dp.reads I d x v hd rx
  obtain ⟨bs, r2⟩ := Dp.reads I e y u he ry
  exact SeqAt.compareNe_shaped r1 r2 sd se hu ⟨.bl _, H, I, rfl, q⟩
end
end L2

namespace L2
open PySem PySem.Spec PyProof.Rows
abbrev CellAt (h : Heap) (c : Addr) (v : Option Value) : Prop := h.IsCell c v
def relS (scope sc : Scope) : Scope :=
  { scope with names := scope.names.map fun (n, k) => if (k == .free && sc.kind == .function && sc.names.lookup n == some .cell) then (n, .cell) else (n, k) }

def cloFrom (cells : List (Str × Addr)) : List (Str × NameKind) → List (Str × Addr) → List (Str × Addr)
  | [], acc => acc
  | (n, k) :: r, acc => if k == .free then cloFrom cells r ((n, (cells.lookup n).getD 0) :: acc) else cloFrom cells r acc

theorem closure_loop (env : Env) (f : Str × NameKind → List (Str × Addr) → Sem (ForInStep (List (Str × Addr))))
    (hf : ∀ n k c, f (n, k) c = if k == .free then (do let a ← cellOf env n; pure (.yield ((n, a) :: c))) else pure (.yield c)) :
    ∀ (names : List (Str × NameKind)) (acc : List (Str × Addr)), (∀ y ∈ names, y.2 = .free → ∃ c, env.cells.lookup y.1 = some c) → forIn names acc f = pure (cloFrom env.cells names acc)
  | [], acc, _ => by rw [List.forIn_nil]; rfl
  | (n, k) :: r, acc, h => by
    rw [List.forIn_cons, hf]
    have ih := fun acc => closure_loop env f hf r acc fun y hy => h y (List.mem_cons_of_mem _ hy)
    unfold cloFrom
    by_cases hk : (k == NameKind.free) = true
    · rw [if_pos hk, if_pos hk]
      obtain ⟨c, hc⟩ := h (n, k) List.mem_cons_self (by simpa using hk)
      have e : cellOf env n = pure c := by unfold cellOf; rw [hc]
      rw [e]
      have e2 : (env.cells.lookup n).getD 0 = c := by rw [hc]; rfl
      rw [e2]
      exact ih _
    · rw [if_neg hk, if_neg hk]
      exact ih _
theorem closure_ok {scope : Scope} {env : Env} (h : ∀ y ∈ scope.names, y.2 = .free → ∃ c, env.cells.lookup y.1 = some c) : closureFor scope env = pure (cloFrom env.cells scope.names []) := by
  simp only [closureFor]
  rw [closure_loop env _ (fun n k c => rfl) scope.names [] h]
  rfl

theorem mem_lookup {α : Type} : ∀ {l : List (Str × α)} {n : Str} {c : α}, (n, c) ∈ l → ∃ c', l.lookup n = some c'
  | (k, v) :: r, n, c, h => by
    rw [List.lookup_cons]
    cases hb : n == k with
    | true => exact ⟨_, rfl⟩
    | false =>
      rcases List.mem_cons.mp h with e | h
      · cases e; simp at hb
      · exact mem_lookup h

theorem cloFrom_mem {cells : List (Str × Addr)} : ∀ {names : List (Str × NameKind)} {acc : List (Str × Addr)} {n : Str} {c : Addr}, (n, c) ∈ cloFrom cells names acc → (n, c) ∈ acc ∨ ((n, .free) ∈ names ∧ c = (cells.lookup n).getD 0)
  | [], _, _, _, h => .inl h
  | (m, k) :: r, acc, n, c, h => by
    unfold cloFrom at h
    split at h
    · rename_i hk
      have hk : k = .free := by simpa using hk
      rcases cloFrom_mem h with h | ⟨h1, h2⟩
      · rcases List.mem_cons.mp h with e | h
        · cases e; exact .inr ⟨hk ▸ List.mem_cons_self, rfl⟩
        · exact .inl h
      · exact .inr ⟨List.mem_cons_of_mem _ h1, h2⟩
    · rcases cloFrom_mem h with h | ⟨h1, h2⟩
      · exact .inl h
      · exact .inr ⟨List.mem_cons_of_mem _ h1, h2⟩
theorem cloFrom_acc {cells : List (Str × Addr)} : ∀ {names : List (Str × NameKind)} {acc : List (Str × Addr)} {p : Str × Addr}, p ∈ acc → p ∈ cloFrom cells names acc
  | [], _, _, h => h
  | (m, k) :: r, acc, p, h => by
    unfold cloFrom
    split
    · exact cloFrom_acc (List.mem_cons_of_mem _ h)
    · exact cloFrom_acc h
theorem cloFrom_has {cells : List (Str × Addr)} : ∀ {names : List (Str × NameKind)} {acc : List (Str × Addr)} {n : Str}, (n, .free) ∈ names → (n, (cells.lookup n).getD 0) ∈ cloFrom cells names acc
  | (m, k) :: r, acc, n, h => by
    unfold cloFrom
    rcases List.mem_cons.mp h with e | h
    · cases e
      exact cloFrom_acc List.mem_cons_self
    · split
      · exact cloFrom_has h
      · exact cloFrom_has h

theorem cells_mem : ∀ {names : List (Str × NameKind)} {h : Heap} {acc : List (Str × Addr)} {x : Str} {c : Addr}, (x, c) ∈ cellsFrom h.objs.size names acc →
    (x, c) ∈ acc ∨ ((x, .cell) ∈ names ∧ h.objs.size ≤ c ∧ CellAt (pushCells h names) c none)
  | [], _, _, _, _, h => .inl h
  | (n, k) :: r, h, acc, x, c, hm => by
    unfold cellsFrom at hm
    unfold pushCells
    split at hm
    · rename_i hk
      rw [if_pos hk]
      have hk : k = .cell := by simpa using hk
      rw [← Heap.size_push h { cls := .type "cell", data := .cell none }] at hm
      rcases cells_mem hm with hm | ⟨h1, h2, h3⟩
      · rcases List.mem_cons.mp hm with e | hm
        · cases e
          exact .inr ⟨hk ▸ List.mem_cons_self, Nat.le_refl _, _, pushCells_keeps r _ _ _ (Heap.get?_push_size _ rfl), rfl⟩
        · exact .inl hm
      · rw [Heap.size_push] at h2
        exact .inr ⟨List.mem_cons_of_mem _ h1, Nat.le_of_succ_le h2, h3⟩
    · rename_i hk
      rw [if_neg hk]
      rcases cells_mem hm with hm | ⟨h1, h2, h3⟩
      · exact .inl hm
      · exact .inr ⟨List.mem_cons_of_mem _ h1, h2, h3⟩
theorem cells_acc : ∀ {names : List (Str × NameKind)} {n : Nat} {acc : List (Str × Addr)} {p : Str × Addr}, p ∈ acc → p ∈ cellsFrom n names acc
  | [], _, _, _, h => h
  | (m, k) :: r, n, acc, p, h => by
    unfold cellsFrom
    split
    · exact cells_acc (List.mem_cons_of_mem _ h)
    · exact cells_acc h
theorem cells_has : ∀ {names : List (Str × NameKind)} {n : Nat} {acc : List (Str × Addr)} {x : Str}, (x, .cell) ∈ names → ∃ c, (x, c) ∈ cellsFrom n names acc
  | (m, k) :: r, n, acc, x, h => by
    unfold cellsFrom
    rcases List.mem_cons.mp h with e | h
    · cases e
      exact ⟨n, cells_acc List.mem_cons_self⟩
    · split
      · exact cells_has h
      · exact cells_has h
theorem cells_inj : ∀ {names : List (Str × NameKind)} {h : Heap} {acc : List (Str × Addr)} {x y : Str} {c : Addr}, (∀ p ∈ acc, p.2 < h.objs.size) → (∀ x y c, (x, c) ∈ acc → (y, c) ∈ acc → x = y) →
    (x, c) ∈ cellsFrom h.objs.size names acc → (y, c) ∈ cellsFrom h.objs.size names acc → x = y
  | [], _, _, _, _, _, _, hi, h1, h2 => hi _ _ _ h1 h2
  | (n, k) :: r, h, acc, x, y, c, hl, hi, h1, h2 => by
    unfold cellsFrom at h1 h2
    split at h1
    · rename_i hk
      rw [if_pos hk] at h2
      rw [← Heap.size_push h { cls := .type "cell", data := .cell none }] at h1 h2
      refine cells_inj (h := h.push _) (fun p hp => ?_) (fun x y c a b => ?_) h1 h2
      · rw [Heap.size_push]
        rcases List.mem_cons.mp hp with rfl | hp
        · exact Nat.lt_succ_self _
        · exact Nat.lt_succ_of_lt (hl p hp)
      · rcases List.mem_cons.mp a with e | a <;> rcases List.mem_cons.mp b with e' | b
        · cases e; cases e'; rfl
        · cases e; exact absurd (hl _ b) (Nat.lt_irrefl _)
        · cases e'; exact absurd (hl _ a) (Nat.lt_irrefl _)
        · exact hi _ _ _ a b
    · rename_i hk
      rw [if_neg hk] at h2
      exact cells_inj hl hi h1 h2

theorem newEnv_comp {M : Model} {A : Around} {E : Value → Shared → Prop} {s : Shared} {scope : Scope} {globals : Addr} {closure : List (Str × Addr)} {qual : Str} {func : Option Addr} {code : Value} {around : Env} {builtins : Addr} {Q : Env → Shared → Prop}
    (h : Q (newEnv scope s.heap.objs.size globals (cellsFrom (s.heap.objs.size + 1) scope.names closure) qual func code (some around) builtins)
      { s with heap := pushCells (s.heap.push { cls := .type "dict", data := .dict #[] }) scope.names }) :
    wpAny M A (newFunctionEnv scope globals closure [] qual func code (some around) builtins) Q E s := by
  simp only [newFunctionEnv, Option.isSome_some, if_true]
  refine wpAny_bind (wpAny_alloc ?_)
  refine wpAny_bind (wpAny_layCells _ (fun n k c => rfl) scope.names closure _ _ ?_)
  rw [show ({ s with heap := s.heap.push { cls := .type "dict", data := .dict #[] } } : Shared).heap.objs.size = s.heap.objs.size + 1 from Heap.size_push ..]
  rw [List.forIn_nil]
  exact wpAny_bind (wpAny_pure (wpAny_pure h))

/-- every name of the written scope, in the scope that runs -/
theorem lookup_relS {sc : Scope} : ∀ {names : List (Str × NameKind)} {x : Str} {k : NameKind},
    (names.map fun (n, k) => if (k == NameKind.free && sc.kind == .function && sc.names.lookup n == some .cell) then (n, NameKind.cell) else (n, k)).lookup x = some k →
    ∃ k', names.lookup x = some k' ∧ (k = k' ∨ (k' = .free ∧ k = .cell))
  | [], _, _, h => by simp at h
  | (n, k₀) :: r, x, k, h => by
    have ih := @lookup_relS sc r x k
    have h' : List.lookup x ((if (k₀ == NameKind.free && sc.kind == .function && sc.names.lookup n == some .cell) = true then (n, NameKind.cell) else (n, k₀)) :: (r.map _)) = some k := h
    cases hx : x == n with
    | true =>
      simp only [List.lookup_cons, hx]
      by_cases hc : (k₀ == NameKind.free && sc.kind == .function && sc.names.lookup n == some .cell) = true
      · rw [if_pos hc] at h'
        simp only [List.lookup_cons, hx] at h'
        cases h'
        simp only [Bool.and_eq_true, beq_iff_eq] at hc
        exact ⟨k₀, rfl, .inr ⟨hc.1.1, rfl⟩⟩
      · rw [if_neg hc] at h'
        simp only [List.lookup_cons, hx] at h'
        cases h'
        exact ⟨_, rfl, .inl rfl⟩
    | false =>
      simp only [List.lookup_cons, hx]
      by_cases hc : (k₀ == NameKind.free && sc.kind == .function && sc.names.lookup n == some .cell) = true
      · rw [if_pos hc] at h'
        simp only [List.lookup_cons, hx] at h'
        exact ih h'
      · rw [if_neg hc] at h'
        simp only [List.lookup_cons, hx] at h'
        exact ih h'
/-- the names of a comprehension's block: its own (with their places in N), or captured -/
structure BlkOk (N : List Str) (sc scope : Scope) (own : List (Str × Nat)) : Prop where
  kind : scope.kind = .function
  uniq : ∀ y ∈ scope.names, scope.names.lookup y.1 = some y.2
  ix : ∀ p ∈ own, N[p.2]? = some p.1
  free : ∀ y ∈ scope.names, y.2 = .free → sc.names.lookup y.1 = some .cell ∨ sc.names.lookup y.1 = some .free
  own : ∀ y ∈ scope.names, y.2 = .local ∨ y.2 = .cell → y.1 ∈ own.map (·.1) ∨ y.1 ∉ N
/-- the slots of the block's own names forgotten -/
def wipe (σ : St) : List Nat → St
  | [] => σ
  | v :: vs => (wipe σ vs).set v none
theorem wipe_length (σ : St) : ∀ vs : List Nat, (wipe σ vs).length = σ.length
  | [] => rfl
  | v :: vs => by unfold wipe; rw [List.length_set, wipe_length σ vs]
theorem wipe_some {σ : St} {i : Nat} {x : V} : ∀ {vs : List Nat}, (wipe σ vs)[i]? = some (some x) → σ[i]? = some (some x) ∧ i ∉ vs
  | [], h => ⟨h, by simp⟩
  | v :: vs, h => by
    unfold wipe at h
    by_cases hi : v = i
    · subst hi
      by_cases hv : v < (wipe σ vs).length
      · rw [List.getElem?_set_self hv] at h; cases h
      · rw [List.getElem?_eq_none (by simpa using hv)] at h; cases h
    · rw [List.getElem?_set_ne hi] at h
      obtain ⟨h1, h2⟩ := wipe_some h
      exact ⟨h1, by simp only [List.mem_cons, not_or]; exact ⟨fun e => hi e.symm, h2⟩⟩

/-- the context of a block that starts at s, its iterator's objects at fp -/
abbrev Cx.blk (X : Cx) (s : Shared) (H : Hp) (scope : Scope) (cenv : Env) (fp : List Addr) : Cx := { X with s_0 := s, H_0 := H, env := cenv, outer := X.stack, ex := fp, fn := fun x => scope.names.lookup x == some .cell, pn := [], xe := fun _ _ => False }
section
variable {X : Cx} {pins : List (Addr × Obj)} {σ : St} {H : Hp} {s : Shared}
theorem block_start {scope : Scope} {own : List (Str × Nat)} {fp : List Addr} (I : Inv X pins σ H s) (ok : BlkOk X.N X.env.scope scope own) (hN : X.N.Nodup) (hfp : ∀ b ∈ fp, FpOk X pins H b ∧ b < s.heap.objs.size) :
    Inv (X.blk s H scope (compEnvC scope (cellsFrom (s.heap.objs.size + 1) scope.names (cloFrom X.env.cells scope.names [])) s.heap.objs.size X.env) fp) [] (wipe σ (own.map (·.2))) H { s with heap := pushCells (s.heap.push { cls := .type "dict", data := .dict #[] }) scope.names } := by
  have hfree : ∀ y ∈ scope.names, y.2 = .free → ∃ c, X.env.cells.lookup y.1 = some c := fun y hy e => by
    rcases ok.free y hy e with k | k
    · exact I.ok.has _ (.inl k)
    · exact I.ok.has _ (.inr k)
  generalize hcenv : compEnvC scope (cellsFrom (s.heap.objs.size + 1) scope.names (cloFrom X.env.cells scope.names [])) s.heap.objs.size X.env = cenv
  have kp : ∀ b o, s.heap.get? b = some o → (pushCells (s.heap.push { cls := .type "dict", data := .dict #[] }) scope.names).get? b = some o := fun b o e => pushCells_keeps _ _ _ _ (Heap.get?_push_of_some _ e)
  have hL : cenv.locals = s.heap.objs.size := by rw [← hcenv]; rfl
  have hcl : cenv.cells = cellsFrom (s.heap.objs.size + 1) scope.names (cloFrom X.env.cells scope.names []) := by rw [← hcenv]; rfl
  have hsc : cenv.scope = relS scope X.env.scope := by rw [← hcenv]; rfl
  rw [← Heap.size_push s.heap { cls := .type "dict", data := .dict #[] }] at hcl
  have cm : ∀ {y c}, (y, c) ∈ cloFrom X.env.cells scope.names [] → X.env.cells.lookup y = some c ∧ c < s.heap.objs.size := fun {y c} hm => by
    rcases cloFrom_mem hm with hm | ⟨h1, rfl⟩
    · cases hm
    · obtain ⟨c, hc⟩ := hfree _ h1 rfl
      rw [hc]
      obtain ⟨w, z⟩ := I.cell _ _ hc
      exact ⟨rfl, z.lt⟩
  have mem : ∀ {y c}, cenv.cells.lookup y = some c → (X.env.cells.lookup y = some c ∧ c < s.heap.objs.size) ∨ (s.heap.objs.size + 1 ≤ c ∧ CellAt (pushCells (s.heap.push { cls := .type "dict", data := .dict #[] }) scope.names) c none) := fun {y c} e => by
    rw [hcl] at e
    rcases cells_mem (PySem.mem_of_lookup e) with hm | ⟨_, h2, h3⟩
    · exact .inl (cm hm)
    · rw [Heap.size_push] at h2; exact .inr ⟨h2, h3⟩
  have look : ∀ {y}, scope.names.lookup y = some .free → ∃ c, cenv.cells.lookup y = some c ∧ X.env.cells.lookup y = some c := fun {y} hl => by
    have hy : (y, NameKind.free) ∈ scope.names := PySem.mem_of_lookup hl
    obtain ⟨c', e'⟩ := mem_lookup (cells_acc (names := scope.names) (n := (s.heap.push { cls := .type "dict", data := .dict #[] }).objs.size) (cloFrom_has (cells := X.env.cells) (acc := []) hy))
    rw [← hcl] at e'
    refine ⟨c', e', ?_⟩
    rw [hcl] at e'
    rcases cells_mem (PySem.mem_of_lookup e') with hm | ⟨h1, _, _⟩
    · exact (cm hm).1
    · have := ok.uniq _ h1
      rw [hl] at this; cases this
  have okB : (X.blk s H scope cenv fp).Ok := by
    refine ⟨I.ok.mod, by show cenv.scope.kind = _; rw [hsc]; exact ok.kind, by show cenv.globals = _; rw [← hcenv]; exact I.ok.glob, by show cenv.builtins = _; rw [← hcenv]; exact I.ok.blt, by show s.heap.objs.size ≤ cenv.locals; rw [hL]; exact Nat.le_refl _,
      fun y z c e1 e2 => ?_, fun y hy => ?_, fun y c z e => ?_, I.ok.hd, I.ok.frames, .inl rfl, fun b hb => ⟨?_, fun y c e z => ?_⟩, I.bs, Nat.le_trans I.ok.bsz I.sz, fun b o e hb => ?_, fun b hb z => ?_, I.stack, I.stkFree⟩
    · have e1 : cenv.cells.lookup y = some c := e1
      have e2 : cenv.cells.lookup z = some c := e2
      rw [hcl] at e1 e2
      refine cells_inj (fun p hp => ?_) (fun y z c a b => I.ok.inj y z c (cm a).1 (cm b).1) (PySem.mem_of_lookup e1) (PySem.mem_of_lookup e2)
      rw [Heap.size_push]
      exact Nat.lt_succ_of_lt (cm (y := p.1) (c := p.2) hp).2
    · show ∃ c, cenv.cells.lookup y = some c
      have key : ∀ k, cenv.kindOf y = some k → (k = .cell ∨ k = .free) → ∃ c, cenv.cells.lookup y = some c := fun k hk hk' => by
        unfold Env.kindOf at hk
        rw [hsc] at hk
        obtain ⟨k', e, r⟩ := lookup_relS hk
        have : k' = .cell ∨ k' = .free := by
          rcases r with rfl | ⟨rfl, _⟩
          · exact hk'
          · exact .inr rfl
        rcases this with rfl | rfl
        · obtain ⟨c, hm⟩ := cells_has (n := (s.heap.push { cls := .type "dict", data := .dict #[] }).objs.size) (acc := cloFrom X.env.cells scope.names []) (PySem.mem_of_lookup e)
          obtain ⟨c', e'⟩ := mem_lookup hm
          exact ⟨c', by rw [hcl]; exact e'⟩
        · obtain ⟨c, h1, _⟩ := look e
          exact ⟨c, h1⟩
      rcases hy with hy | hy
      · exact key _ hy (.inl rfl)
      · exact key _ hy (.inr rfl)
    · have z : (scope.names.lookup y == some NameKind.cell) = true := z
      have z : scope.names.lookup y = some .cell := by simpa using z
      have e : cenv.cells.lookup y = some c := e
      rw [hcl] at e
      rcases cells_mem (PySem.mem_of_lookup e) with hm | ⟨_, h2, _⟩
      · rcases cloFrom_mem hm with hm | ⟨h1, _⟩
        · cases hm
        · have q := ok.uniq _ h1
          rw [z] at q; cases q
      · rw [Heap.size_push] at h2
        exact Nat.le_of_succ_le h2
    · show b ≠ cenv.locals
      rw [hL]; exact Nat.ne_of_lt (hfp b hb).2
    · have e : cenv.cells.lookup y = some c := e
      rcases mem e with ⟨h1, _⟩ | ⟨h1, _⟩
      · exact (hfp b hb).1.2.2.2.2.1 y c h1 z
      · have h2 : s.heap.objs.size + 1 ≤ b := by rw [← z]; exact h1
        exact absurd (Nat.lt_of_lt_of_le (hfp b hb).2 (Nat.le_of_succ_le h2)) (Nat.lt_irrefl _)
    · rcases (hfp b hb).1.2.2.2.1 with z | z
      · exact I.ok.noex b o e z
      · exact absurd (Nat.lt_of_lt_of_le (Heap.lt_size e) (Nat.le_trans I.ok.bsz z)) (Nat.lt_irrefl _)
    · rcases List.mem_cons.mp (I.stkSub b z) with z | z
      · exact (hfp b hb).1.2.1 z
      · exact (hfp b hb).1.2.2.1 z
  refine ⟨okB, rfl, I.bare, Un.kept kp, ⟨fun _ => none, ?_, fun i y av e1 e2 e3 => ?_⟩, fun y c e => ?_, ?_, fun y c e => ?_, fun p hp => ?_, I.hok.kept kp, by rw [wipe_length]; exact I.len⟩
  · show Heap.Ns _ cenv.locals _
    rw [hL]
    exact Heap.Ns.keeps (Heap.Ns.new ..) fun b o e => pushCells_keeps _ _ _ _ e
  · obtain ⟨e2, hne⟩ := wipe_some e2
    have hfr : scope.names.lookup y = some .free ∧ (cenv.kindOf y = some .cell ∨ cenv.kindOf y = some .free) := by
      have key : ∀ k, cenv.scope.names.lookup y = some k → k = .local ∨ k = .cell ∨ k = .free → scope.names.lookup y = some .free ∧ (cenv.kindOf y = some .cell ∨ cenv.kindOf y = some .free) := fun k hk hk' => by
        have hk0 := hk
        rw [hsc] at hk
        obtain ⟨k', e, r⟩ := lookup_relS hk
        have no : ¬ (k' = .local ∨ k' = .cell) := fun hh => by
          rcases ok.own _ (PySem.mem_of_lookup e) hh with e' | e'
          · obtain ⟨p, hp, hpy⟩ := List.mem_map.mp e'
            have e3 := ok.ix p hp
            have : p.1 = y := hpy
            rw [this] at e3
            exact hne (List.mem_map.mpr ⟨p, hp, nodup_ix hN e3 e1⟩)
          · exact e' (List.mem_of_getElem? e1)
        rcases r with rfl | ⟨rfl, rfl⟩
        · rcases hk' with rfl | rfl | rfl
          · exact absurd (.inl rfl) no
          · exact absurd (.inr rfl) no
          · exact ⟨e, .inr hk0⟩
        · exact ⟨e, .inl hk0⟩
      have e3 : Vis cenv.scope y := e3
      rcases e3 with e3 | e3 | e3
      · exact key _ e3 (.inl rfl)
      · exact key _ e3 (.inr (.inl rfl))
      · exact key _ e3 (.inr (.inr rfl))
    obtain ⟨m, hn, hl⟩ := I.loc
    have hvis : Vis X.env.scope y := (ok.free _ (PySem.mem_of_lookup hfr.1) rfl).elim (fun k => .inr (.inl k)) (fun k => .inr (.inr k))
    obtain ⟨w, r, q⟩ := hl i y av e1 e2 hvis
    refine ⟨w, r, .inr ⟨hfr.2, ?_⟩⟩
    obtain ⟨c, h1, h2⟩ := look hfr.1
    rcases q with ⟨k, _⟩ | ⟨_, c', e', z⟩
    · have k : X.env.scope.names.lookup y = some .local := k
      rcases ok.free _ (PySem.mem_of_lookup hfr.1) rfl with k' | k' <;> rw [show X.env.scope.names.lookup y = _ from k'] at k <;> cases k
    · rw [h2] at e'; cases e'
      exact ⟨c, h1, z.keeps kp⟩
  · have e : cenv.cells.lookup y = some c := e
    rcases mem e with ⟨h1, _⟩ | ⟨_, z⟩
    · obtain ⟨w, z⟩ := I.cell y c h1
      exact ⟨w, z.keeps kp⟩
    · exact ⟨_, z⟩
  · show H cenv.locals = none
    rw [hL]; exact I.hok.fresh (Nat.le_refl _)
  · have e : cenv.cells.lookup y = some c := e
    rcases mem e with ⟨h1, _⟩ | ⟨h1, _⟩
    · exact I.freeC y c h1
    · exact I.hok.fresh (Nat.le_of_succ_le h1)
  · exact absurd (show p ∈ ([] : List (Addr × Obj)) ++ [] from hp) (by simp)

/-- an item appended to a tracked list -/
theorem app_ok {E : Value → Shared → Prop} {D : Addr} {xs : List V} {y : V} {v : Value} {Q : Value → Shared → Prop} (I : Inv X pins σ H s) (hD : H D = some (.lst xs)) (hz : xs.length < sizeLine) (r : RelV y v)
    (h : ∀ s', Inv X pins σ (upd H D (.lst (xs ++ [y]))) s' → Q .none s') : wpAny (model X.prog X.w) X.A (call (.builtin "list.append") [.ref D, v]) Q E s := by
  obtain ⟨hz', its, n, ri, e⟩ := I.hok D _ hD
  have hl := ri.length
  refine append_at (hsz := by rw [List.size_toArray]; omega) e fun h' sb ho' => ?_
  refine h { s with heap := h' } (I.write (t' := s.toks) (by rw [hD]; trivial) (.inl rfl) (fun b u hb q => (sb.2 b hb).trans q) ⟨_, ho'⟩ ⟨by rw [List.length_append]; exact hz, its ++ [v], n + 1, ri.append (.cons r .nil), ?_⟩)
  rw [ho']
  simp

/-- a clause's tests -/
def PTs (X : Cx) (ifs : List Expr) (t : TT) : Prop :=
  ∀ (pins : List (Addr × Obj)) (s : Shared) (σ : St) (H : Hp) (Q : Bool → Hp → Prop), Inv X pins σ H s → t σ H Q →
    wpAny (model X.prog X.w) X.A (forIn ifs true fun c r => if r = true then do let ok ← isTrue c X.env (eval c X.env); pure (ForInStep.yield ok) else pure (ForInStep.yield r)) (TP X pins σ Q) X.xe s
def tYes : TT := fun _ H Q => Q true H
theorem pts_nil : PTs X [] tYes := fun _ _ _ H _ I h => wpAny_tests_nil ⟨H, I, h⟩
theorem pts_one {c : Expr} {t : TT} (h : PT X c t) : PTs X [c] t := fun pins s σ H Q I hw => wpAny_tests_one (h pins s σ H Q I hw)
end

theorem thnF {α : Type} {t : Sem α} {Q Q' : α → Shared → Prop} {M : Model} {A : Around} {E : Value → Shared → Prop} {s : Shared} (h : wpAny M A t Q (fun _ _ => False) s) (hQ : ∀ a s, Q a s → Q' a s) : wpAny M A t Q' E s := wpAny_mono h hQ fun _ _ z => False.elim z

/-- the loop of a list comprehension's block, the target of any form (codeAny_compLoop_tests asks a target that no tuple goes to; statement and proof follow it, PyProof/CompMap.lean:41-61, with the step letOwnedTupleGo kept) -/
theorem compLoop_any {prog : Program} {w : World} {A : Around} {R : Result → Shared → Prop} {s : Shared} {elt target iter : Expr} {ifs : List Expr} {scope : Scope} {pos : Pos} {it acc : Value} {env : Env} (I : Nat → Shared → Prop)
    (turn : ∀ n s, I n s → wpAny (model prog w) A (pyNext it) (fun r s₁ => match r with
      | none => R (.ok .next) s₁
      | some v => wpAny (model prog w) A (letOwnedTupleGo target it v) (fun _ s₁' => wpAny (model prog w) A (assign target env v) (fun _ s₂ =>
          wpAny (model prog w) A (forIn ifs true fun c r => if r = true then do let ok ← isTrue c env (eval c env); pure (ForInStep.yield ok) else pure (ForInStep.yield r)) (fun ok s₃ =>
            if ok = true then wpAny (model prog w) A (eval elt env) (fun x s₄ =>
              wpAny (model prog w) A (call (.builtin "list.append") [acc, x]) (fun _ s₅ => ∃ m, m < n ∧ I m s₅) (notedBy (model prog w) A env fun e s' => R (.error e) s') s₄) (notedBy (model prog w) A env fun e s' => R (.error e) s') s₃
            else ∃ m, m < n ∧ I m s₃) (notedBy (model prog w) A env fun e s' => R (.error e) s') s₂) (notedBy (model prog w) A env fun e s' => R (.error e) s') s₁') (notedBy (model prog w) A env fun e s' => R (.error e) s') s₁) (notedBy (model prog w) A env fun e s' => R (.error e) s') s)
    (n : Nat) (h : I n s) :
    codeAny (model prog w) A (.compLoop (.ListComp elt [⟨target, iter, ifs, 0⟩] scope pos) 0 it acc env) R s := by
  refine codeAny_loop rfl I (fun n s hI => ?_) n h
  show wpAny _ A ((compTurn (.ListComp elt [⟨target, iter, ifs, 0⟩] scope pos) 0 it acc env).onRaise (fun x => do noteFrame x env; theTreesLotGoes x)) _ _ s
  refine wpAny_noted ?_
  rw [compTurn_list]
  refine wpAny_bind (wpAny_standAt (wpAny_bind (wpAny_mono (turn n s hI) (fun r s₁ h₁ => ?_) fun _ _ h' => h')))
  cases r with
  | none => exact wpAny_pure h₁
  | some v =>
    refine wpAny_bind (wpAny_mono h₁ (fun _ s₁' h₁' => ?_) fun _ _ h' => h')
    refine wpAny_bind (wpAny_mono h₁' (fun _ s₂ h₂ => wpAny_bind (wpAny_mono h₂ (fun ok s₃ h₃ => ?_) fun _ _ h' => h')) fun _ _ h' => h')
    cases ok with
    | false => exact wpAny_pure ⟨rfl, h₃⟩
    | true =>
      exact wpAny_bind (wpAny_bind (wpAny_mono h₃ (fun x s₄ h₄ => wpAny_bind (wpAny_mono h₄ (fun _ s₅ h₅ => wpAny_pure (wpAny_pure ⟨rfl, h₅⟩)) fun _ _ h' => h')) fun _ _ h' => h'))

section
variable {X : Cx}
/-- [elt for target in iter if ..]: D the new list; W by the turn and a measure, Nx what a turn is to reach -/
def tLc (wi : TI) (g : TG) (tt : TT) (te : TE) (vs : List Nat) : TE := fun σ H Q => wi σ H fun J H1 => ∀ D, H1 D = none → ∃ W : Nat → Nat → Hp → Prop, (∃ m, W 0 m (upd H1 D (.lst []))) ∧ ∀ i m H, W i m H →
  (J.stop i H ∧ Q (.ref D) H) ∨ (J.go i H ∧ ∃ Nx : Hp → Prop, (∀ H', Nx H' → ∃ m', m' < m ∧ W (i + 1) m' H') ∧ ∀ x H', J.yld i H x H' → g x (wipe σ vs) H' fun σ2 H2 => wipe σ2 vs = wipe σ vs ∧ tt σ2 H2 fun b H3 =>
    if b = true then te σ2 H3 fun y H4 => ∃ acc, H4 D = some (.lst acc) ∧ acc.length < sizeLine ∧ Nx (upd H4 D (.lst (acc ++ [y]))) else Nx H3)
theorem lc_core {pins : List (Addr × Obj)} {s : Shared} {σ : St} {H : Hp} {Q : VK} {elt tg iter : Expr} {ifs : List Expr} {scope : Scope} {own : List (Str × Nat)} {pos pos' : Pos} {wi : TI} {g : TG} {tt : TT} {te : TE} {use : Option (Value → Sem Unit)} {Qf : Value → Shared → Prop}
    (hc : X.calm = true) (hN : X.N.Nodup) (I : Inv X pins σ H s) (hi : PI X tg iter wi) (ok : BlkOk X.N X.env.scope scope own)
    (hg : ∀ (s : Shared) (H : Hp) (C : Addr) (cl : List (Str × Addr)) (fp : List Addr), PG (X.blk s H scope (compEnvC scope cl C X.env) fp) tg g) (ht : ∀ (s : Shared) (H : Hp) (C : Addr) (cl : List (Str × Addr)) (fp : List Addr), PTs (X.blk s H scope (compEnvC scope cl C X.env) fp) ifs tt)
    (he : ∀ (s : Shared) (H : Hp) (C : Addr) (cl : List (Str × Addr)) (fp : List Addr), PE (X.blk s H scope (compEnvC scope cl C X.env) fp) elt te) (hs : ∀ x, foldedSetIterable iter X.env x = pure x)
    (h : tLc wi g tt te (own.map (·.2)) σ H Q)
    (hRR : ∀ D C s' m H', Inv X pins σ H' s' → Q (.ref D) H' → s'.heap.Ns C m → FpOk X pins H' C → compPost (model X.prog X.w) X.A X.xe use Qf (.ref D) C (.ok .next) s') :
    wpAny (model X.prog X.w) X.A (comprehension (.ListComp elt [⟨tg, iter, ifs, 0⟩] scope pos) scope X.env pos' (newList []) false (eval iter X.env) use) Qf X.xe s := by
  have hfree : ∀ y ∈ scope.names, y.2 = .free → ∃ c, X.env.cells.lookup y.1 = some c := fun y hy e => by
    rcases ok.free y hy e with k | k
    · exact I.ok.has _ (.inl k)
    · exact I.ok.has _ (.inr k)
  refine wpAny_comprehension_free (use := use) rfl hs (closure_ok hfree) ok.kind (fun y hy e => by rw [ok.uniq y hy, e])
    (thn (hi pins s σ H _ I h) fun xv s1 hx => thn hx fun itv s2 h2 => ?_)
  obtain ⟨it, fp, tn, J, H2, e, I2, T, st2, f2, q⟩ := h2
  subst e
  refine wpAny_newObj_type (newEnv_comp ?_) (by show 0 ≤ sizeLine; decide)
  generalize hD : s2.heap.objs.size = D
  have hDn : H2 D = none := I2.hok.fresh (Nat.le_of_eq hD)
  obtain ⟨W, ⟨m0, w0⟩, turn⟩ := q D hDn
  -- the new list
  generalize hs3 : ({ s2 with heap := s2.heap.push { cls := .type "list", data := .seq ([] : List Value).toArray } } : Shared) = s3
  have I3 : Inv X pins σ (upd H2 D (.lst [])) s3 := by
    rw [← hs3]
    refine I2.laid (t' := s2.toks) (fun b o e => Heap.get?_push_of_some _ e) (Nat.le_of_eq hD) ⟨Nat.zero_le _, [], 0, .nil, ?_⟩
    rw [← hD]
    exact Heap.get?_push_size _ rfl
  have h3 : s3.heap = s2.heap.push { cls := .type "list", data := .seq ([] : List Value).toArray } := by rw [← hs3]
  have sz : ∀ b ∈ fp, b < s2.heap.objs.size := fun b hb => by
    obtain ⟨o, e, _⟩ := T.obj _ _ st2 b hb
    exact Heap.lt_size e
  have f3 : ∀ b ∈ fp, FpOk X pins (upd H2 D (.lst [])) b ∧ b < s3.heap.objs.size := fun b hb => by
    have hlt := sz b hb
    refine ⟨⟨?_, (f2 b hb).2⟩, by rw [h3, Heap.size_push]; exact Nat.lt_succ_of_lt hlt⟩
    rw [upd_ne (by rw [← hD]; exact Nat.ne_of_lt hlt)]
    exact (f2 b hb).1
  have st3 : tn 0 s3.heap := T.keep _ _ _ st2 fun b _ o e => by rw [h3]; exact Heap.get?_push_of_some _ e
  have I4 := block_start I3 ok hN f3
  have pg := hg s3 (upd H2 D (.lst [])) s3.heap.objs.size (cellsFrom (s3.heap.objs.size + 1) scope.names (cloFrom X.env.cells scope.names [])) fp
  have pt := ht s3 (upd H2 D (.lst [])) s3.heap.objs.size (cellsFrom (s3.heap.objs.size + 1) scope.names (cloFrom X.env.cells scope.names [])) fp
  have pe := he s3 (upd H2 D (.lst [])) s3.heap.objs.size (cellsFrom (s3.heap.objs.size + 1) scope.names (cloFrom X.env.cells scope.names [])) fp
  show codeAny _ _ (.compStart (.ListComp elt [⟨tg, iter, ifs, 0⟩] scope pos) 0 (.ref it) (.ref D) (compEnvC scope (cellsFrom (s3.heap.objs.size + 1) scope.names (cloFrom X.env.cells scope.names [])) s3.heap.objs.size X.env)) (compPost (model X.prog X.w) X.A X.xe use Qf (.ref D) s3.heap.objs.size) { s3 with heap := pushCells (s3.heap.push { cls := .type "dict", data := .dict #[] }) scope.names }
  have nfp : ∀ b ∈ fp, (upd H2 D (.lst [])) b = none := fun b hb => (f3 b hb).1.1
  generalize hce : compEnvC scope (cellsFrom (s3.heap.objs.size + 1) scope.names (cloFrom X.env.cells scope.names [])) s3.heap.objs.size X.env = ce at I4 pg pt pe ⊢
  have cL : ce.locals = s3.heap.objs.size := by subst hce; rfl
  generalize hH3 : upd H2 D (.lst []) = H3 at I3 I4 pg pt pe w0 nfp f3
  generalize hs4 : ({ s3 with heap := pushCells (s3.heap.push { cls := .type "dict", data := .dict #[] }) scope.names } : Shared) = s4 at I4 ⊢
  have st4 : tn 0 s4.heap := T.keep _ _ _ st3 fun b _ o e => by rw [← hs4]; exact pushCells_keeps _ _ _ _ (Heap.get?_push_of_some _ e)
  have stat : ∀ {σ' : St} {H' : Hp} {s' : Shared}, Inv (X.blk s3 H3 scope ce fp) [] σ' H' s' → (∀ b ∈ fp, H' b = none) → ∀ b ∈ fp, FpOk (X.blk s3 H3 scope ce fp) [] H' b := fun {σ' H' s'} I' hn b hb =>
    ⟨hn b hb, (I'.ok.exf b hb).1, I'.ok.exfs b hb, .inl hb, fun x c e => (I'.ok.exf b hb).2 x c e, fun p hp => absurd (show p ∈ ([] : List (Addr × Obj)) ++ [] from hp) (by simp)⟩
  have loop : codeAny (model X.prog X.w) X.A (.compLoop (.ListComp elt [⟨tg, iter, ifs, 0⟩] scope pos) 0 (.ref it) (.ref D) ce) (compPost (model X.prog X.w) X.A X.xe use Qf (.ref D) s3.heap.objs.size) s4 := by
    refine compLoop_any (fun n s' => ∃ i H', Inv (X.blk s3 H3 scope ce fp) [] (wipe σ (own.map (·.2))) H' s' ∧ tn i s'.heap ∧ (∀ b ∈ fp, H' b = none) ∧ W i n H') ?_ m0 ⟨0, H3, I4, st4, nfp, w0⟩
    rintro n s5 ⟨i, H5, I5, st5, n5, w5⟩
    rcases turn i n H5 w5 with ⟨stop, qq⟩ | ⟨go, Nx, hNx, step⟩
    · have td := T.done (X.blk s3 H3 scope ce fp) rfl rfl rfl hc i [] s5 _ H5 (fun _ _ => False) I5 (stat I5 n5) st5 stop
      refine thnF td fun r s6 ⟨hr, I6⟩ => ?_
      subst hr
      -- back in the def's context
      have I7 : Inv X pins σ H5 s6 := I3.call' (ch := fp) I6.os I6.base I6.hok I6.bare fun b hb => ⟨(f3 b hb).1.2.2.2.1, (f3 b hb).1.2.1, (f3 b hb).1.2.2.2.2.1, (f3 b hb).1.2.2.2.2.2⟩
      have nC : H5 s3.heap.objs.size = none := by
        have z : H5 ce.locals = none := I6.free
        rw [cL] at z
        exact z
      obtain ⟨m, hn, _⟩ := I6.loc
      have hn : s6.heap.Ns ce.locals m := hn
      rw [cL] at hn
      exact hRR D s3.heap.objs.size s6 m H5 I7 qq hn (I3.fpOk (Nat.le_refl _) nC)
    · have ti := T.item (X.blk s3 H3 scope ce fp) rfl rfl rfl hc i [] s5 _ H5 (fun _ _ => False) I5 (stat I5 n5) st5 go
      refine thnF ti fun r s6 ⟨u, hr, h6⟩ => ?_
      subst hr
      refine thnF h6 fun _ s7 ⟨x, H7, I7, r7, y7, st7, n7⟩ => ?_
      have I7' := I7.pinned (stat I7 n7) (T.obj _ _ st7)
      refine thnF (pg _ s7 _ H7 x u _ I7' r7 (step x H7 y7)) fun _ s8 ⟨σ8, H8, I8, hw8, q8⟩ => ?_
      refine thnF (pt _ s8 σ8 H8 _ I8 q8) fun b s9 ⟨H9, I9, q9⟩ => ?_
      -- the turn's end
      have fin : ∀ {s' : Shared} {H' : Hp}, Inv (X.blk s3 H3 scope ce fp) ([] ++ pinsAt fp s7.heap) σ8 H' s' → Nx H' → ∃ m, m < n ∧ ∃ i H', Inv (X.blk s3 H3 scope ce fp) [] (wipe σ (own.map (·.2))) H' s' ∧ tn i s'.heap ∧ (∀ b ∈ fp, H' b = none) ∧ W i m H' := fun {s' H'} I' nx => by
        obtain ⟨m', hm, w'⟩ := hNx H' nx
        have pin' : ∀ b ∈ fp, ∀ o, s7.heap.get? b = some o → s'.heap.get? b = some o ∧ H' b = none := fun b hb o e =>
          let z := I'.pin (b, o) (List.mem_append_right _ (List.mem_append_right _ (mem_pinsAt hb e)))
          ⟨z.1, z.2.1⟩
        have hl : (wipe σ (own.map (·.2))).length = σ8.length := by rw [← hw8, wipe_length]
        refine ⟨m', hm, i + 1, H', (I'.unpinned (pins := [])).weak hl (fun j v e => ?_), T.keep _ _ _ st7 fun b hb o e => (pin' b hb o e).1, fun b hb => ?_, w'⟩
        · rw [← hw8] at e
          exact (wipe_some e).1
        · obtain ⟨o, e, _⟩ := T.obj _ _ st7 b hb
          exact (pin' b hb o e).2
      cases b with
      | false =>
        simp only [Bool.false_eq_true, if_false] at q9 ⊢
        exact fin I9 q9
      | true =>
        simp only [if_true] at q9 ⊢
        refine thnF (pe _ s9 σ8 H9 _ I9 q9) fun z s10 ⟨yv, H10, I10, r10, acc, hD10, hz10, nx⟩ => ?_
        exact app_ok (X := X.blk s3 H3 scope ce fp) I10 hD10 hz10 r10 fun s11 I11 => fin I11 nx
  exact codeAny_compStart_list loop (T.self X.A 0 _ _ _ st4 loop)
/-- as a value -/
theorem pe_lc {elt tg iter : Expr} {ifs : List Expr} {scope : Scope} {own : List (Str × Nat)} {pos : Pos} {wi : TI} {g : TG} {tt : TT} {te : TE} (hc : X.calm = true) (hN : X.N.Nodup) (hi : PI X tg iter wi) (ok : BlkOk X.N X.env.scope scope own)
    (hg : ∀ (s : Shared) (H : Hp) (C : Addr) (cl : List (Str × Addr)) (fp : List Addr), PG (X.blk s H scope (compEnvC scope cl C X.env) fp) tg g) (ht : ∀ (s : Shared) (H : Hp) (C : Addr) (cl : List (Str × Addr)) (fp : List Addr), PTs (X.blk s H scope (compEnvC scope cl C X.env) fp) ifs tt)
    (he : ∀ (s : Shared) (H : Hp) (C : Addr) (cl : List (Str × Addr)) (fp : List Addr), PE (X.blk s H scope (compEnvC scope cl C X.env) fp) elt te) (hs : ∀ x, foldedSetIterable iter X.env x = pure x := by intro _; rfl) :
    PE X (.ListComp elt [⟨tg, iter, ifs, 0⟩] scope pos) (tLc wi g tt te (own.map (·.2))) := by
  intro pins s σ H Q I h
  rw [eval_ListComp]
  refine lc_core hc hN I hi ok hg ht he hs h fun D C s' m H' I' q hn f => ⟨m, hn, fun h'' sb => ?_⟩
  obtain ⟨f0, f1, f2, f3, f4, f5⟩ := f
  exact ⟨.ref D, H', I'.turned (t' := s'.toks) (fun b o hb e => (sb.2 b hb).trans e) f0 f1 f3 f4 f5, rfl, q⟩
/-- name = [..] on one line, the name a local -/
theorem ps_setLc {i : Nat} {y : Str} {py : Pos} {elt tg iter : Expr} {ifs : List Expr} {scope : Scope} {own : List (Str × Nat)} {pos spos : Pos} {wi : TI} {g : TG} {tt : TT} {te : TE} (hc : X.calm = true) (hN : X.N.Nodup) (hy : X.N[i]? = some y) (hyl : X.env.scope.names.lookup y = some .local)
    (hsw : swapsWith (.ListComp elt [⟨tg, iter, ifs, 0⟩] scope pos) (some (.Name y py)) spos.line X.env = pure true) (hi : PI X tg iter wi) (ok : BlkOk X.N X.env.scope scope own)
    (hg : ∀ (s : Shared) (H : Hp) (C : Addr) (cl : List (Str × Addr)) (fp : List Addr), PG (X.blk s H scope (compEnvC scope cl C X.env) fp) tg g) (ht : ∀ (s : Shared) (H : Hp) (C : Addr) (cl : List (Str × Addr)) (fp : List Addr), PTs (X.blk s H scope (compEnvC scope cl C X.env) fp) ifs tt)
    (he : ∀ (s : Shared) (H : Hp) (C : Addr) (cl : List (Str × Addr)) (fp : List Addr), PE (X.blk s H scope (compEnvC scope cl C X.env) fp) elt te) (hs : ∀ x, foldedSetIterable iter X.env x = pure x := by intro _; rfl) :
    PS X (.Assign [.Name y py] (.ListComp elt [⟨tg, iter, ifs, 0⟩] scope pos) spos) (tAsg (tLc wi g tt te (own.map (·.2))) (gName i)) := by
  intro pins s σ H D I h
  rw [exec_Assign_Name_used _ _ _ _ hsw]
  refine wpAny_bind (wpAny_standAt (wpAny_bind ?_))
  show wpAny _ X.A (do let _ ← comprehension (.ListComp elt [⟨tg, iter, ifs, 0⟩] scope pos) scope X.env (firstIterPos [⟨tg, iter, ifs, 0⟩] pos) (newList []) false (eval iter X.env) (some (assign (.Name y py) X.env))) _ _ s
  have h : tLc wi g tt te (own.map (·.2)) σ H (fun x H1 => gName i x σ H1 D.nx) := h
  refine wpAny_bind (thn (lc_core (Qf := fun _ s' => SP X pins D .next s') hc hN I hi ok hg ht he hs h fun L C s' m H' I' q hn f => ?_) fun _ s' hq => wpAny_pure (wpAny_pure hq))
  show wpAny _ _ (assign (.Name y py) X.env (.ref L)) _ _ _
  refine wpAny_assign_Name (store_ok2 (v := V.ref L) I' hN hy (.inl hyl) rfl (fun s2 I2 ⟨a, sb, ha⟩ => ?_) (.inr hyl))
  obtain ⟨f0, f1, f2, f3, f4, f5⟩ := f
  have haC : C ≠ a := by
    rcases ha with z | z
    · rw [z]; exact f1
    · exact fun e => f4 y a z e.symm
  refine ⟨m, hn.sameBut sb haC, fun h3 sb3 => ?_⟩
  exact ⟨_, H', I2.turned (t' := s2.toks) (fun b o hb e => (sb3.2 b hb).trans e) f0 f1 f3 f4 f5, q⟩
theorem sw_true {elt : Expr} {gs : List Comprehension} {scope : Scope} {pos py : Pos} {y : Str} {l : Nat} {env : Env} (hk : env.scope.kind = .function) (hy : env.scope.names.lookup y = some .local) (hl : (py.line == pos.line) = true)
    (ha : (scope.names.any fun (n, k) => n == y && (k == .local || k == .cell)) = false) : swapsWith (.ListComp elt gs scope pos) (some (.Name y py)) l env = pure true := by
  have ky : env.kindOf y = some .local := hy
  have hb : env.blockKind = .function := by unfold Env.blockKind; rw [hk]; rfl
  unfold swapsWith
  simp only [hb, ky, ha, Expr.pos, hl]
  rfl
end

/-! ### the forms one uses -/
def blkC (N : List Str) (sc scope : Scope) (own : List (Str × Nat)) : Bool :=
  (match scope.kind with | .function => true | _ => false) && (scope.names.all fun y => decide (scope.names.lookup y.1 = some y.2)) && (own.all fun p => decide (N[p.2]? = some p.1)) &&
    (scope.names.all fun y => match y.2 with
      | .free => (match sc.names.lookup y.1 with | some .cell => true | some .free => true | _ => false)
      | .local => decide (y.1 ∈ own.map (·.1)) || decide (y.1 ∉ N)
      | .cell => decide (y.1 ∈ own.map (·.1)) || decide (y.1 ∉ N)
      | _ => true)
theorem blkOk_by {N : List Str} {sc scope : Scope} {own : List (Str × Nat)} (h : blkC N sc scope own = true) : BlkOk N sc scope own := by
  unfold blkC at h
  simp only [Bool.and_eq_true, List.all_eq_true, decide_eq_true_eq] at h
  obtain ⟨⟨⟨h1, h2⟩, h3⟩, h4⟩ := h
  refine ⟨?_, h2, h3, fun y hy e => ?_, fun y hy e => ?_⟩
  · split at h1
    · assumption
    · cases h1
  · have q := h4 y hy
    simp only [e] at q
    split at q <;> first | exact .inl (by assumption) | exact .inr (by assumption) | cases q
  · have q := h4 y hy
    rcases e with e | e <;> (simp only [e, Bool.or_eq_true, decide_eq_true_eq] at q; exact q)
end L2

namespace L2
open PySem PySem.Spec PyProof.Rows

section
variable {prog : Program} {w : World} {A : Around} {R : Result → Shared → Prop} {s : Shared} {elt t0 i0 t1 i1 : Expr} {ifs0 ifs1 : List Expr} {scope : Scope} {pos : Pos} {it acc : Value} {env : Env}
end

section
variable {X : Cx}
end
end L2

namespace L2
open PySem PySem.Spec PyProof.Rows

/-! ### lists of pairs as tables -/
section
variable {κ : Type} [DecidableEq κ]
def valV (kvs : List (κ × V)) (k : κ) : Option V := (kvs.find? fun kv => decide (kv.1 = k)).map (·.2)
/-- in its place, or at the end -/
def putK (kvs : List (κ × V)) (k : κ) (v : V) : List (κ × V) :=
  if (kvs.any fun kv => decide (kv.1 = k)) = true then kvs.map (fun kv => if kv.1 = k then (kv.1, v) else kv) else kvs ++ [(k, v)]
def dropK (kvs : List (κ × V)) (k : κ) : List (κ × V) := kvs.filter fun kv => decide (kv.1 ≠ k)

theorem valV_pos {p : κ × V} {r : List (κ × V)} {k : κ} (e : p.1 = k) : valV (p :: r) k = some p.2 := by simp [valV, List.find?_cons, e]
theorem valV_neg {p : κ × V} {r : List (κ × V)} {k : κ} (e : ¬ p.1 = k) : valV (p :: r) k = valV r k := by simp [valV, List.find?_cons, e]
theorem valV_any (k : κ) : ∀ kvs : List (κ × V), (kvs.any fun kv => decide (kv.1 = k)) = (valV kvs k).isSome
  | [] => rfl
  | p :: r => by
    rw [List.any_cons]
    by_cases e : p.1 = k
    · simp only [valV_pos e, decide_eq_true e, Bool.true_or, Option.isSome_some]
    · rw [valV_neg e, decide_eq_false e, Bool.false_or]; exact valV_any k r
theorem length_putK (kvs : List (κ × V)) (k : κ) (v : V) : (putK kvs k v).length ≤ kvs.length + 1 := by
  unfold putK
  split
  · rw [List.length_map]; omega
  · rw [List.length_append, List.length_cons, List.length_nil]; omega
theorem RelO.isSome_eq {o : Option V} {u : Option Value} (r : RelO o u) : o.isSome = u.isSome := by
  cases o with
  | none => cases u with
    | none => rfl
    | some _ => exact (show False from r).elim
  | some _ => cases u with
    | none => exact (show False from r).elim
    | some _ => rfl
theorem RelO.getD {o : Option V} {u : Option Value} {d : V} {d' : Value} (r : RelO o u) (rd : RelV d d') : RelV (o.getD d) (u.getD d') := by
  cases o with
  | none => cases u with
    | none => exact rd
    | some _ => exact (show False from r).elim
  | some _ => cases u with
    | none => exact (show False from r).elim
    | some _ => exact r

/-- raw tables of the same keys -/
theorem KV.val {kvs : List (κ × V)} {vs : List (κ × Value)} (r : KV kvs vs) (k : κ) : RelO (valV kvs k) (valueAt vs k) := by
  unfold KV at r
  induction r with
  | nil => exact True.intro
  | @cons p q ps qs h t ih =>
    obtain ⟨h1, h2⟩ := h
    by_cases e : p.1 = k
    · have e' : q.1 = k := h1.symm.trans e
      have b : valueAt (q :: qs) k = some q.2 := by simp [valueAt, List.find?_cons, e']
      rw [valV_pos e, b]; exact h2
    · have e' : ¬ q.1 = k := fun z => e (h1.trans z)
      have b : valueAt (q :: qs) k = valueAt qs k := by simp [valueAt, List.find?_cons, e']
      rw [valV_neg e, b]; exact ih
theorem KV.any {kvs : List (κ × V)} {vs : List (κ × Value)} (r : KV kvs vs) (k : κ) : (kvs.any fun kv => decide (kv.1 = k)) = vs.any fun kv => decide (kv.1 = k) := by
  unfold KV at r
  induction r with
  | nil => rfl
  | cons h t ih => rw [List.any_cons, List.any_cons, ih, h.1]
theorem KV.repl {kvs : List (κ × V)} {vs : List (κ × Value)} (r : KV kvs vs) (k : κ) {y : V} {u : Value} (ry : RelV y u) :
    KV (kvs.map fun kv => if kv.1 = k then (kv.1, y) else kv) (vs.map fun kv => if kv.1 = k then (kv.1, u) else kv) := by
  unfold KV at r ⊢
  induction r with
  | nil => exact .nil
  | @cons p q ps qs h t ih =>
    rw [List.map_cons, List.map_cons]
    refine .cons ?_ ih
    obtain ⟨h1, h2⟩ := h
    by_cases e : p.1 = k
    · rw [if_pos e, if_pos (h1.symm.trans e)]; exact ⟨h1, ry⟩
    · rw [if_neg e, if_neg (fun z => e (h1.trans z))]; exact ⟨h1, h2⟩
theorem KV.put {kvs : List (κ × V)} {vs : List (κ × Value)} (r : KV kvs vs) (k : κ) {y : V} {u : Value} (ry : RelV y u) : KV (putK kvs k y) (stored vs k u) := by
  unfold putK stored
  rw [r.any k]
  by_cases e : (vs.any fun kv => decide (kv.1 = k)) = true
  · rw [if_pos e, if_pos e]; exact r.repl k ry
  · rw [if_neg e, if_neg e]; exact Paired.snoc r ⟨rfl, ry⟩
theorem KV.drop {kvs : List (κ × V)} {vs : List (κ × Value)} (r : KV kvs vs) (k : κ) : KV (dropK kvs k) (without vs k) := by
  unfold KV at r ⊢
  unfold dropK without
  induction r with
  | nil => exact .nil
  | @cons p q ps qs h t ih =>
    obtain ⟨h1, h2⟩ := h
    rw [List.filter_cons, List.filter_cons]
    by_cases e : p.1 = k
    · have a : ¬ decide (p.1 ≠ k) = true := by simp [e]
      have b : ¬ decide (q.1 ≠ k) = true := by simp [h1.symm.trans e]
      rw [if_neg a, if_neg b]; exact ih
    · have e' : ¬ q.1 = k := fun z => e (h1.trans z)
      have a : decide (p.1 ≠ k) = true := by simp [e]
      have b : decide (q.1 ≠ k) = true := by simp [e']
      rw [if_pos a, if_pos b]; exact .cons ⟨h1, h2⟩ ih
theorem KV.keys {kvs : List (κ × V)} {vs : List (κ × Value)} (r : KV kvs vs) : kvs.map (·.1) = vs.map (·.1) := by
  unfold KV at r
  induction r with
  | nil => rfl
  | cons h t ih => rw [List.map_cons, List.map_cons, ih, h.1]
theorem KV.length {kvs : List (κ × V)} {vs : List (κ × Value)} (r : KV kvs vs) : kvs.length = vs.length := Paired.length r
end


/-! ### a tracked dict, its keys ints and texts or tuples of these -/
theorem kV_is {P : Program} {w : World} {k : Key} {u : Value} (r : RelV (kV k) u) : (mixKind P w).is k u = true := by
  cases k with
  | inl i => obtain ⟨t, e⟩ := (show ∃ t, u = Value.int i t from r); subst e; exact mixKind_int P w i t
  | inr x => obtain ⟨t, e⟩ := (show ∃ t, u = Value.str x t from r); subst e; exact mixKind_str P w x t
theorem items_are {P : Program} {w : World} : ∀ {ks : List Key} {us : List Value}, Vals (ks.map kV) us → ItemsAre (mixKind P w) ks us
  | [], _, r => by rw [List.map_nil] at r; cases r; exact .nil
  | k :: ks, _, r => by
    rw [List.map_cons] at r
    cases r with
    | cons h t => exact .cons (kV_is h) (items_are t)

/-- raw entries of a dict with tuple keys -/
abbrev KT (H : Hp) : List (List Key × V) → List (List Key × Addr × Value) → Prop := Paired fun p q => p.1 = q.1 ∧ H q.2.1 = some (.tup (p.1.map kV)) ∧ RelV p.2 q.2.2
theorem KT.val {H : Hp} {kvs : List (List Key × V)} {xs : List (List Key × Addr × Value)} (r : KT H kvs xs) (k : List Key) : RelO (valV kvs k) ((atKey xs k).map (·.2)) := by
  induction r with
  | nil => exact True.intro
  | @cons p q ps qs h t ih =>
    obtain ⟨h1, _, h2⟩ := h
    by_cases e : p.1 = k
    · have e' : q.1 = k := h1.symm.trans e
      have b : atKey (q :: qs) k = some q.2 := by simp [atKey, List.find?_cons, e']
      rw [valV_pos e, b]; exact h2
    · have e' : ¬ q.1 = k := fun z => e (h1.trans z)
      have b : atKey (q :: qs) k = atKey qs k := by simp [atKey, List.find?_cons, e']
      rw [valV_neg e, b]; exact ih
theorem KT.repl {H : Hp} {kvs : List (List Key × V)} {xs : List (List Key × Addr × Value)} (r : KT H kvs xs) (k : List Key) {y : V} {u : Value} (ry : RelV y u) :
    KT H (kvs.map fun kv => if kv.1 = k then (kv.1, y) else kv) (xs.map (putAt k u)) := by
  induction r with
  | nil => exact .nil
  | @cons p q ps qs h t ih =>
    rw [List.map_cons, List.map_cons]
    refine .cons ?_ ih
    obtain ⟨h1, h2, h3⟩ := h
    unfold putAt
    by_cases e : p.1 = k
    · rw [if_pos e, if_pos (h1.symm.trans e)]; exact ⟨h1, h2, ry⟩
    · rw [if_neg e, if_neg (fun z => e (h1.trans z))]; exact ⟨h1, h2, h3⟩
theorem KT.put {H : Hp} {kvs : List (List Key × V)} {xs : List (List Key × Addr × Value)} (r : KT H kvs xs) (k : List Key) {b : Addr} {y : V} {u : Value} (hb : H b = some (.tup (k.map kV))) (ry : RelV y u) :
    KT H (putK kvs k y) (storedH xs k b u) := by
  have e : (kvs.any fun kv => decide (kv.1 = k)) = (atKey xs k).isSome := by
    rw [valV_any, (r.val k).isSome_eq, Option.isSome_map]
  unfold putK storedH
  rw [e]
  by_cases q : (atKey xs k).isSome = true
  · rw [if_pos q, if_pos q]; exact r.repl k ry
  · rw [if_neg q, if_neg q]; exact Paired.snoc r ⟨rfl, hb, ry⟩
theorem KT.keeps {H H' : Hp} {kvs : List (List Key × V)} {xs : List (List Key × Addr × Value)} (r : KT H kvs xs) (ht : ∀ b ys, H b = some (.tup ys) → H' b = some (.tup ys)) : KT H' kvs xs :=
  Paired.mapP r fun _ _ z => ⟨z.1, ht _ _ z.2.1, z.2.2⟩

section
variable {P : Program} {w : World} {H : Hp} {h : Heap} {a : Addr}
theorem rd_of {u : HO} (ok : HOk P w H h) (e : Rd H a u) : ObjOk P w H h a u := e.ok ok
theorem dk_rd {kvs : List (Key × V)} (ok : HOk P w H h) (e : Rd H a (.dK kvs)) : kvs.length ≤ sizeLine ∧ (a == sysModules) = false ∧ ∃ vs, KV kvs vs ∧ h.DictOf (mixKind P w) a vs :=
  show ObjOk P w H h a (.dK kvs) from rd_of ok e
theorem dk_of {kvs : List (Key × V)} (ok : HOk P w H h) (e : H a = some (.dK kvs)) : kvs.length ≤ sizeLine ∧ (a == sysModules) = false ∧ ∃ vs, KV kvs vs ∧ h.DictOf (mixKind P w) a vs := dk_rd ok (.inl e)
/-- a tracked tuple of ints and texts is a key -/
theorem key_of {ks : List Key} (ok : HOk P w H h) (e : H a = some (.tup (ks.map kV))) : (tupleKind (mixKind P w)).is h ks a := by
  obtain ⟨_, its, r, ⟨o, h1, h2, n, h3⟩, _⟩ := (show ObjOk P w H h a (.tup (ks.map kV)) from ok a _ e)
  exact ⟨o, its.toArray, n, h1, h2, h3, by simpa using items_are r⟩
theorem dt_rd {kvs : List (List Key × V)} (ok : HOk P w H h) (e : Rd H a (.dT kvs)) : kvs.length ≤ sizeLine ∧ (a == sysModules) = false ∧
    ∃ xs, KT H kvs xs ∧ h.DictOfH (tupleKind (mixKind P w)) a xs := by
  obtain ⟨z, y, xs, r, o, es, ep, h1, h2, h3, h4, h5⟩ := (show ObjOk P w H h a (.dT kvs) from rd_of ok e)
  refine ⟨z, y, xs, r, o, es, ep, h1, h2, h3, h4, fun x hx => ?_, h5⟩
  have all : ∀ {l : List (List Key × V)} {m : List (List Key × Addr × Value)}, KT H l m → ∀ x ∈ m, (tupleKind (mixKind P w)).is h x.1 x.2.1 := by
    intro l m q
    induction q with
    | nil => intro x hx; exact nomatch hx
    | @cons p q ps qs hq t ih =>
      intro x hx
      rcases List.mem_cons.mp hx with e | hx
      · subst e
        exact key_of ok (by rw [← hq.1]; exact hq.2.1)
      · exact ih x hx
  exact all r x hx
theorem dt_of {kvs : List (List Key × V)} (ok : HOk P w H h) (e : H a = some (.dT kvs)) : kvs.length ≤ sizeLine ∧ (a == sysModules) = false ∧
    ∃ xs, KT H kvs xs ∧ h.DictOfH (tupleKind (mixKind P w)) a xs := dt_rd ok (.inl e)
end

/-- what the dict at a holds at the key y -/
def DGet (H : Hp) (a : Addr) (y : V) (r : Option V) : Prop :=
  (∃ kvs k, Rd H a (.dK kvs) ∧ y = kV k ∧ r = valV kvs k) ∨ ∃ kvs k b, Rd H a (.dT kvs) ∧ y = .ref b ∧ H b = some (.tup (k.map kV)) ∧ r = valV kvs k
/-- the heap behind a[y] = v -/
def DPut (H : Hp) (a : Addr) (y v : V) (H' : Hp) : Prop :=
  (∃ kvs k, H a = some (.dK kvs) ∧ y = kV k ∧ kvs.length < sizeLine ∧ H' = upd H a (.dK (putK kvs k v))) ∨
  ∃ kvs k b, H a = some (.dT kvs) ∧ y = .ref b ∧ H b = some (.tup (k.map kV)) ∧ kvs.length < sizeLine ∧ H' = upd H a (.dT (putK kvs k v))
theorem DGet.k {H : Hp} {a : Addr} {kvs : List (Key × V)} {k : Key} (e : H a = some (.dK kvs)) : DGet H a (kV k) (valV kvs k) := .inl ⟨kvs, k, .inl e, rfl, rfl⟩
theorem DGet.t {H : Hp} {a b : Addr} {kvs : List (List Key × V)} {k : List Key} (e : H a = some (.dT kvs)) (eb : H b = some (.tup (k.map kV))) : DGet H a (.ref b) (valV kvs k) := .inr ⟨kvs, k, b, .inl e, rfl, eb, rfl⟩
theorem DPut.k {H : Hp} {a : Addr} {kvs : List (Key × V)} {k : Key} {v : V} (e : H a = some (.dK kvs)) (hl : kvs.length < sizeLine) : DPut H a (kV k) v (upd H a (.dK (putK kvs k v))) := .inl ⟨kvs, k, e, rfl, hl, rfl⟩
theorem DPut.t {H : Hp} {a b : Addr} {kvs : List (List Key × V)} {k : List Key} {v : V} (e : H a = some (.dT kvs)) (eb : H b = some (.tup (k.map kV))) (hl : kvs.length < sizeLine) :
    DPut H a (.ref b) v (upd H a (.dT (putK kvs k v))) := .inr ⟨kvs, k, b, e, rfl, eb, hl, rfl⟩


section
variable {X : Cx} {pins : List (Addr × Obj)} {σ : St} {H : Hp} {s : Shared} {a : Addr} {y v : V} {u r : Value} {o : Option V} {A : Around} {E : Value → Shared → Prop}

theorem Inv.big (I : Inv X pins σ H s) : sysModules < s.heap.objs.size := by
  have h : mainGlobals < s.heap.objs.size := (I.mod.glob.keeps I.bk).lt
  exact Nat.lt_trans (by decide) h

/-- d[y], there -/
theorem d_getItem {Q : Value → Shared → Prop} (hu : A.units + 1 < cLine) (I : Inv X pins σ H s) (g : DGet H a y (some v)) (ry : RelV y u) (h : ∀ w' s', Inv X pins σ H s' → RelV v w' → Q w' s') :
    wpAny (model X.prog X.w) A (getItem (.ref a) u) Q E s := by
  rcases g with ⟨kvs, k, e, ey, l⟩ | ⟨kvs, k, b, e, ey, eb, l⟩
  · subst ey
    obtain ⟨z, hd, vs, rel, dd⟩ := dk_rd I.hok e
    obtain ⟨w', hw, rw'⟩ := RelO.some_of (v := v) (o := valueAt vs k) (by rw [l]; exact rel.val k)
    exact wpAny_getItem_of (kV_is ry) dd.mapOf hw (h w' _ (I.tok _) rw')
  · subst ey
    cases (show u = Value.ref b from ry)
    obtain ⟨z, hd, xs, rel, dd⟩ := dt_rd I.hok e
    obtain ⟨w', hw, rw'⟩ := RelO.some_of (v := v) (o := (atKey xs k).map (·.2)) (by rw [l]; exact rel.val k)
    obtain ⟨p, hp, hp2⟩ := Option.map_eq_some_iff.mp hw
    refine wpAny_getItem_heap (tupleKind_room_in1 hu) (key_of I.hok eb) dd hp ?_
    rw [hp2]
    exact h w' _ (I.tok _) rw'
/-- y in d -/
theorem d_in {Q : Value → Shared → Prop} (hu : A.units + 1 < cLine) (I : Inv X pins σ H s) (g : DGet H a y o) (ry : RelV y u) (h : ∀ s', Inv X pins σ H s' → Q (.bool o.isSome) s') :
    wpAny (model X.prog X.w) A (compareOp .In u (.ref a)) Q E s := by
  rcases g with ⟨kvs, k, e, ey, l⟩ | ⟨kvs, k, b, e, ey, eb, l⟩
  · subst ey
    obtain ⟨z, hd, vs, rel, dd⟩ := dk_rd I.hok e
    refine wpAny_in_of (kV_is ry) hd dd.mapOf ?_
    rw [← (rel.val k).isSome_eq, ← l]
    exact h _ (I.tok _)
  · subst ey
    cases (show u = Value.ref b from ry)
    obtain ⟨z, hd, xs, rel, dd⟩ := dt_rd I.hok e
    refine wpAny_in_heap (tupleKind_room_in1 hu) (key_of I.hok eb) hd dd ?_
    have q := (rel.val k).isSome_eq
    rw [Option.isSome_map] at q
    rw [← q, ← l]
    exact h _ (I.tok _)
theorem d_notIn {Q : Value → Shared → Prop} (hu : A.units + 1 < cLine) (I : Inv X pins σ H s) (g : DGet H a y o) (ry : RelV y u) (h : ∀ s', Inv X pins σ H s' → Q (.bool (!o.isSome)) s') :
    wpAny (model X.prog X.w) A (compareOp .NotIn u (.ref a)) Q E s := by
  rcases g with ⟨kvs, k, e, ey, l⟩ | ⟨kvs, k, b, e, ey, eb, l⟩
  · subst ey
    obtain ⟨z, hd, vs, rel, dd⟩ := dk_rd I.hok e
    refine wpAny_notIn_of (kV_is ry) hd dd.mapOf ?_
    rw [← (rel.val k).isSome_eq, ← l]
    exact h _ (I.tok _)
  · subst ey
    cases (show u = Value.ref b from ry)
    obtain ⟨z, hd, xs, rel, dd⟩ := dt_rd I.hok e
    refine wpAny_notIn_heap (tupleKind_room_in1 hu) (key_of I.hok eb) hd dd ?_
    have q := (rel.val k).isSome_eq
    rw [Option.isSome_map] at q
    rw [← q, ← l]
    exact h _ (I.tok _)
/-- a dict's object is replaced -/
theorem d_write {h' : Heap} {t' : Nat} {ob : HO} (I : Inv X pins σ H s) (mu : Mut (H a)) (hs : Heap.SameBut a s.heap h') (he : ∃ q, h'.get? a = some q) (new : ObjOk X.prog X.w (upd H a ob) h' a ob) :
    Inv X pins σ (upd H a ob) { s with heap := h', toks := t' } :=
  I.write (x := a) (e := a) mu (.inl rfl) (fun b q hb z => (hs.2 b hb).trans z) he new
theorem dk_new {P : Program} {w : World} {H' : Hp} {h' : Heap} {kvs : List (Key × V)} {vs : List (Key × Value)} (z : kvs.length ≤ sizeLine) (hd : (a == sysModules) = false) (rel : KV kvs vs) (dd : h'.DictOf (mixKind P w) a vs) :
    ObjOk P w H' h' a (.dK kvs) := ⟨z, hd, vs, rel, dd⟩
/-- d[y] = v -/
theorem d_setItem {H' : Hp} {Q : Unit → Shared → Prop} (hu : A.units + 1 < cLine) (I : Inv X pins σ H s) (g : DPut H a y v H') (ry : RelV y u) (rv : RelV v r) (h : ∀ s', Inv X pins σ H' s' → Q () s') :
    wpAny (model X.prog X.w) A (setItem (.ref a) u r) Q E s := by
  rcases g with ⟨kvs, k, e, ey, l, eH⟩ | ⟨kvs, k, b, e, ey, eb, l, eH⟩
  · subst ey eH
    obtain ⟨z, hd, vs, rel, dd⟩ := dk_of I.hok e
    have hz : vs.length ≤ sizeLine := by rw [← rel.length]; exact z
    have hl : (putK kvs k v).length ≤ sizeLine := by have := length_putK kvs k v; omega
    refine wpAny_setItem_pairs (hsz := hz) (kV_is ry) dd fun h' dd' hs => h _ ?_
    have he : ∃ q, h'.get? a = some q := let ⟨q, _, _, hq, _⟩ := dd'; ⟨q, hq⟩
    exact d_write I (by rw [e]; exact True.intro) hs he (dk_new hl hd (rel.put k rv) dd')
  · subst ey eH
    cases (show u = Value.ref b from ry)
    obtain ⟨z, hd, xs, rel, dd⟩ := dt_of I.hok e
    have hz : xs.length ≤ sizeLine := by rw [← Paired.length rel]; exact z
    have hl : (putK kvs k v).length ≤ sizeLine := by have := length_putK kvs k v; omega
    refine wpAny_setItem_heap (hsz := hz) (tupleKind_room_in1 hu) (key_of I.hok eb) dd fun h' dd' hs => h _ ?_
    obtain ⟨q, es, ep, hq, h2, h3, h4, _, h5⟩ := dd'
    refine d_write I (by rw [e]; exact True.intro) hs ⟨q, hq⟩ ⟨hl, hd, _, (rel.put k eb rv).keeps fun c ys ec => ?_, q, es, ep, hq, h2, h3, h4, h5⟩
    rw [upd_ne (ne_of ec e (fun z => nomatch z))]
    exact ec
end

section
variable {X : Cx} {pins : List (Addr × Obj)} {σ : St} {H : Hp} {s : Shared} {a : Addr} {kvs : List (Key × V)} {k : Key} {u : Value} {A : Around} {E : Value → Shared → Prop}
/-- len(d) -/
theorem d_len {Q : Value → Shared → Prop} (I : Inv X pins σ H s) (e : Rd H a (.dK kvs)) (h : ∀ t s', Inv X pins σ H s' → Q (.int kvs.length t) s') : wpAny (model X.prog X.w) A (call (.builtin "len") [.ref a]) Q E s := by
  obtain ⟨z, hd, vs, rel, dd⟩ := dk_rd I.hok e
  refine call_len_dict hd dd (by rw [← rel.length]; rw [sizeLine_eq] at z; omega) ?_
  rw [← rel.length]
  exact h _ _ (I.tok _)
end


/-! ### readings and rules -/
theorem dict_typeIs {X : Cx} {pins : List (Addr × Obj)} {σ : St} {H : Hp} {s : Shared} {a : Addr} {y : V} {o : Option V} (I : Inv X pins σ H s) (g : DGet H a y o) : s.TypeIs (.ref a) "dict" := by
  rcases g with ⟨kvs, k, e, _, _⟩ | ⟨kvs, k, b, e, _, _, _⟩
  · obtain ⟨_, _, vs, _, dd⟩ := dk_rd I.hok e
    exact dd.typeIs
  · obtain ⟨_, _, xs, _, dd⟩ := dt_rd I.hok e
    exact dd.typeIs
section
variable {X : Cx} {o i e value : Expr} {pos pos' tpos : Pos} {td ty tv : TE}
end


/-! ### displays -/
theorem dk_empty {P : Program} {w : World} {H : Hp} (h : Heap) (hb : sysModules < h.objs.size) : ObjOk P w H (h.push { cls := .type "dict", data := .dict #[] }) h.objs.size (.dK []) :=
  ⟨Nat.zero_le _, beq_eq_false_iff_ne.mpr (Ne.symm (Nat.ne_of_lt hb)), [], .nil, Heap.DictOf.new h⟩
section
variable {X : Cx} {pos : Pos}
end

/-- the pairs of a display, from the left -/
def tPairs : List (TE × TE) → St → Hp → (List (V × V) → Hp → Prop) → Prop
  | [], _, H, Q => Q [] H
  | (tk, tv) :: r, σ, H, Q => tk σ H fun x H1 => tv σ H1 fun y H2 => tPairs r σ H2 fun ps H3 => Q ((x, y) :: ps) H3
abbrev VV : List (V × V) → List (Value × Value) → Prop := Paired fun p q => RelV p.1 q.1 ∧ RelV p.2 q.2
def PPs (X : Cx) (pos : Pos) (keys : List (Option Expr)) (values : List Expr) (trs : List (TE × TE)) : Prop :=
  ∀ (pins : List (Addr × Obj)) (s : Shared) (σ : St) (H : Hp) (Q : List (V × V) → Hp → Prop), Inv X pins σ H s → tPairs trs σ H Q →
    wpAny (model X.prog X.w) X.A (evalPairs (pairTrees keys values X.env pos)) (fun vs s' => ∃ ps H', Inv X pins σ H' s' ∧ VV ps vs ∧ Q ps H') X.xe s
theorem pps_nil {X : Cx} {pos : Pos} : PPs X pos [] [] [] := fun pins s σ H Q I h => pairTrees_nil_walk ⟨[], H, I, .nil, h⟩
theorem pps_cons {X : Cx} {pos : Pos} {k v : Expr} {ks : List (Option Expr)} {vs : List Expr} {tk tv : TE} {trs : List (TE × TE)} (hk : PE X k tk) (hv : PE X v tv) (hr : PPs X pos ks vs trs) :
    PPs X pos (some k :: ks) (v :: vs) ((tk, tv) :: trs) := fun pins s σ H Q I h =>
  pairTrees_cons_walk (thn (hk pins s σ H _ I h) fun u s1 ⟨x, H1, I1, rx, q1⟩ => thn (hv pins s1 σ H1 _ I1 q1) fun w2 s2 ⟨y, H2, I2, ry, q2⟩ =>
    thn (hr pins s2 σ H2 _ I2 q2) fun ws s3 ⟨ps, H3, I3, rel, q3⟩ => ⟨(x, y) :: ps, H3, I3, .cons ⟨rx, ry⟩ rel, q3⟩)

def mergeK (kvs more : List (Key × V)) : List (Key × V) := more.foldl (fun acc kv => putK acc kv.1 kv.2) kvs
theorem KV.merge : ∀ {more : List (Key × V)} {rs : List (Key × Value)} {kvs : List (Key × V)} {vs : List (Key × Value)}, KV more rs → KV kvs vs → KV (mergeK kvs more) (merged vs rs) := by
  intro more rs kvs vs r
  unfold KV at r
  induction r generalizing kvs vs with
  | nil => intro q; exact q
  | @cons p q ps qs h t ih =>
    intro r0
    have e : KV (putK kvs p.1 p.2) (stored vs q.1 q.2) := by
      have := r0.put p.1 h.2
      rw [← h.1]; exact this
    exact ih e
theorem length_mergeK : ∀ (more kvs : List (Key × V)), (mergeK kvs more).length ≤ kvs.length + more.length
  | [], kvs => by show kvs.length ≤ kvs.length + 0; omega
  | p :: r, kvs => by
    have h1 := length_mergeK r (putK kvs p.1 p.2)
    have h2 := length_putK kvs p.1 p.2
    show (mergeK (putK kvs p.1 p.2) r).length ≤ _
    rw [List.length_cons]; omega
theorem carries_of {P : Program} {w : World} : ∀ {kvs : List (Key × V)} {ws : List (Value × Value)}, VV (kvs.map fun kv => (kV kv.1, kv.2)) ws → ∃ rs, Carries (mixKind P w) ws rs ∧ KV kvs rs
  | [], _, r => by rw [List.map_nil] at r; cases r; exact ⟨[], True.intro, .nil⟩
  | p :: kvs, _, r => by
    rw [List.map_cons] at r
    cases r with
    | @cons a b as bs h t =>
      obtain ⟨rs, c, q⟩ := carries_of (P := P) (w := w) t
      obtain ⟨b1, b2⟩ := b
      exact ⟨(p.1, b2) :: rs, ⟨kV_is h.1, rfl, c⟩, .cons ⟨rfl, h.2⟩ q⟩
/-- {k: v, ..} with keys ints and texts; the new dict stands empty while the pairs are made -/
def tDisp (trs : List (TE × TE)) : TE := fun σ H Q => ∀ p, H p = none → tPairs trs σ (upd H p (.dK [])) fun ps H2 => H2 p = some (.dK []) ∧ ∃ kvs : List (Key × V), ps = kvs.map (fun kv => (kV kv.1, kv.2)) ∧ kvs.length ≤ 15 ∧ Q (.ref p) (upd H2 p (.dK (mergeK [] kvs)))
theorem pe_disp {X : Cx} {pos : Pos} {keys : List (Option Expr)} {values : List Expr} {trs : List (TE × TE)} (h : PPs X pos keys values trs) (hall : keys.all (·.isSome) = true) (hl : keys.length = values.length) (h0 : keys ≠ [])
    (h15 : keys.length ≤ 15) : PE X (.Dict keys values pos) (tDisp trs) := by
  intro pins s σ H Q I q
  have hn := I.hok.fresh (Nat.le_refl s.heap.objs.size)
  have I1 := I.laid (a := s.heap.objs.size) (o := .dK []) (h' := s.heap.push { cls := .type "dict", data := .dict #[] }) (t' := s.toks) (fun _ _ q => Heap.get?_push_of_some _ q) (Nat.le_refl _) (dk_empty s.heap I.big)
  refine wpAny_Dict_walk (knd := mixKind X.prog X.w) hall hl h0 h15 (thn (h pins _ σ _ _ I1 (q _ hn)) fun ws s2 ⟨ps, H2, I2, rel, e, kvs, ep, lk, q2⟩ => ?_)
  subst ep
  obtain ⟨rs, c, rk⟩ := carries_of (P := X.prog) (w := X.w) rel
  obtain ⟨z, hd, vs0, r0, dd⟩ := dk_of I2.hok e
  cases r0
  refine ⟨rs, c, dd, fun h' dd' hs => ⟨.ref s.heap.objs.size, _, ?_, rfl, q2⟩⟩
  have hz : (mergeK [] kvs).length ≤ sizeLine := by
    have h1 := length_mergeK kvs []
    rw [List.length_nil] at h1
    rw [sizeLine_eq]; omega
  have he : ∃ q, h'.get? s.heap.objs.size = some q := let ⟨q, _, _, hq, _⟩ := dd'; ⟨q, hq⟩
  exact d_write I2 (by rw [e]; exact True.intro) hs he (dk_new hz hd (rk.merge .nil) dd')


/-! ### methods -/
/-- a method call o.m(e) of a built-in, with one argument: what must be seen of the text -/
structure M1 (X : Cx) (o : Expr) (m : Str) (apos : Pos) (e : Expr) (cpos : Pos) : Prop where
  base : attributeBase o m X.env (eval o X.env) = eval o X.env
  few : ((backTo cpos (starEach [e] X.env)).all (fun x => !x.1) && (backToKw cpos (keywordEach [] X.env)).all (fun x => x.1.isSome)
    && decide (([e] : List Expr).length + ([] : List Keyword).length + (if ([] : List Keyword).isEmpty then 0 else 1) < 30)) = true
  line : (apos.endLine == cpos.line) = true
  trees : backTo cpos (starEach [e] X.env) = [(false, eval e X.env)]
structure M2 (X : Cx) (o : Expr) (m : Str) (apos : Pos) (e f : Expr) (cpos : Pos) : Prop where
  base : attributeBase o m X.env (eval o X.env) = eval o X.env
  few : ((backTo cpos (starEach [e, f] X.env)).all (fun x => !x.1) && (backToKw cpos (keywordEach [] X.env)).all (fun x => x.1.isSome)
    && decide (([e, f] : List Expr).length + ([] : List Keyword).length + (if ([] : List Keyword).isEmpty then 0 else 1) < 30)) = true
  line : (apos.endLine == cpos.line) = true
  trees : backTo cpos (starEach [e, f] X.env) = [(false, eval e X.env), (false, eval f X.env)]

section
variable {X : Cx} {pins : List (Addr × Obj)} {σ : St} {H : Hp} {s : Shared} {a : Addr} {y d : V} {u r : Value} {o : Option V} {A : Around} {E : Value → Shared → Prop}
end

section
variable {X : Cx} {o e f : Expr} {apos cpos : Pos} {td ty tx : TE}
end

/-! ### dict(d): a copy -/
section
variable {X : Cx} {pins : List (Addr × Obj)} {σ : St} {H : Hp} {s : Shared} {a : Addr} {kvs : List (Key × V)} {A : Around} {E : Value → Shared → Prop}
end


section
variable {X : Cx} {pins : List (Addr × Obj)} {σ : St} {H : Hp} {s : Shared} {a : Addr} {y : V} {u : Value} {A : Around} {E : Value → Shared → Prop}
end
end L2

namespace L2
open PySem PySem.Spec PyProof.Rows

section
variable {prog : Program} {w : World} {A : Around} {E : Value → Shared → Prop}
end

section
variable {X : Cx}
end
end L2

namespace L2
open PySem PySem.Spec PyProof.Rows

section
variable {X : Cx} {pins : List (Addr × Obj)} {σ : St} {H : Hp} {s : Shared} {h' : Heap}
/-- several records of ours have turned -/
theorem Inv.turnedL {t' : Nat} {ch : List Addr} (I : Inv X pins σ H s) (k : ∀ b o, b ∉ ch → s.heap.get? b = some o → h'.get? b = some o) (hf : ∀ b ∈ ch, FpOk X pins H b) : Inv X pins σ H { s with heap := h', toks := t' } := by
  have nit : ∀ b u, H b = some u → b ∉ ch := fun b u e z => by
    have q := (hf b z).1
    rw [q] at e; cases e
  refine I.step (g' := s.gens) (d' := s.drawn) (ch := ch) (fun b hb => ⟨(hf b hb).2.2.2.1, (hf b hb).2.1, (hf b hb).2.2.2.2.1, (hf b hb).2.2.2.2.2⟩) (fun b o _ _ hc e _ => k b o hc e) (fun b o _ _ hc e _ => ⟨o.slots, k b o hc e⟩)
    (fun _ _ _ _ n => n) (fun b o hc e => ⟨o, k b o hc e⟩) (fun _ _ e => e) (fun _ _ _ e => e) (fun b ps e => ⟨#[], by rw [e]; simp⟩) (fun m hm => ?_) (fun b u e => ?_) I.bare
  · obtain ⟨o, es, ep, ho, r⟩ := hm
    exact ⟨o, es, ep, k _ o (fun z => (hf _ z).2.1 rfl) ho, r⟩
  · refine (I.hok b u e).stay (fun c v hc q => k c v ?_ q) (fun _ q => q) fun _ _ q => q
    rcases hc with z | z
    · rw [z]; exact nit b u e
    · exact nit c _ z
/-- .. and one new object is laid -/
theorem Inv.turnedNew {t' : Nat} {ch : List Addr} {T : Addr} {ob : HO} (I : Inv X pins σ H s) (k : ∀ b o, b ∉ ch → s.heap.get? b = some o → h'.get? b = some o) (hf : ∀ b ∈ ch, FpOk X pins H b) (hT : s.heap.objs.size ≤ T)
    (new : ObjOk X.prog X.w (upd H T ob) h' T ob) : Inv X pins σ (upd H T ob) { s with heap := h', toks := t' } := by
  have hn : H T = none := I.hok.fresh hT
  have nit : ∀ b u, H b = some u → b ∉ ch := fun b u e z => by
    have q := (hf b z).1
    rw [q] at e; cases e
  refine I.step (g' := s.gens) (d' := s.drawn) (ch := ch) (fun b hb => ⟨(hf b hb).2.2.2.1, (hf b hb).2.1, (hf b hb).2.2.2.2.1, (hf b hb).2.2.2.2.2⟩) (fun b o _ _ hc e _ => k b o hc e) (fun b o _ _ hc e _ => ⟨o.slots, k b o hc e⟩)
    (fun b o _ e n => ?_) (fun b o hc e => ⟨o, k b o hc e⟩) (fun b xs e => ?_) (fun b o u e => ?_) (fun b ps e => ⟨#[], ?_⟩) (fun m hm => ?_) (fun b u e => ?_) I.bare
  · rw [upd_ne (Nat.ne_of_lt (Nat.lt_of_lt_of_le (Heap.lt_size e) hT))]; exact n
  · rw [upd_ne (ne_of_none e hn)]; exact e
  · rw [upd_ne (ne_of_none e hn)]; exact e
  · rw [upd_ne (ne_of_none e hn), e]; simp
  · obtain ⟨o, es, ep, ho, r⟩ := hm
    exact ⟨o, es, ep, k _ o (fun z => (hf _ z).2.1 rfl) ho, r⟩
  · by_cases hb : b = T
    · subst hb
      rw [upd_same] at e
      cases e
      exact new
    · rw [upd_ne hb] at e
      refine (I.hok b u e).stay (fun c v hc q => k c v ?_ q) (fun c q => by rw [upd_ne (ne_of_none q hn)]; exact q) fun c xs q => by rw [upd_ne (ne_of_none q hn)]; exact q
      rcases hc with z | z
      · rw [z]; exact nit b u e
      · exact nit c _ z

/-! ### locking a thing while a statement runs -/
end
section
variable {X : Cx}
/-! ### one iterator just laid -/
theorem pi_one {tg : Expr} {pins : List (Addr × Obj)} {σ : St} {H : Hp} {s : Shared} {R : It → Hp → Prop} {J : It} {tn : Nat → Heap → Prop} {tk : Nat} (I : Inv X pins σ H s) (o : Obj)
    (T : Turn X.prog X.w X.K tg J [s.heap.objs.size] s.heap.objs.size tn) (st : tn 0 (s.heap.push o)) (q : R J H) : PIE X pins σ tg R (.ref s.heap.objs.size) { s with heap := s.heap.push o, toks := tk } := by
  refine ⟨s.heap.objs.size, [s.heap.objs.size], tn, J, H, rfl, I.kept fun b ob e => Heap.get?_push_of_some _ e, T, st, fun b hb => ?_, q⟩
  have e : b = s.heap.objs.size := by simpa using hb
  subst e
  exact I.fpOk (Nat.le_refl _) (I.hok.fresh (Nat.le_refl _))
end

/-! ### range with a step -/
/-- range(i, j, c): small bounds, n items -/
def RgC (i j c : Int) (n : Nat) : Prop := c ≠ 0 ∧ c.natAbs < 1073741824 ∧ Builtin.Range.small i j c = true ∧ Builtin.Range.rangeSize i j c = n
theorem RgC.neg {i j : Int} (ha : -(2 ^ 62) ≤ i) (ha' : i < 2 ^ 62) (hb : -(2 ^ 62) ≤ j) (hb' : j < 2 ^ 62) : RgC i j (-1) (i - j).toNat :=
  ⟨by decide, by decide, PySem.W.small_down ha ha' hb hb', PySem.W.rangeSize_downNat i j⟩
section
variable {X : Cx} {tg : Expr}
end
/-! ### reversed(list) -/
section
variable {X : Cx} {tg : Expr}
end

/-! ### a str -/
def Its (x : Str) : It := ⟨fun i _ => i < x.cps.size, fun i H v H' => H' = H ∧ ∃ c, x.cps[i]? = some c ∧ v = .str ⟨#[c]⟩, fun i _ => x.cps.size ≤ i⟩
theorem turn_str {P : Program} {w : World} {K : PySem.W.Frag} {tg : Expr} (it : Addr) (x : Str) (t : Tok) (ty : String) (hty : ty = "str_ascii_iterator" ∨ ty = "str_iterator") :
    Turn P w K tg (Its x) [it] it (fun i h => h.IsStrIter it ty x t i) where
  mem := by simp
  obj := fun i h st b hb => by
    have e : b = it := by simpa using hb
    subst e
    obtain ⟨o, e, c, d⟩ := st
    exact ⟨o, e, fun v z => by rw [d] at z; cases z⟩
  keep := fun i h h' st k => let ⟨o, ho, r⟩ := st; ⟨o, k it (by simp) o ho, r⟩
  item := by
    intro X hP hw hK hc i pins s σ H E I hf st hg
    subst hP hw hK
    obtain ⟨f0, f1, f2, f3, f4, f5⟩ := hf it (by simp)
    have W : Walks X.prog X.w X.A it [it] [it] x.cps.size (SignAt x) (fun i h => h.IsStrIter it ty x t i) := by
      rcases hty with e | e
      · rw [e]; exact Walks.strAscii (I.ok.hd hc) it x t
      · rw [e]; exact Walks.strWide (I.ok.hd hc) it x t
    have hno : ["enumerate", "zip", "dict_itemiterator", "dict_reverseitemiterator", "odict_iterator", "itertools.zip_longest", "itertools.pairwise"].contains ty = false := by
      rcases hty with e | e
      · rw [e]; decide
      · rw [e]; decide
    refine W.item i s _ _ hg st fun v h' tk hv st' kk => ?_
    obtain ⟨c, u, hcx, rfl⟩ := hv
    have I1 : Inv X pins σ H { s with heap := h', toks := tk } := I.turned (fun b o hb e => kk b o (by simpa using hb) e) f0 f1 f3 f4 f5
    obtain ⟨oi, e, cc, dd⟩ := id st'
    exact ⟨_, rfl, go_of (s := { s with heap := h', toks := tk }) e cc dd hno ⟨.str ⟨#[c]⟩, H, I1, ⟨u, rfl⟩, ⟨rfl, c, hcx, rfl⟩, st', fun b hb => (hf b hb).1⟩⟩
  done := by
    intro X hP hw hK hc i pins s σ H E I hf st hg
    subst hP hw hK
    obtain ⟨f0, f1, f2, f3, f4, f5⟩ := hf it (by simp)
    have hx : x.cps[i]? = none := Array.getElem?_eq_none hg
    rcases hty with e | e
    · rw [e] at st
      exact wpAny_pyNext_ascii_end (I.ok.hd hc) st hx fun h' eb => ⟨rfl, I.turned (t' := s.toks) (fun b o hb e => eb b o hb e) f0 f1 f3 f4 f5⟩
    · rw [e] at st
      exact wpAny_pyNext_wide_end (I.ok.hd hc) st hx fun h' eb => ⟨rfl, I.turned (t' := s.toks) (fun b o hb e => eb b o hb e) f0 f1 f3 f4 f5⟩
  self := fun A i s Q E st h => by
    rcases hty with e | e
    · rw [e] at st; exact wpAny_pyIter_striter_ascii st h
    · rw [e] at st; exact wpAny_pyIter_striter_wide st h
/-! ### a dict's keys: any dict's entries -/
section
variable {prog : Program} {w : World} {A : Around} {E : Value → Shared → Prop} {s : Shared}
end

/-! ### a locked dict -/
section
variable {X : Cx} {pins : List (Addr × Obj)} {σ : St} {H : Hp} {s : Shared} {d : Addr} {o : Obj}
end

section
variable {P : Program} {w : World} {K : PySem.W.Frag} {tg : Expr} {d : Addr} {o : Obj} {es : Array DictEntry} {ep : Nat}
end

/-! ### for k in d, d.keys(), d.values(), d.items() -/
section
variable {X : Cx} {tg e : Expr} {td : TE} {apos cpos : Pos}
end

/-! ### enumerate(list) -/
/-! ### zip(list, list) -/
theorem boot_zip5 : bootBuiltins "zip" = some (.type "zip") := by decide +kernel
end L2

section 
namespace Bits
open PySem PyProof.Rows

end Bits
end 

section 
namespace TL
open PySem PySem.Builtin PySem.Builtin.Str PySem.StrLaws

abbrev tl (x : Str) : List Nat := x.cps.toList
theorem ext_tl {x y : Str} (h : tl x = tl y) : x = y := Str.ext' (Array.toList_inj.mp h)
theorem tl_append (x y : Str) : tl (x ++ y) = tl x ++ tl y := by
  show (x ++ y).cps.toList = _
  rw [Str.cps_append, Array.toList_append]
theorem map_tl_inj : ∀ {l m : List Str}, l.map tl = m.map tl → l = m
  | [], [], _ => rfl
  | [], _ :: _, h => by simp at h
  | _ :: _, [], h => by simp at h
  | x :: l, y :: m, h => by
    rw [List.map_cons, List.map_cons] at h
    injection h with h1 h2
    rw [ext_tl h1, map_tl_inj h2]
/-! ### the list functions -/
/-- S stands at the head of l -/
def pre (S l : List Nat) : Bool := l.take S.length == S
/-- what stands before the first S, and behind it -/
def par (S : List Nat) : List Nat → List Nat → Option (List Nat × List Nat)
  | _, [] => none
  | acc, c :: r => if pre S (c :: r) = true then some (acc, (c :: r).drop S.length) else par S (acc ++ [c]) r

/-! ### the model's split and partition are these -/
/-! ### computing spl and par -/
/-- joined lists -/
def joinL (S : List Nat) : List (List Nat) → List Nat
  | [] => []
  | [p] => p
  | p :: q :: r => p ++ (S ++ joinL S (q :: r))
theorem tl_join (y : Str) : ∀ parts : List Str, tl (Str.join y parts) = joinL (tl y) (parts.map tl)
  | [] => rfl
  | [_] => rfl
  | x :: z :: r => by
    show tl (x ++ y ++ Str.join y (z :: r)) = tl x ++ (tl y ++ joinL (tl y) ((z :: r).map tl))
    rw [tl_append, tl_append, tl_join y (z :: r), List.append_assoc]
theorem join_eq (y : Str) (parts : List Str) : Txt.join y parts = Str.join y parts := glued_eq_join y parts
/-! ### digits -/
/-! ### words: x.split() -/
end TL
end 

namespace L2
open PySem PySem.Spec PyProof.Rows

theorem strs_of_vals : ∀ {ys : List Str} {us : List Value}, Vals (ys.map V.str) us → StrsAre us ys
  | [], _, .nil => .nil
  | y :: ys, _, .cons r t => by
    obtain ⟨k, rfl⟩ := r
    exact .cons y k (strs_of_vals t)

section
variable {X : Cx} {pins : List (Addr × Obj)} {σ : St} {H : Hp} {s : Shared} {Q : VK}
end

section
variable {X : Cx}

/-- sep.join(a list | a tuple of texts) -/
theorem mt_join : MtR X "str.join" (fun x xs H Q => ∃ a p, ∃ ys : List Str, x = .str a ∧ xs = [.ref p] ∧ (SqL X.K H p (ys.map V.str) ∨ SqT X.K H p (ys.map V.str)) ∧
    (ys.map (·.length)).sum + ys.length * a.length ≤ 16777216 ∧ Q (.str (Txt.join a ys)) H) := by
  intro pins s σ H x xs v us Q I rx rs h
  obtain ⟨a, p, ys, rfl, rfl, hp, hz, h⟩ := h
  obtain ⟨t, rfl⟩ := rx
  cases rs with
  | cons r1 rs =>
    cases rs
    cases r1
    rcases hp with hp | hp
    · obtain ⟨its, r, ⟨o, n, ho, hc, _, hd⟩, _⟩ := I.list hp
      exact PyProof.Rows.join_list (items := its.toArray) ⟨o, ho, hc, n, hd⟩ (by rw [List.toList_toArray]; exact strs_of_vals r) hz fun t' k => ⟨.str _, H, I.tok k, ⟨t', rfl⟩, h⟩
    · obtain ⟨its, r, ht, _⟩ := I.tuple hp
      exact PyProof.Rows.join_tuple (items := its.toArray) ht (by rw [List.toList_toArray]; exact strs_of_vals r) hz fun t' k => ⟨.str _, H, I.tok k, ⟨t', rfl⟩, h⟩

/-! ### of a text alone -/
/-! ### of a text and a text -/
end

section
variable {X : Cx} {o e : Expr} {to te : TE}
def tM1 (r : V → List V → Hp → VK → Prop) (to te : TE) : TE := fun σ H Q => to σ H fun x H1 => (∃ a, x = .str a) ∧ te σ H1 fun y H2 => r x [y] H2 Q
theorem pe_m1 {id : String} {name : Str} {apos pos : Pos} {r : V → List V → Hp → VK → Prop} (slot : Slot "str" name id) (ty : typeOf (.builtin id) = pure (.type "method_descriptor")) (rule : MtR X id r) (ho : PE X o to) (he : PE X e te)
    (hs : starEach [e] X.env = [(false, eval e X.env)] := by rfl) (hbase : attributeBase o name X.env (eval o X.env) = eval o X.env := by rfl) (hline : (apos.endLine == pos.line) = true := by rfl) :
    PE X (.Call (.Attribute o name apos) [e] [] pos) (tM1 r to te) := by
  intro pins s σ H Q I h
  refine PySem.Call_method1 hbase hs hline (thn (ho pins s σ H _ I h) fun v s1 ⟨x, H1, I1, r1, q1⟩ => ?_)
  obtain ⟨⟨a, rfl⟩, q1⟩ := q1
  obtain ⟨t, rfl⟩ := _root_.id r1
  refine ⟨"str", _, F.plainAttrs_str, slot, ty, typeIs_str _ _ _, (fun _ e => nomatch e), Calls.callWith_builtin rfl (Calls.evalArgs_plain (Calls.spliced_cons ?_))⟩
  exact thn (he pins s1 σ H1 _ I1 q1) fun u s2 ⟨y, H2, I2, r2, q2⟩ => Calls.spliced_nil (rule pins s2 σ H2 _ [y] _ [u] Q I2 r1 (.cons r2 .nil) q2)

theorem pe_join {apos pos : Pos} (ho : PE X o to) (he : PE X e te) (hs : starEach [e] X.env = [(false, eval e X.env)] := by rfl) (hbase : attributeBase o "join" X.env (eval o X.env) = eval o X.env := by rfl) (hline : (apos.endLine == pos.line) = true := by rfl) :
    PE X (.Call (.Attribute o "join" apos) [e] [] pos) (tM1 (fun x xs H Q => ∃ a p, ∃ ys : List Str, x = .str a ∧ xs = [.ref p] ∧ (SqL X.K H p (ys.map V.str) ∨ SqT X.K H p (ys.map V.str)) ∧
      (ys.map (·.length)).sum + ys.length * a.length ≤ 16777216 ∧ Q (.str (Txt.join a ys)) H) to te) :=
  pe_m1 F.slot_str_join F.type_str_join mt_join ho he hs hbase hline
end
end L2

namespace L2
open PySem PySem.Spec PyProof.Rows

section
variable {X : Cx}
theorem op_gt_str : OpR X (compareOp .Gt) (fun x y H Q => ∃ i j, x = .str i ∧ y = .str j ∧ Q (.bl (decide (j.cps.toList < i.cps.toList))) H) := by
  intro pins s σ H x y v u Q I rx ry h
  obtain ⟨i, j, rfl, rfl, q⟩ := h
  obtain ⟨t, rfl⟩ := rx
  obtain ⟨t', rfl⟩ := ry
  exact PySem.P.gt_str (fin_bl I q rfl)
theorem op_ge_str : OpR X (compareOp .GtE) (fun x y H Q => ∃ i j, x = .str i ∧ y = .str j ∧ Q (.bl (!decide (i.cps.toList < j.cps.toList))) H) := by
  intro pins s σ H x y v u Q I rx ry h
  obtain ⟨i, j, rfl, rfl, q⟩ := h
  obtain ⟨t, rfl⟩ := rx
  obtain ⟨t', rfl⟩ := ry
  exact PySem.P.ge_str (fin_bl I q rfl)
end

/-! ### slices of a text -/
theorem IsPart.raw {v : Value} {o : Option Int} (p : IsPart v o) : ∃ l : Option (Int × Tok), v = partValue l ∧ l.map (·.1) = o := by
  cases p with
  | none => exact ⟨none, rfl, rfl⟩
  | int i t => exact ⟨some (i, t), rfl, rfl⟩

/-- a part, clipped, as the text's slice reckons it -/
def clipS (n d : Nat) : Option Int → Int
  | none => (d : Int)
  | some i => max 0 (min (if i < 0 then i + (n : Int) else i) (n : Int))
theorem clipS_eq (n d : Nat) (o : Option Int) : clipS n d o = ((HT.sIx n d o : Nat) : Int) := by
  cases o with
  | none => rfl
  | some v =>
    show max (0 : Int) (min (if v < 0 then v + (n : Int) else v) (n : Int)) = (((if v < 0 then (v + (n : Int)).toNat else min v.toNat n) : Nat) : Int)
    by_cases hv : v < 0
    · simp only [if_pos hv]
      omega
    · simp only [if_neg hv]
      omega
theorem sidx_clip (a b : Option Int) (n : Nat) : Builtin.Str.strSliceIndices a b 1 n = sliceRange (clipS n 0 a) (clipS n n b) 1 := by
  have h1 : ((1 : Int) > 0) = True := by simp
  cases a <;> cases b <;> first
    | rfl
    | (simp only [Builtin.Str.strSliceIndices, clipS, h1, if_true]; rfl)
    | simp [Builtin.Str.strSliceIndices, clipS]
theorem sidx (a b : Option Int) (n : Nat) : Builtin.Str.strSliceIndices a b 1 n = (List.range (HT.sIx n n b - HT.sIx n 0 a)).map (fun k => HT.sIx n 0 a + k) := by
  rw [sidx_clip, clipS_eq, clipS_eq]
  generalize HT.sIx n 0 a = p
  generalize HT.sIx n n b = q
  simp only [sliceRange, show ((1 : Int) > 0) = True from by simp, if_true]
  by_cases hlt : (p : Int) < q
  · have e3 : (((q : Int) - p + 1 - 1) / 1).toNat = q - p := by first | omega | (simp; done) | (simp; omega)
    simp only [hlt, if_true, e3]
    refine List.map_congr_left fun k _ => ?_
    omega
  · have : q - p = 0 := by omega
    simp [hlt, this]

/-- z[lo:hi] -/
def cutS (z : Str) (lo hi : Option Int) : Str :=
  ⟨((z.cps.toList.drop (HT.sIx z.length 0 lo)).take (HT.sIx z.length z.length hi - HT.sIx z.length 0 lo)).toArray⟩
theorem sliceText_cut (z : Str) (lo hi : Option Int) : PySem.StrLaws.sliceText z lo hi = cutS z lo hi := by
  have h1 : HT.sIx z.length 0 lo ≤ z.length := HT.sIx_le _ _ (Nat.zero_le _) _
  have h2 : HT.sIx z.length z.length hi ≤ z.length := HT.sIx_le _ _ (Nat.le_refl _) _
  have hp : HT.sIx z.length 0 lo ≤ max (HT.sIx z.length 0 lo) (HT.sIx z.length z.length hi) := Nat.le_max_left _ _
  have hq : max (HT.sIx z.length 0 lo) (HT.sIx z.length z.length hi) ≤ z.length := Nat.max_le.mpr ⟨h1, h2⟩
  have hd : max (HT.sIx z.length 0 lo) (HT.sIx z.length z.length hi) - HT.sIx z.length 0 lo = HT.sIx z.length z.length hi - HT.sIx z.length 0 lo := by omega
  have e : Builtin.Str.strSliceIndices lo hi 1 z.length =
      Builtin.Str.strSliceIndices (some ((HT.sIx z.length 0 lo : Nat) : Int)) (some ((max (HT.sIx z.length 0 lo) (HT.sIx z.length z.length hi) : Nat) : Int)) 1 z.length := by
    rw [PySem.StrLaws.strSliceIndices_plain hp hq, hd, sidx]
  have e2 : PySem.StrLaws.sliceText z lo hi =
      PySem.StrLaws.sliceText z (some ((HT.sIx z.length 0 lo : Nat) : Int)) (some ((max (HT.sIx z.length 0 lo) (HT.sIx z.length z.length hi) : Nat) : Int)) := by
    unfold PySem.StrLaws.sliceText
    rw [e]
  rw [e2, PySem.StrLaws.sliceText_nat z hp hq, hd]
  rfl
theorem cutS_length (z : Str) (lo hi : Option Int) : (cutS z lo hi).length ≤ z.length := by
  show (((z.cps.toList.drop (HT.sIx z.length 0 lo)).take (HT.sIx z.length z.length hi - HT.sIx z.length 0 lo)).toArray).size ≤ z.cps.size
  rw [List.size_toArray, List.length_take, List.length_drop, Array.length_toList]
  omega
def rSlS : V → Option Int → Option Int → Hp → VK → Prop := fun x lo hi H Q => ∃ z, x = .str z ∧ z.length ≤ sizeLine ∧ Q (.str (cutS z lo hi)) H
theorem sl_str {X : Cx} : SlR X rSlS := by
  intro pins s σ H x v vl vu lo hi sl Q I rx hs pl pu h
  obtain ⟨z, rfl, hz, q⟩ := h
  obtain ⟨t, rfl⟩ := rx
  obtain ⟨os, hos, hcs, hds⟩ := hs
  obtain ⟨l, rfl, rfl⟩ := IsPart.raw pl
  obtain ⟨u, rfl, rfl⟩ := IsPart.raw pu
  refine ⟨"str", _, F.slot_str_getitem.lookup, typeIs_str _ _ _, ?_⟩
  refine wpAny_getItem_str_slice (l := l) (u := u) (st := none) ⟨os, hos, hcs, hds⟩ rfl ?_
  have hl : (PySem.StrLaws.sliceText z (l.map (·.1)) (u.map (·.1))).length ≤ sizeLine := by
    rw [sliceText_cut]
    exact Nat.le_trans (cutS_length z _ _) hz
  rw [← sliceText_cut] at q
  unfold PySem.StrLaws.sliceText at q hl
  show Made.post (if ((1 : Int) == 1 && (Builtin.Str.strSliceIndices (l.map (·.1)) (u.map (·.1)) 1 z.length).length == z.length) = true then Made.val (.str z t)
    else Made.str ⟨((Builtin.Str.strSliceIndices (l.map (·.1)) (u.map (·.1)) 1 z.length).filterMap (z.cps[·]?)).toArray⟩) (EP X pins σ Q) s
  by_cases c : ((1 : Int) == 1 && (Builtin.Str.strSliceIndices (l.map (·.1)) (u.map (·.1)) 1 z.length).length == z.length) = true
  · rw [if_pos c] at q ⊢
    exact ⟨.str z, H, I, ⟨t, rfl⟩, q⟩
  · rw [if_neg c] at q hl ⊢
    exact ⟨hl, .str _, H, I.tok _, ⟨_, rfl⟩, q⟩
end L2

namespace Att
open PySem PySem.W PySem.Calls PyProof.Rows

/-! ### the script -/
theorem ints_of_wellAll {P : Params} {h : Heap} : ∀ (ns : List Int) (vs : List Value), WellAll P h vs (ns.map WData.int) → IntsAre vs ns := by
  intro ns
  induction ns with
  | nil =>
    intro vs w
    rw [List.map_nil] at w
    cases w
    exact .nil
  | cons n ns ih =>
    intro vs w
    rw [List.map_cons] at w
    cases w with
    | cons a b =>
      cases a
      exact .cons _ _ (ih _ b)

theorem script_of {l : OpenLaw} {n : Nat} (hn : l.most = some n) {P : Params} {h : Heap} {args : List WData} {vals : List Value}
    (hpre : l.row.toRowW.claim.pre args = true) (hwl : WellAll P h vals args) :
    ∃ a vs ns, vals = [Value.ref a] ∧ args = [WData.list (ns.map WData.int)] ∧ h.get? a = some { cls := .type "list", data := .seq vs.toArray } ∧ IntsAre vs ns ∧ ns.length ≤ n := by
  have hsh : WShape.hasAll [] args [.list .int] = true := (pre_splitW hpre).1
  have hc : l.pre.holds [] { args := args } = true := (pre_splitW hpre).2
  obtain ⟨d, r, rfl, h1, h2⟩ := hasAllW_cons hsh
  obtain rfl := hasAllW_nil h2
  obtain ⟨xs, rfl, h3⟩ := hasW_list h1
  obtain ⟨ns, rfl⟩ := items_int h3
  have hlen : ns.length ≤ n := by
    unfold OpenLaw.pre at hc
    have h4 : (WTm.not (.lt (.lit (.int (n : Int))) (.len (.arg 0)))).holds [] { args := [.list (ns.map .int)] } = true := by
      have h4 := (holds_andW hc).1
      rw [hn] at h4
      exact h4
    have h5 := condW_of h4 (w_not (w_lt w_lit (w_len_list (w_arg rfl))))
    rw [List.length_map] at h5
    refine Nat.le_of_not_lt fun q => ?_
    have q' : (n : Int) < ((ns.length : Nat) : Int) := by omega
    first
      | (rw [decide_eq_true q'] at h5; exact absurd h5 (by decide))
      | (simp at h5; omega)
  cases hwl with
  | cons w1 w2 =>
    cases w2
    cases w1 with
    | list ho hall => exact ⟨_, _, ns, rfl, rfl, ho, ints_of_wellAll ns _ hall, hlen⟩

theorem post_true (l : OpenLaw) (args : List WData) : l.row.toRowW.claim.post args (.bool true) args = true :=
  postW_of (r := l.row.toRowW) (X := (true == true))
    (show WShape.has [] (.bool true) .bool = true by first | rfl | decide | simp [WShape.has, WShape.arms, WShape.armsAll])
    (show (WTm.eq .res (.lit (.bool true))).value [] { args := args, res := some (.bool true), after := args } = some (.bool (true == true)) from w_eq_bool (w_res rfl) w_lit) rfl

/-! ### the attachment: holds_open's last premise (the goal 'hc' behind k_head) from a wpAny of the law's body -/
/-- the same from a codeAny of the CALL (for a layer whose function contracts speak of calls) -/
theorem attach_call {l : OpenLaw} {n : Nat} {q : Program} {loose : List Str} {XP : (Str → Option Value) → Heap → Prop} {YP : World → Heap → Prop} {d : DefRec}
    (hn : l.most = some n) (hdf : d.params.defaults = [])
    (call : ∀ (w : World) (s₀ s₁ : Shared) (mg mb : Str → Option Value) (fa : Addr) (o : Obj) (pm cd doc : Value) (a : Addr) (vs : List Value) (ns : List Int),
      Ground q loose [] XP w s₀ mg mb s₁.heap → YP w s₁.heap →
      s₁.heap.get? fa = some o → o.data = .func (docDef d.name d.params d.body d.scope pm cd doc) → s₁.heap.CodeRec cd d.name → mg d.name = some (.ref fa) →
      s₁.heap.get? a = some { cls := .type "list", data := .seq vs.toArray } → IntsAre vs ns → ns.length ≤ n → s₁.gens = #[] →
      codeAny (model l.prog w) callerA (.call (.ref fa) ⟨[.ref a], []⟩) (fun r s' => r = .ok (.ret (.bool true)) ∧ OldK s₁.heap s'.heap ∧ s'.os = s₁.os ∧ AllBare s'.gens) s₁) :
    WalkO q loose XP YP l.row.toRowW d [] (fun f vs => PySem.call f vs) := by
  intro w s₀ s₁ mg mb G Y fa o pm cd doc dV kV ho hd hcd hD hmg hg args vals as hpre hlay hrd hwl hlo
  obtain rfl : dV = .none := Dflts.none hD hdf
  obtain rfl : kV = .none := Dflts.noKw hD
  obtain ⟨a, vs, ns, rfl, rfl, hobj, hints, hlen⟩ := script_of hn hpre hwl
  refine enter_call (codeAny_mono (call w s₀ s₁ mg mb fa o pm cd doc a vs ns G Y ho (fd_plain hd) hcd hmg hobj hints hlen hg) fun r s' hq => ?_)
  obtain ⟨rfl, h2, h3, h4⟩ := hq
  exact ⟨.inl ⟨.bool true, .bool true, [], rfl, fun _ => rfl, .bool true, post_true l _, fun _ => ⟨List.Pairwise.nil, fun _ hm => (nomatch hm)⟩⟩, h2, h3, h4⟩

/-! ### rules over ANY heap (no ledger) from facts about the written part K: the library's own take a ledger (News) for what they write -/
section
variable {prog : Program} {w : World} {A : Around} {E : Value → Shared → Prop} {s : Shared} {K : Frag}

/-! the whole heap as the ledger: makes every rule that writes through a ledger a rule over any heap -/
end
end Att

namespace L2
open PySem PySem.Spec PyProof.Rows

theorem vals_ints : ∀ {vs : List Value} {ns : List Int}, IntsAre vs ns → Vals (ns.map V.int) vs
  | _, _, .nil => .nil
  | _, _, .cons n t h => .cons ⟨t, rfl⟩ (vals_ints h)

end L2

namespace L2
open PySem PySem.Spec PyProof.Rows

end L2

/- THE LAST THEOREM (shape; LID, My.* are yours):
   My.Adr: a structure of the addresses that your layer names (classes, functions); My.Txt K t: a structure (Prop) of the equations over K;
   My.txt_mk : {K} {implicit addresses ..} (e1 : nsIn K mainGlobals "law" = some (some (.ref f))) (e2 : K.lookup f = some ⟨oc, od, .func (fnOf "law" "law" params body scope dV kV doc pm an cdv ct), sl⟩) (e3 : codeIn K cdv "law" = true) .. : ∃ t, My.Txt K t

set_option maxRecDepth 100000 in
set_option maxHeartbeats 0 in
theorem PySem.Challenge.cw_LID_holds : PySem.Challenge.rw_LID.Holds := by
  w_on; o_law; k_head; (case hw => w_witness2)
  k_fill
  refine L2.walk_of (l := PySem.Challenge.rw_LID) (n := 63) (k := 40) (x := "script") (CX := fun w => ..) (sp := fun _ => My.sp_law) rfl (by decide) rfl ⟨rfl, by decide, by decide⟩ (fun w h Y => PySem.W.kIn_of Y) ?F ?S ?C
  case F =>
    intro w mg fa h KX G hmg
    have T : ∃ t, My.Txt (L2.KOf KX) t := by
      dsimp only [L2.KOf]                          -- K must stand as «<heap const> w.params» for k_is
      refine' My.txt_mk ?e1 ?e2 ?e3 ..
      (case e1 => PySem.W.k_is)                    -- in the order: a name -> its address -> its object -> its parts
      (case e2 => PySem.W.k_is)
      ..
    obtain ⟨t, T⟩ := T
    have e0 := hmg.symm.trans (PySem.W.mg_of KX G T.law)
    cases e0                                       -- fa is the law's own address
    exact ⟨_, fun s u => .of_eq rfl, fun base kb nb => My.law_fn T kb nb⟩     -- if «.of_eq rfl» comes too early: refine' ⟨_, ?b, fun base kb nb => My.law_fn T kb nb⟩; exact fun s u => .of_eq rfl
  case S => exact fun w H a ns hl hO hS => ..
  case C => exact ..
(the tactic k_is has no namespace: write k_is) -/

/-! SHORT WORDS over the layer: a def of the text, its body, what a loop and a test want. -/
namespace L2
open PySem PySem.Spec PyProof.Rows

/-! ### the text by places -/
def defArgs (s : Stmt) : Arguments := match s with
  | .FunctionDef _ a _ _ _ _ _ _ _ _ => a
  | _ => { posonlyargs := [], args := [], vararg := none, kwonlyargs := [], kw_defaults := [], kwarg := none, defaults := [] }
def defBody (s : Stmt) : List Stmt := match s with
  | .FunctionDef _ _ b _ _ _ _ _ _ _ => b
  | _ => []
def defScope (s : Stmt) : Scope := match s with
  | .FunctionDef _ _ _ _ _ _ sc _ _ _ => sc
  | _ => { kind := .function, names := [], isGenerator := false, isCoroutine := false }

/-! ### no exception leaves a def -/
abbrev CX0 : CXT := fun _ _ _ _ _ _ => False
abbrev E0 : XK := fun _ _ _ => False
theorem pass0 {X : Cx} : Passes CX0 X E0 := fun _ _ _ _ _ _ _ h => h.elim

/-! ### a def (or method) of the text as it stands behind the top -/
structure Fun (K : PySem.W.Frag) (x qual : Str) (st : Stmt) (f : Addr) (fd : FuncData) : Prop where
  ex : ∃ (oc : Value) (od : Option Addr) (kV doc pm : Value) (an : Option Addr) (cdv ct : Value) (osl : Array (Option Value)),
    fd = PySem.W.fnOf x qual (defArgs st) (defBody st) (defScope st) .none kV doc pm an cdv ct ∧ K.lookup f = some ⟨oc, od, .func fd, osl⟩ ∧ PySem.W.codeIn K cdv qual = true
  kp : PySem.W.keepIn K (.ref f) = true
section
variable {P : Program} {w : World} {K : PySem.W.Frag} {mg : Str → Option Value} {base : Heap}
/-- THE RULE for a def: its body as a term of rules, and the reading of that term -/
theorem Fun.ok {x qual : Str} {st : Stmt} {f : Addr} {fd : FuncData} {N ps : List Str} {k : Nat} {sp : Sp} (F : Fun K x qual st f fd) (S : FnScope N ps (defScope st)) (len : ∀ vs H Q E, sp vs H Q E → vs.length = ps.length)
    (hbody : ∀ (cdv : Value) (A : Around) (outer : List Env) (s : Shared) (H : Hp) (vs : List V) (Q : VK) (E : XK), Room k (A.deeper (envOfC qual (defScope st) s.heap.objs.size f cdv)) → sp vs H Q E →
      ∃ t, PSs (cxOf CX0 P w K mg base N qual (defScope st) f cdv A outer s H E).nox (defBody st) t ∧ t { nx := fun _ H' => Q .non H', rt := Q } (start N vs) H) : FnOk P w K mg base CX0 (k + 1) f fd ps sp := by
  obtain ⟨oc, od, kV, doc, pm, an, cdv, ct, osl, rfl, lk, hcd⟩ := F.ex
  refine fn_of lk hcd S len fun A outer s H vs Q E hr hsp => ?_
  obtain ⟨t, h, q⟩ := hbody cdv A outer s H vs Q E hr hsp
  exact ⟨t, h.nox, q⟩
/-- how its arguments bind (no defaults): h is «fun _ _ _ _ _ _ us hl => match us, hl with | [_, _], _ => rfl», one _ a parameter -/
theorem Fun.binds {x qual : Str} {st : Stmt} {f : Addr} {fd : FuncData} {ps : List Str} (F : Fun K x qual st f fd)
    (h : ∀ (kV doc pm : Value) (an : Option Addr) (cdv ct : Value) (us : List Value), us.length = ps.length → bindArgs (PySem.W.fnOf x qual (defArgs st) (defBody st) (defScope st) .none kV doc pm an cdv ct) ⟨us, []⟩ = pure (ps.zip us)) : Binds K fd ps [] := by
  obtain ⟨oc, od, kV, doc, pm, an, cdv, ct, osl, rfl, lk, hcd⟩ := F.ex
  exact .all (h kV doc pm an cdv ct)
theorem fun_mk {x qual : Str} {st : Stmt} {f : Addr} {oc : Value} {od an : Option Addr} {osl : Array (Option Value)} {kV doc pm cdv ct : Value} (l : K.lookup f = some ⟨oc, od, .func (PySem.W.fnOf x qual (defArgs st) (defBody st) (defScope st) .none kV doc pm an cdv ct), osl⟩)
    (c : PySem.W.codeIn K cdv qual = true) (k : PySem.W.keepIn K (.ref f) = true) : Fun K x qual st f (PySem.W.fnOf x qual (defArgs st) (defBody st) (defScope st) .none kV doc pm an cdv ct) := ⟨⟨oc, od, kV, doc, pm, an, cdv, ct, osl, rfl, l, c⟩, k⟩
end
theorem hu_of {A : Around} {k : Nat} (hr : Room k A) : A.units + 1 < cLine := Nat.lt_of_le_of_lt (Nat.add_le_add_left (by decide : 1 ≤ 64) _) hr.units
/-! ### expressions in short: the name that stands in the i-th slot -/
section
variable {X : Cx}
/-- len of a dict -/
theorem call_lenD : CallR X (.builtin "len") (fun xs H Q => ∃ a kvs, xs = [V.ref a] ∧ H a = some (.dK kvs) ∧ Q (.int kvs.length) H) := by
  intro pins s σ H xs us Q I r h
  obtain ⟨a, kvs, rfl, ha, q⟩ := h
  obtain ⟨u, rfl, ru⟩ := vals1 r
  cases ru
  exact d_len I (.inl ha) fun t s' I' => ⟨.int kvs.length, H, I', ⟨t, rfl⟩, q⟩
end

/-! ### tests -/
/-! ### heaps -/
/-- all that was tracked is as it was -/
def Same (H H' : Hp) : Prop := ∀ b o, H b = some o → H' b = some o
theorem Same.refl (H : Hp) : Same H H := fun _ _ h => h
theorem Same.trans {H H1 H2 : Hp} (a : Same H H1) (b : Same H1 H2) : Same H H2 := fun c o h => b c o (a c o h)
theorem Same.free {H H' : Hp} (e : Same H H') {l : Addr} (h : H' l = Option.none) : H l = Option.none := by
  cases q : H l with
  | none => rfl
  | some o =>
    rw [e l o q] at h
    cases h
theorem Same.seq {K : PySem.W.Frag} {H H' : Hp} {a : Addr} {xs : List V} (e : Same H H') (h : SqL K H a xs) : SqL K H' a xs := by
  rcases h with (h | ⟨o, h⟩) | h
  · exact .inl (.inl (e _ _ h))
  · exact .inl (.inr ⟨o, e _ _ h⟩)
  · exact .inr h

/-! ### a dict's pairs: keys that differ -/
section
variable {κ : Type} [DecidableEq κ]
end
/-! ### lists -/
end L2

set_option Elab.async false
set_option linter.all false
set_option maxRecDepth 100000
set_option maxHeartbeats 4000000
/-! A mirror over the hand layer: tuples are plain data, lists and dicts stand in a memory by their number. -/
namespace L2
open PySem PySem.Spec
/-- the table of a code object: it may only grow -/
def TabO (P : Addr) (ps : Array Value) : HO := .ext fun h => ∃ more : Array Value, h.get? P = some { cls := .none, data := .fields (ps ++ more) } ∧ TriplesOk (ps ++ more).toList
/-- the tables that the written part tells of, in its last entry -/
def tabsOf (K : PySem.W.Frag) : List Addr := match K.getLast? with
  | some (_, ⟨.none, none, .fields vs, _⟩) => vs.toList.filterMap fun v => match v with
    | .ref a => some a
    | _ => none
  | _ => []
end L2
namespace Mir
open PySem PySem.Spec L2

inductive D where
  | non | bl (b : Bool) | int (i : Int) | str (x : Str) | tup (xs : List D) | obj (i : Nat) | rol (xs : List D) | ty (n : String)
/-- what stands in the memory -/
inductive MO where
  | lst (xs : List D)
  | dic (kvs : List (Key × D))
  | dro (kvs : List (Key × D))
  | dct (kvs : List (List Key × D))
  | dto (kvs : List (List Key × D))
abbrev Mem := List MO
abbrev DSt := List (Option D)

/-- a list that nobody changes: the script -/
def SqF (K : PySem.W.Frag) (H : Hp) (a : Addr) (xs : List V) : Prop := (∃ o, H a = some (.frz o (.lst xs))) ∨
  ∃ (o : Obj) (its : Array Value) (n : Nat), K.lookup a = some o ∧ o.cls = .type "list" ∧ o.dict = none ∧ o.data = .seq its n ∧ its.size ≤ sizeLine ∧ Vals xs its.toList
theorem SqF.sq {K : PySem.W.Frag} {H : Hp} {a : Addr} {xs : List V} (h : SqF K H a xs) : SqL K H a xs := by
  rcases h with ⟨o, h⟩ | h
  · exact .inl (.inr ⟨o, h⟩)
  · exact .inr h
mutual
inductive RelD (K : PySem.W.Frag) (ι : List Addr) (H : Hp) : D → V → Prop
  | non : RelD K ι H .non .non
  | bl (b : Bool) : RelD K ι H (.bl b) (.bl b)
  | int (i : Int) : RelD K ι H (.int i) (.int i)
  | str (x : Str) : RelD K ι H (.str x) (.str x)
  | tup {a : Addr} {xs : List D} {vs : List V} : SqT K H a vs → RelDs K ι H xs vs → RelD K ι H (.tup xs) (.ref a)
  | obj {i : Nat} {a : Addr} : ι[i]? = some a → RelD K ι H (.obj i) (.ref a)
  | ty (n : String) : RelD K ι H (.ty n) (.ty n)
  | rol {a : Addr} {xs : List D} {vs : List V} : SqF K H a vs → RelDs K ι H xs vs → RelD K ι H (.rol xs) (.ref a)
inductive RelDs (K : PySem.W.Frag) (ι : List Addr) (H : Hp) : List D → List V → Prop
  | nil : RelDs K ι H [] []
  | cons {d : D} {v : V} {ds : List D} {vs : List V} : RelD K ι H d v → RelDs K ι H ds vs → RelDs K ι H (d :: ds) (v :: vs)
end

structure Lo (K : PySem.W.Frag) (ι : List Addr) (H : Hp) (ι' : List Addr) (H' : Hp) : Prop where
  ix : ∀ (i : Nat) (a : Addr), ι[i]? = some a → ι'[i]? = some a
  tp : ∀ a xs, SqT K H a xs → SqT K H' a xs
  rl : ∀ a xs, SqF K H a xs → SqF K H' a xs
  tb : ∀ a φ, H a = some (HO.ext φ) → H' a = some (HO.ext φ)
structure Le (K : PySem.W.Frag) (ι : List Addr) (H : Hp) (ι' : List Addr) (H' : Hp) : Prop where
  ix : ∀ (i : Nat) (a : Addr), ι[i]? = some a → ι'[i]? = some a
  tp : ∀ a xs, SqT K H a xs → SqT K H' a xs
  rl : ∀ a xs, SqF K H a xs → SqF K H' a xs
  kp : ∀ a o, H a = some o → a ∉ ι → H' a = some o ∧ a ∉ ι'
  fz : ∀ a o u, H a = some (.frz o u) → H' a = some (.frz o u)
  tb : ∀ a φ, H a = some (HO.ext φ) → H' a = some (HO.ext φ)
theorem Le.refl {K ι H} : Le K ι H ι H := ⟨fun _ _ h => h, fun _ _ h => h, fun _ _ h => h, fun _ _ h n => ⟨h, n⟩, fun _ _ _ h => h, fun _ _ h => h⟩
theorem Le.lo {K ι H ι' H'} (l : Le K ι H ι' H') : Lo K ι H ι' H' := ⟨l.ix, l.tp, l.rl, l.tb⟩
instance {K : PySem.W.Frag} {ι : List Addr} {H : Hp} {ι' : List Addr} {H' : Hp} : CoeOut (Le K ι H ι' H') (Lo K ι H ι' H') := ⟨Le.lo⟩
theorem Le.trans {K ι H ι1 H1 ι2 H2} (a : Le K ι H ι1 H1) (b : Le K ι1 H1 ι2 H2) : Le K ι H ι2 H2 :=
  ⟨fun i x h => b.ix i x (a.ix i x h), fun p xs h => b.tp p xs (a.tp p xs h), fun p xs h => b.rl p xs (a.rl p xs h), fun p o h n => b.kp p o (a.kp p o h n).1 (a.kp p o h n).2, fun p o u h => b.fz p o u (a.fz p o u h), fun p φ h => b.tb p φ (a.tb p φ h)⟩

variable {K : PySem.W.Frag} {ι ι' : List Addr} {H H' : Hp}
mutual
theorem RelD.mono (le : Lo K ι H ι' H') : ∀ {d : D} {v : V}, RelD K ι H d v → RelD K ι' H' d v
  | _, _, .non => .non
  | _, _, .bl b => .bl b
  | _, _, .int i => .int i
  | _, _, .str x => .str x
  | _, _, .tup h r => .tup (le.tp _ _ h) (RelDs.mono le r)
  | _, _, .obj h => .obj (le.ix _ _ h)
  | _, _, .ty n => .ty n
  | _, _, .rol h r => .rol (le.rl _ _ h) (RelDs.mono le r)
theorem RelDs.mono (le : Lo K ι H ι' H') : ∀ {ds : List D} {vs : List V}, RelDs K ι H ds vs → RelDs K ι' H' ds vs
  | _, _, .nil => .nil
  | _, _, .cons r t => .cons (RelD.mono le r) (RelDs.mono le t)
end
theorem RelDs.length : ∀ {ds : List D} {vs : List V}, RelDs K ι H ds vs → ds.length = vs.length
  | _, _, .nil => rfl
  | _, _, .cons _ t => congrArg (· + 1) (RelDs.length t)
theorem RelDs.get : ∀ {ds : List D} {vs : List V} {i : Nat} {d : D}, RelDs K ι H ds vs → ds[i]? = some d → ∃ v, vs[i]? = some v ∧ RelD K ι H d v
  | _, _, _, _, .nil, e => by simp at e
  | _, _, 0, _, .cons r _, e => by simp at e; subst e; exact ⟨_, rfl, r⟩
  | _, _, i + 1, d, .cons _ t, e => by
    obtain ⟨v, h1, h2⟩ := RelDs.get (i := i) (d := d) t (by simpa using e)
    exact ⟨v, by simpa using h1, h2⟩
theorem RelDs.getV : ∀ {ds : List D} {vs : List V} {i : Nat} {v : V}, RelDs K ι H ds vs → vs[i]? = some v → ∃ d, ds[i]? = some d ∧ RelD K ι H d v
  | _, _, _, _, .nil, e => by simp at e
  | _, _, 0, _, .cons r _, e => by simp at e; subst e; exact ⟨_, rfl, r⟩
  | _, _, i + 1, v, .cons _ t, e => by
    obtain ⟨d, h1, h2⟩ := RelDs.getV (i := i) (v := v) t (by simpa using e)
    exact ⟨d, by simpa using h1, h2⟩
theorem RelDs.append : ∀ {xs ys : List D} {us ws : List V}, RelDs K ι H xs us → RelDs K ι H ys ws → RelDs K ι H (xs ++ ys) (us ++ ws)
  | _, _, _, _, .nil, s => s
  | _, _, _, _, .cons r t, s => .cons r (RelDs.append t s)
theorem RelDs.set {d : D} {v : V} (r : RelD K ι H d v) : ∀ {xs : List D} {us : List V} (i : Nat), RelDs K ι H xs us → RelDs K ι H (xs.set i d) (us.set i v)
  | _, _, _, .nil => .nil
  | _, _, 0, .cons _ t => .cons r t
  | _, _, i + 1, .cons q t => .cons q (RelDs.set r i t)
theorem RelDs.take : ∀ {xs : List D} {us : List V} (n : Nat), RelDs K ι H xs us → RelDs K ι H (xs.take n) (us.take n)
  | _, _, 0, _ => .nil
  | _, _, _ + 1, .nil => .nil
  | _, _, n + 1, .cons r t => .cons r (RelDs.take n t)
theorem RelDs.drop : ∀ {xs : List D} {us : List V} (n : Nat), RelDs K ι H xs us → RelDs K ι H (xs.drop n) (us.drop n)
  | _, _, 0, r => r
  | _, _, _ + 1, .nil => .nil
  | _, _, n + 1, .cons _ t => RelDs.drop n t
theorem RelDs.eraseIdx : ∀ {xs : List D} {us : List V} (i : Nat), RelDs K ι H xs us → RelDs K ι H (xs.eraseIdx i) (us.eraseIdx i)
  | _, _, _, .nil => .nil
  | _, _, 0, .cons _ t => t
  | _, _, i + 1, .cons r t => .cons r (RelDs.eraseIdx i t)
theorem RelDs.reverse {xs : List D} {us : List V} (h : RelDs K ι H xs us) : RelDs K ι H xs.reverse us.reverse := by
  induction xs generalizing us with
  | nil => cases h; exact .nil
  | cons a r ih =>
    cases h with
    | cons q t => rw [List.reverse_cons, List.reverse_cons]; exact (ih t).append (.cons q .nil)

def RelKs {κ : Type} (K : PySem.W.Frag) (ι : List Addr) (H : Hp) (kvs : List (κ × D)) (kvs' : List (κ × V)) : Prop :=
  kvs.map (·.1) = kvs'.map (·.1) ∧ RelDs K ι H (kvs.map (·.2)) (kvs'.map (·.2))
theorem RelKs.mono {κ : Type} (le : Lo K ι H ι' H') {kvs : List (κ × D)} {kvs' : List (κ × V)} (h : RelKs K ι H kvs kvs') : RelKs K ι' H' kvs kvs' := ⟨h.1, h.2.mono le⟩

def ObjR (K : PySem.W.Frag) (ι : List Addr) (H : Hp) (a : Addr) : MO → Prop
  | .lst xs => ∃ vs, H a = some (.lst vs) ∧ RelDs K ι H xs vs
  | .dic kvs => ∃ kvs', H a = some (.dK kvs') ∧ RelKs K ι H kvs kvs'
  | .dro kvs => ∃ o kvs', H a = some (.frz o (.dK kvs')) ∧ RelKs K ι H kvs kvs'
  | .dct kvs => ∃ kvs', H a = some (.dT kvs') ∧ RelKs K ι H kvs kvs'
  | .dto kvs => ∃ o kvs', H a = some (.frz o (.dT kvs')) ∧ RelKs K ι H kvs kvs'
theorem ObjR.there {a : Addr} {mo : MO} (h : ObjR K ι H a mo) : ∃ o, H a = some o := by
  cases mo with
  | lst xs => obtain ⟨_, e, _⟩ := h; exact ⟨_, e⟩
  | dic xs => obtain ⟨_, e, _⟩ := h; exact ⟨_, e⟩
  | dro xs => obtain ⟨_, _, e, _⟩ := h; exact ⟨_, e⟩
  | dct xs => obtain ⟨_, e, _⟩ := h; exact ⟨_, e⟩
  | dto xs => obtain ⟨_, _, e, _⟩ := h; exact ⟨_, e⟩
theorem ObjR.keep {a : Addr} {mo : MO} (h : ObjR K ι H a mo) (e : H' a = H a) (le : Lo K ι H ι' H') : ObjR K ι' H' a mo := by
  cases mo with
  | lst xs => obtain ⟨vs, q, r⟩ := h; exact ⟨vs, e.trans q, r.mono le⟩
  | dic xs => obtain ⟨vs, q, r⟩ := h; exact ⟨vs, e.trans q, r.mono le⟩
  | dro xs => obtain ⟨o, vs, q, r⟩ := h; exact ⟨o, vs, e.trans q, r.mono le⟩
  | dct xs => obtain ⟨vs, q, r⟩ := h; exact ⟨vs, e.trans q, r.mono le⟩
  | dto xs => obtain ⟨o, vs, q, r⟩ := h; exact ⟨o, vs, e.trans q, r.mono le⟩

structure RelM (K : PySem.W.Frag) (ι : List Addr) (H : Hp) (M : Mem) : Prop where
  len : ι.length = M.length
  nd : ι.Nodup
  ob : ∀ (i : Nat) (a : Addr) (mo : MO), ι[i]? = some a → M[i]? = some mo → ObjR K ι H a mo
  tb : ∀ T ∈ tabsOf K, ∃ ps, H T = some (TabO T ps)

variable {M : Mem}
theorem RelM.at (h : RelM K ι H M) {i : Nat} {mo : MO} (e : M[i]? = some mo) : ∃ a, ι[i]? = some a ∧ ObjR K ι H a mo := by
  have hi : i < M.length := (List.getElem?_eq_some_iff.mp e).1
  have hi' : i < ι.length := by rw [h.len]; exact hi
  exact ⟨ι[i], List.getElem?_eq_getElem hi', h.ob i _ mo (List.getElem?_eq_getElem hi') e⟩
theorem RelM.mem (h : RelM K ι H M) {a : Addr} (m : a ∈ ι) : ∃ o, H a = some o := by
  obtain ⟨i, hi, rfl⟩ := List.mem_iff_getElem.mp m
  have hi' : i < M.length := by rw [← h.len]; exact hi
  exact (h.ob i _ _ (List.getElem?_eq_getElem hi) (List.getElem?_eq_getElem hi')).there
theorem le_new {p : Addr} {o : HO} (h : H p = none) : Le K ι H (ι ++ [p]) (upd H p o) :=
  ⟨fun i a e => by rw [List.getElem?_append_left (List.getElem?_eq_some_iff.mp e).1]; exact e, fun a xs q => by
    rcases q with (q | ⟨u, q⟩) | q
    · exact .inl (.inl (by rw [upd_ne (ne_of_none q h)]; exact q))
    · exact .inl (.inr ⟨u, by rw [upd_ne (ne_of_none q h)]; exact q⟩)
    · exact .inr q, fun a xs q => by
    rcases q with ⟨u, q⟩ | q
    · exact .inl ⟨u, by rw [upd_ne (ne_of_none q h)]; exact q⟩
    · exact .inr q, fun a u q n => ⟨by rw [upd_ne (ne_of_none q h)]; exact q, fun m => by
      rcases List.mem_append.mp m with m | m
      · exact n m
      · exact ne_of_none q h (by simpa using m)⟩, fun a o u q => by rw [upd_ne (ne_of_none q h)]; exact q, fun a u q => by rw [upd_ne (ne_of_none q h)]; exact q⟩
theorem le_new0 {p : Addr} {o : HO} (h : H p = none) : Le K ι H ι (upd H p o) :=
  ⟨fun i a e => e, (le_new (ι := ι) h).tp, (le_new (ι := ι) h).rl, fun a u q n => ⟨by rw [upd_ne (ne_of_none q h)]; exact q, n⟩, fun a o u q => by rw [upd_ne (ne_of_none q h)]; exact q, fun a u q => by rw [upd_ne (ne_of_none q h)]; exact q⟩
def NoTup : HO → Prop
  | .tup _ => False
  | .frz _ _ => False
  | .ext _ => False
  | _ => True
theorem le_upd {a : Addr} {o o' : HO} (hi : a ∈ ι) (h : H a = some o) (n : NoTup o) : Le K ι H ι (upd H a o') :=
  ⟨fun i a e => e, fun b xs q => by
    rcases q with (q | ⟨u, q⟩) | q
    · exact .inl (.inl (by rw [upd_ne (ne_of q h (by rintro rfl; exact n))]; exact q))
    · exact .inl (.inr ⟨u, by rw [upd_ne (ne_of q h (by rintro rfl; exact n))]; exact q⟩)
    · exact .inr q, fun b xs q => by
    rcases q with ⟨u, q⟩ | q
    · exact .inl ⟨u, by rw [upd_ne (ne_of q h (by rintro rfl; exact n))]; exact q⟩
    · exact .inr q, fun b u q m => ⟨by rw [upd_ne (fun z => m (by rw [z]; exact hi))]; exact q, m⟩, fun b o' u q => by rw [upd_ne (ne_of q h (by rintro rfl; exact n))]; exact q, fun b u q => by rw [upd_ne (ne_of q h (by rintro rfl; exact n))]; exact q⟩
theorem RelM.new {p : Addr} {o : HO} {mo : MO} (h : RelM K ι H M) (hp : H p = none) (r : ObjR K (ι ++ [p]) (upd H p o) p mo) : RelM K (ι ++ [p]) (upd H p o) (M ++ [mo]) := by
  have np : p ∉ ι := fun m => by obtain ⟨o, e⟩ := h.mem m; rw [hp] at e; cases e
  refine ⟨by simp [h.len], ?_, fun i a m e1 e2 => ?_, fun T hT => let ⟨ps, e⟩ := h.tb T hT; ⟨ps, (le_new (ι := ι) (K := K) hp).tb _ _ e⟩⟩
  · rw [List.nodup_append]
    refine ⟨h.nd, by simp, fun a ha b hb => ?_⟩
    have : b = p := by simpa using hb
    subst this
    rintro rfl
    exact np ha
  · by_cases hi : i < ι.length
    · rw [List.getElem?_append_left hi] at e1
      rw [List.getElem?_append_left (by rw [← h.len]; exact hi)] at e2
      have q := h.ob i a m e1 e2
      obtain ⟨o', e'⟩ := q.there
      exact q.keep (upd_ne (ne_of_none e' hp)) (le_new hp).lo
    · have hl : i < (ι ++ [p]).length := (List.getElem?_eq_some_iff.mp e1).1
      simp at hl
      have : i = ι.length := by omega
      subst this
      rw [List.getElem?_append_right (Nat.le_refl _)] at e1
      rw [List.getElem?_append_right (by rw [h.len]; exact Nat.le_refl _)] at e2
      simp [h.len] at e1 e2
      subst e1 e2
      exact r
/-- the heap changed, but not where the memory lies -/
theorem RelM.keep (h : RelM K ι H M) (e : ∀ a ∈ ι, H' a = H a) (le : Lo K ι H ι H') : RelM K ι H' M :=
  ⟨h.len, h.nd, fun i a mo e1 e2 => (h.ob i a mo e1 e2).keep (e a (List.mem_of_getElem? e1)) le, fun T hT => let ⟨ps, e⟩ := h.tb T hT; ⟨ps, le.tb _ _ e⟩⟩
theorem RelM.new0 {p : Addr} {o : HO} (h : RelM K ι H M) (hp : H p = none) : RelM K ι (upd H p o) M :=
  h.keep (fun a ha => by obtain ⟨u, e⟩ := h.mem ha; exact upd_ne (ne_of_none e hp)) (le_new0 hp).lo
theorem RelM.set {i : Nat} {a : Addr} {o o' : HO} {mo' : MO} (h : RelM K ι H M) (hi : ι[i]? = some a) (ha : H a = some o) (n : NoTup o) (r : ObjR K ι (upd H a o') a mo') : RelM K ι (upd H a o') (M.set i mo') := by
  refine ⟨by simp [h.len], h.nd, fun j b m e1 e2 => ?_, fun T hT => let ⟨ps, e⟩ := h.tb T hT; ⟨ps, (le_upd (K := K) (List.mem_of_getElem? hi) ha n).tb _ _ e⟩⟩
  by_cases hj : i = j
  · subst hj
    rw [hi] at e1
    cases e1
    rw [List.getElem?_set] at e2
    simp only [if_true] at e2
    split at e2
    · cases e2; exact r
    · cases e2
  · have hb : b ≠ a := fun z => by
      subst z
      obtain ⟨h1, h1'⟩ := List.getElem?_eq_some_iff.mp hi
      obtain ⟨h2, h2'⟩ := List.getElem?_eq_some_iff.mp e1
      exact hj ((List.getElem_inj (h₀ := h1) (h₁ := h2) h.nd).mp (h1'.trans h2'.symm))
    rw [List.getElem?_set_ne hj] at e2
    exact (h.ob j b m e1 e2).keep (upd_ne hb) (le_upd (List.mem_of_getElem? hi) ha n).lo

theorem RelM.add {a : Addr} {mo : MO} (h : RelM K ι H M) (na : a ∉ ι) (r : ObjR K (ι ++ [a]) H a mo) : RelM K (ι ++ [a]) H (M ++ [mo]) := by
  have lo : Lo K ι H (ι ++ [a]) H := ⟨fun i b e => by rw [List.getElem?_append_left (List.getElem?_eq_some_iff.mp e).1]; exact e, fun _ _ h => h, fun _ _ h => h, fun _ _ h => h⟩
  refine ⟨by simp [h.len], ?_, fun i b m e1 e2 => ?_, h.tb⟩
  · rw [List.nodup_append]
    refine ⟨h.nd, by simp, fun b hb c hc => ?_⟩
    have : c = a := by simpa using hc
    subst this
    rintro rfl
    exact na hb
  · by_cases hi : i < ι.length
    · rw [List.getElem?_append_left hi] at e1
      rw [List.getElem?_append_left (by rw [← h.len]; exact hi)] at e2
      exact (h.ob i b m e1 e2).keep rfl lo
    · have hl : i < (ι ++ [a]).length := (List.getElem?_eq_some_iff.mp e1).1
      simp at hl
      have : i = ι.length := by omega
      subst this
      rw [List.getElem?_append_right (Nat.le_refl _)] at e1
      rw [List.getElem?_append_right (by rw [h.len]; exact Nat.le_refl _)] at e2
      simp [h.len] at e1 e2
      subst e1 e2
      exact r
/-- the slots -/
def RelS (K : PySem.W.Frag) (ι : List Addr) (H : Hp) (δ : DSt) (σ : St) : Prop :=
  δ.length = σ.length ∧ ∀ (i : Nat) (d : D), δ[i]? = some (some d) → ∃ v, σ[i]? = some (some v) ∧ RelD K ι H d v
theorem RelS.mono (le : Lo K ι H ι' H') {δ σ} (h : RelS K ι H δ σ) : RelS K ι' H' δ σ :=
  ⟨h.1, fun i d e => by obtain ⟨v, q, r⟩ := h.2 i d e; exact ⟨v, q, r.mono le⟩⟩
theorem RelS.set {δ σ} (h : RelS K ι H δ σ) {d v} (r : RelD K ι H d v) (i : Nat) : RelS K ι H (δ.set i (some d)) (σ.set i (some v)) := by
  refine ⟨by simp [h.1], fun j e hj => ?_⟩
  by_cases hij : i = j
  · subst hij
    rw [List.getElem?_set] at hj
    simp only [if_true] at hj
    split at hj
    · cases hj
      have : i < σ.length := by rw [← h.1]; assumption
      exact ⟨v, by simp [List.getElem?_set, this], r⟩
    · cases hj
  · rw [List.getElem?_set_ne hij] at hj
    obtain ⟨u, q, r⟩ := h.2 j e hj
    exact ⟨u, by rw [List.getElem?_set_ne hij]; exact q, r⟩

abbrev mE := DSt → Mem → Option (D × Mem)
abbrev mT := DSt → Mem → Option (Bool × Mem)
abbrev mA := DSt → Mem → Option (List D × Mem)
inductive Fl where
  | nx (δ : DSt) | rt (d : D) | bk (δ : DSt) | ct (δ : DSt)
abbrev mS := DSt → Mem → Option (Fl × Mem)

def tM (K : PySem.W.Frag) (m : mE) : TE := fun σ H Q => ∃ ι δ M d M', RelS K ι H δ σ ∧ RelM K ι H M ∧ m δ M = some (d, M') ∧
  ∀ ι' H' v, Le K ι H ι' H' → RelM K ι' H' M' → RelD K ι' H' d v → Q v H'
def tMT (K : PySem.W.Frag) (m : mT) : TT := fun σ H Q => ∃ ι δ M b M', RelS K ι H δ σ ∧ RelM K ι H M ∧ m δ M = some (b, M') ∧
  ∀ ι' H', Le K ι H ι' H' → RelM K ι' H' M' → Q b H'
def tMA (K : PySem.W.Frag) (m : mA) : TA := fun σ H Q => ∃ ι δ M d M', RelS K ι H δ σ ∧ RelM K ι H M ∧ m δ M = some (d, M') ∧
  ∀ ι' H' v, Le K ι H ι' H' → RelM K ι' H' M' → RelDs K ι' H' d v → Q v H'
def endS (K : PySem.W.Frag) (ι : List Addr) (H : Hp) (E : Ends) : Fl → Prop
  | .nx δ => ∀ σ, RelS K ι H δ σ → E.nx σ H
  | .bk δ => ∀ σ, RelS K ι H δ σ → E.bk σ H
  | .ct δ => ∀ σ, RelS K ι H δ σ → E.ct σ H
  | .rt d => ∀ v, RelD K ι H d v → E.rt v H
def tMS (K : PySem.W.Frag) (m : mS) : TS := fun E σ H => ∃ ι δ M f M', RelS K ι H δ σ ∧ RelM K ι H M ∧ m δ M = some (f, M') ∧
  ∀ ι' H', Le K ι H ι' H' → RelM K ι' H' M' → endS K ι' H' E f

theorem PE.imp {X : Cx} {e : Expr} {t t' : TE} (h : PE X e t) (f : ∀ σ H Q, t' σ H Q → t σ H Q) : PE X e t' := fun pins s σ H Q I q => h pins s σ H Q I (f _ _ _ q)
theorem PT.imp {X : Cx} {e : Expr} {t t' : TT} (h : PT X e t) (f : ∀ σ H Q, t' σ H Q → t σ H Q) : PT X e t' := fun pins s σ H Q I q => h pins s σ H Q I (f _ _ _ q)
theorem PW.imp {X : Cx} {e : Expr} {t t' : TT} (h : PW X e t) (f : ∀ σ H Q, t' σ H Q → t σ H Q) : PW X e t' := fun wh pins s σ H Q I q => h wh pins s σ H Q I (f _ _ _ q)
theorem PA.imp {X : Cx} {e : List Expr} {t t' : TA} (h : PA X e t) (f : ∀ σ H Q, t' σ H Q → t σ H Q) : PA X e t' := fun p pins s σ H Q I q => h p pins s σ H Q I (f _ _ _ q)
theorem PS.imp {X : Cx} {e : Stmt} {t t' : TS} (h : PS X e t) (f : ∀ D σ H, t' D σ H → t D σ H) : PS X e t' := fun pins s σ H Q I q => h pins s σ H Q I (f _ _ _ q)
theorem PSs.imp {X : Cx} {e : List Stmt} {t t' : TS} (h : PSs X e t) (f : ∀ D σ H, t' D σ H → t D σ H) : PSs X e t' := fun pins s σ H Q I q => h pins s σ H Q I (f _ _ _ q)
end Mir

set_option Elab.async false
set_option linter.all false
set_option maxRecDepth 100000
set_option maxHeartbeats 4000000
namespace Mir
open PySem PySem.Spec L2
variable {X : Cx} {a b c e : Expr} {pos : Pos} {ma mb mc : mE}

/-! ### names, constants -/
def mVar (i : Nat) : mE := fun δ M => match δ[i]? with
  | some (some d) => some (d, M)
  | _ => none
theorem mVar_some {i : Nat} {δ : DSt} {M M' : Mem} {d : D} (h : mVar i δ M = some (d, M')) : δ[i]? = some (some d) ∧ M' = M := by
  unfold mVar at h
  split at h
  · rename_i d' e; cases h; exact ⟨e, rfl⟩
  · cases h
theorem me_of_var {i : Nat} (h : PE X e (tVar i)) : PE X e (tM X.K (mVar i)) := PE.imp h fun σ H Q ⟨ι, δ, M, d, M', hs, hm, he, k⟩ => by
  obtain ⟨e1, rfl⟩ := mVar_some he
  obtain ⟨v, ev, r⟩ := hs.2 _ _ e1
  exact ⟨v, ev, k ι H v .refl hm r⟩
def mC (d : D) : mE := fun _ M => some (d, M)
theorem me_of_C {v : V} {d : D} (r : ∀ ι H, RelD X.K ι H d v) (h : PE X e (tC v)) : PE X e (tM X.K (mC d)) := PE.imp h fun σ H Q ⟨ι, δ, M, d', M', hs, hm, he, k⟩ => by
  cases he
  exact k ι H v .refl hm (r ι H)
theorem me_int {i : Int} {j} : PE X (.Constant (.int i) j pos) (tM X.K (mC (.int i))) := me_of_C (fun _ _ => .int i) pe_int
theorem me_bl {i : Bool} {j} : PE X (.Constant (.bool i) j pos) (tM X.K (mC (.bl i))) := me_of_C (fun _ _ => .bl i) pe_bl
theorem me_str {x : Str} {j} : PE X (.Constant (.str x) j pos) (tM X.K (mC (.str x))) := me_of_C (fun _ _ => .str x) pe_str

/-! ### two-place operations -/
def mBin (f : D → D → Mem → Option (D × Mem)) (ma mb : mE) : mE := fun δ M => (ma δ M).bind fun r => (mb δ r.2).bind fun q => f r.1 q.1 q.2
theorem mBin_some {f : D → D → Mem → Option (D × Mem)} {δ : DSt} {M M' : Mem} {d : D} (h : mBin f ma mb δ M = some (d, M')) :
    ∃ x M1 y M2, ma δ M = some (x, M1) ∧ mb δ M1 = some (y, M2) ∧ f x y M2 = some (d, M') := by
  unfold mBin at h
  cases e1 : ma δ M with
  | none => rw [e1] at h; cases h
  | some r =>
    rw [e1] at h
    have h : ((mb δ r.2).bind fun q => f r.1 q.1 q.2) = some (d, M') := h
    cases e2 : mb δ r.2 with
    | none => rw [e2] at h; cases h
    | some q => rw [e2] at h; exact ⟨r.1, r.2, q.1, q.2, rfl, e2, h⟩
/-- what is wanted of a value that comes -/
abbrev Got (K : PySem.W.Frag) (ι : List Addr) (H : Hp) (M' : Mem) (d : D) (Q : VK) : Prop := ∀ ι' H' v, Le K ι H ι' H' → RelM K ι' H' M' → RelD K ι' H' d v → Q v H'
def OpM (K : PySem.W.Frag) (r : R2) (f : D → D → Mem → Option (D × Mem)) : Prop :=
  ∀ ι H M x y vx vy d M' Q, RelM K ι H M → RelD K ι H x vx → RelD K ι H y vy → f x y M = some (d, M') → Got K ι H M' d Q → r vx vy H Q
theorem op_imp {r : R2} {f : D → D → Mem → Option (D × Mem)} (ho : OpM X.K r f) {σ H Q} (h : tM X.K (mBin f ma mb) σ H Q) : tOp r (tM X.K ma) (tM X.K mb) σ H Q := by
  obtain ⟨ι, δ, M, d, M', hs, hm, he, k⟩ := h
  obtain ⟨x, M1, y, M2, e1, e2, e3⟩ := mBin_some he
  refine ⟨ι, δ, M, x, M1, hs, hm, e1, fun ι1 H1 vx l1 m1 r1 => ⟨ι1, δ, M1, y, M2, hs.mono l1, m1, e2, fun ι2 H2 vy l2 m2 r2 => ?_⟩⟩
  exact ho ι2 H2 M2 x y vx vy d M' Q m2 (r1.mono l2) r2 e3 fun ι3 H3 v l3 m3 r3 => k ι3 H3 v ((l1.trans l2).trans l3) m3 r3
theorem me_bin {op : Operator} {r : R2} {f : D → D → Mem → Option (D × Mem)} (ho : OpR X (binaryOp op) r) (hf : OpM X.K r f) (ha : PE X a (tM X.K ma)) (hb : PE X b (tM X.K mb)) :
    PE X (.BinOp a op b pos) (tM X.K (mBin f ma mb)) := PE.imp (pe_op ho ha hb) fun _ _ _ h => op_imp hf h
theorem me_cmp {op : CmpOp} {r : R2} {f : D → D → Mem → Option (D × Mem)} (ho : OpR X (compareOp op) r) (hf : OpM X.K r f) (ha : PE X a (tM X.K ma)) (hb : PE X b (tM X.K mb)) (hm : behindInMarks op b = false) :
    PE X (.Compare a [op] [b] pos) (tM X.K (mBin f ma mb)) := PE.imp (pe_cmpR ho ha hb hm) fun _ _ _ h => op_imp hf h
/-- a test by an expression that gives a bool -/
def mB (m : mE) : mT := fun δ M => match m δ M with
  | some (.bl b, M') => some (b, M')
  | _ => none
theorem mB_some {m : mE} {δ : DSt} {M M' : Mem} {b : Bool} (h : mB m δ M = some (b, M')) : m δ M = some (.bl b, M') := by
  unfold mB at h
  split at h
  · rename_i e; cases h; exact e
  · cases h
theorem mt_cmp {op : CmpOp} {r : R2} {f : D → D → Mem → Option (D × Mem)} (ho : OpR X (compareOp op) r) (hf : OpM X.K r f) (ha : PE X a (tM X.K ma)) (hb : PE X b (tM X.K mb)) (hm : behindInMarks op b = false) :
    PT X (.Compare a [op] [b] pos) (tMT X.K (mB (mBin f ma mb))) := PT.imp (pt_cmpR ho ha hb hm) fun σ H Q ⟨ι, δ, M, d, M', hs, hm, he, k⟩ => by
  refine op_imp hf ⟨ι, δ, M, .bl d, M', hs, hm, mB_some he, fun ι' H' v l m r => ?_⟩
  cases r
  exact ⟨d, rfl, k ι' H' l m⟩
theorem OpR.or {f : Value → Value → Sem Value} {r r' : R2} (h : OpR X f r) (h' : OpR X f r') : OpR X f (fun x y H Q => r x y H Q ∨ r' x y H Q) := by
  intro pins s σ H x y v u Q I rx ry q
  rcases q with q | q
  · exact h pins s σ H x y v u Q I rx ry q
  · exact h' pins s σ H x y v u Q I rx ry q

/-! ### new tuples, new lists, by numbers -/
theorem got_tup {K : PySem.W.Frag} {ι : List Addr} {H : Hp} {M : Mem} {xs : List D} {vs : List V} {Q : VK} (hm : RelM K ι H M) (r : RelDs K ι H xs vs) (k : Got K ι H M (.tup xs) Q) : ∀ p, H p = none → Q (.ref p) (upd H p (.tup vs)) := fun p hp =>
  k ι _ _ (le_new0 hp) (hm.new0 hp) (.tup (.of upd_same) (r.mono (le_new0 hp).lo))
theorem got_lst {K : PySem.W.Frag} {ι : List Addr} {H : Hp} {M : Mem} {xs : List D} {vs : List V} {Q : VK} (hm : RelM K ι H M) (r : RelDs K ι H xs vs) (k : Got K ι H (M ++ [.lst xs]) (.obj M.length) Q) : ∀ p, H p = none → Q (.ref p) (upd H p (.lst vs)) := fun p hp => by
  refine k (ι ++ [p]) _ _ (le_new hp) (hm.new hp ⟨vs, upd_same, r.mono (le_new hp).lo⟩) (.obj ?_)
  rw [← hm.len]
  simp
/-- a list of the memory is read -/
def asList (M : Mem) : D → Option (List D)
  | .obj i => match M[i]? with
    | some (.lst xs) => some xs
    | _ => none
  | .rol xs => some xs
  | _ => none
theorem asList_rel {K : PySem.W.Frag} {ι : List Addr} {H : Hp} {M : Mem} {d : D} {xs : List D} {v : V} (hm : RelM K ι H M) (h : asList M d = some xs) (r : RelD K ι H d v) : ∃ p vs, v = .ref p ∧ SqL K H p vs ∧ RelDs K ι H xs vs := by
  cases d with
  | obj i =>
    cases r with
    | obj hi =>
      simp only [asList] at h
      split at h
      · rename_i ys e; cases h
        obtain ⟨p, hp, vs, e1, e2⟩ := hm.at e
        rw [hi] at hp; cases hp
        exact ⟨_, vs, rfl, .of e1, e2⟩
      · cases h
  | rol ys =>
    cases h
    cases r with
    | rol h1 r1 => exact ⟨_, _, rfl, h1.sq, r1⟩
  | _ => cases h
/-- a list of the memory that may be changed -/
def asLst (M : Mem) : D → Option (Nat × List D)
  | .obj i => match M[i]? with
    | some (.lst xs) => some (i, xs)
    | _ => none
  | _ => none
theorem asLst_rel {K : PySem.W.Frag} {ι : List Addr} {H : Hp} {M : Mem} {d : D} {i : Nat} {xs : List D} {v : V} (hm : RelM K ι H M) (h : asLst M d = some (i, xs)) (r : RelD K ι H d v) :
    d = .obj i ∧ M[i]? = some (.lst xs) ∧ ∃ p vs, v = .ref p ∧ ι[i]? = some p ∧ H p = some (.lst vs) ∧ RelDs K ι H xs vs := by
  cases d with
  | obj j =>
    cases r with
    | obj hi =>
      simp only [asLst] at h
      split at h
      · rename_i ys e; cases h
        obtain ⟨p, hp, vs, e1, e2⟩ := hm.at e
        rw [hi] at hp; cases hp
        exact ⟨rfl, e, _, vs, rfl, hi, e1, e2⟩
      · cases h
  | _ => cases h
theorem got_set {K : PySem.W.Frag} {ι : List Addr} {H : Hp} {M : Mem} {i : Nat} {p : Addr} {xs ys : List D} {vs ws : List V} {d : D} {v : V} {Q : VK} (hm : RelM K ι H M) (hi : ι[i]? = some p) (hp : H p = some (.lst vs)) (r : RelDs K ι H ys ws)
    (rd : RelD K ι H d v) (k : Got K ι H (M.set i (.lst ys)) d Q) : Q v (upd H p (.lst ws)) :=
  k ι _ _ (le_upd (List.mem_of_getElem? hi) hp trivial) (hm.set hi hp trivial ⟨ws, upd_same, r.mono (le_upd (List.mem_of_getElem? hi) hp trivial).lo⟩) (rd.mono (le_upd (List.mem_of_getElem? hi) hp trivial).lo)
/-- a dict of the memory that is read -/
def asDict (M : Mem) : D → Option (List (Key × D))
  | .obj i => match M[i]? with
    | some (.dic kvs) => some kvs
    | some (.dro kvs) => some kvs
    | _ => none
  | _ => none
theorem asDict_rel {K : PySem.W.Frag} {ι : List Addr} {H : Hp} {M : Mem} {d : D} {xs : List (Key × D)} {v : V} (hm : RelM K ι H M) (h : asDict M d = some xs) (r : RelD K ι H d v) :
    ∃ p vs, v = .ref p ∧ Rd H p (.dK vs) ∧ RelKs K ι H xs vs := by
  cases d with
  | obj j =>
    cases r with
    | obj hi =>
      simp only [asDict] at h
      split at h
      · rename_i ys e; cases h
        obtain ⟨p, hp, vs, e1, e2⟩ := hm.at e
        rw [hi] at hp; cases hp
        exact ⟨_, vs, rfl, .of e1, e2⟩
      · rename_i ys e; cases h
        obtain ⟨p, hp, o, vs, e1, e2⟩ := hm.at e
        rw [hi] at hp; cases hp
        exact ⟨_, vs, rfl, .inr ⟨o, e1⟩, e2⟩
      · cases h
  | _ => cases h
/-- a dict of the memory -/
def asDic (M : Mem) : D → Option (Nat × List (Key × D))
  | .obj i => match M[i]? with
    | some (.dic kvs) => some (i, kvs)
    | _ => none
  | _ => none
theorem asDic_rel {K : PySem.W.Frag} {ι : List Addr} {H : Hp} {M : Mem} {d : D} {i : Nat} {xs : List (Key × D)} {v : V} (hm : RelM K ι H M) (h : asDic M d = some (i, xs)) (r : RelD K ι H d v) :
    d = .obj i ∧ M[i]? = some (.dic xs) ∧ ∃ p vs, v = .ref p ∧ ι[i]? = some p ∧ H p = some (.dK vs) ∧ RelKs K ι H xs vs := by
  cases d with
  | obj j =>
    cases r with
    | obj hi =>
      simp only [asDic] at h
      split at h
      · rename_i ys e; cases h
        obtain ⟨p, hp, vs, e1, e2⟩ := hm.at e
        rw [hi] at hp; cases hp
        exact ⟨rfl, e, _, vs, rfl, hi, e1, e2⟩
      · cases h
  | _ => cases h
def keyD : D → Option Key
  | .int i => some (.inl i)
  | .str x => some (.inr x)
  | _ => none
theorem keyD_rel {K : PySem.W.Frag} {ι : List Addr} {H : Hp} {d : D} {k : Key} {v : V} (h : keyD d = some k) (r : RelD K ι H d v) : v = kV k := by
  cases r <;> cases h <;> rfl
theorem RelKs.val {K : PySem.W.Frag} {ι : List Addr} {H : Hp} : ∀ {kvs : List (Key × D)} {kvs' : List (Key × V)}, RelKs K ι H kvs kvs' → ∀ k : Key,
    (∀ d, (kvs.find? (fun kv => decide (kv.1 = k))).map (·.2) = some d → ∃ v, valV kvs' k = some v ∧ RelD K ι H d v) ∧ ((kvs.find? (fun kv => decide (kv.1 = k))).map (·.2) = none → valV kvs' k = none)
  | [], [], _, k => ⟨fun d e => by simp at e, fun _ => rfl⟩
  | [], _ :: _, h, k => by have := h.1; simp at this
  | _ :: _, [], h, k => by have := h.1; simp at this
  | (k1, d1) :: r, (k2, v2) :: r', h, k => by
    obtain ⟨e, q⟩ := h
    simp only [List.map_cons] at e q
    cases q with
    | cons q1 q2 =>
      obtain ⟨rfl, e'⟩ := List.cons.inj e
      have ih := RelKs.val (kvs := r) (kvs' := r') ⟨e', q2⟩ k
      unfold valV at ih ⊢
      by_cases hk : k1 = k
      · subst hk
        simp only [List.find?_cons, decide_true]
        exact ⟨fun d e => by cases e; exact ⟨v2, rfl, q1⟩, fun e => by cases e⟩
      · simp only [List.find?_cons, hk, decide_false]
        exact ih
/-- a dict's value at a key -/
def valD (kvs : List (Key × D)) (k : Key) : Option D := (kvs.find? (fun kv => decide (kv.1 = k))).map (·.2)
def putD (kvs : List (Key × D)) (k : Key) (v : D) : List (Key × D) :=
  if (kvs.any fun kv => decide (kv.fst = k)) = true then kvs.map (fun kv => if kv.fst = k then (kv.fst, v) else kv) else kvs ++ [(k, v)]
theorem RelKs.put {K : PySem.W.Frag} {ι : List Addr} {H : Hp} {kvs : List (Key × D)} {kvs' : List (Key × V)} (h : RelKs K ι H kvs kvs') (k : Key) {d : D} {v : V} (r : RelD K ι H d v) : RelKs K ι H (putD kvs k d) (putK kvs' k v) := by
  have hany : (kvs.any fun kv => decide (kv.fst = k)) = (kvs'.any fun kv => decide (kv.fst = k)) := by
    have : ∀ (l : List (Key × D)) (l' : List (Key × V)), l.map (·.1) = l'.map (·.1) → (l.any fun kv => decide (kv.fst = k)) = (l'.any fun kv => decide (kv.fst = k)) := by
      intro l
      induction l with
      | nil => intro l' e; cases l' with | nil => rfl | cons _ _ => simp at e
      | cons x r ih => intro l' e; cases l' with
        | nil => simp at e
        | cons y r' => simp only [List.map_cons, List.cons.injEq] at e; simp only [List.any_cons, e.1, ih r' e.2]
    exact this _ _ h.1
  have hmap : ∀ (l : List (Key × D)) (l' : List (Key × V)), RelKs K ι H l l' → RelKs K ι H (l.map (fun kv => if kv.fst = k then (kv.fst, d) else kv)) (l'.map (fun kv => if kv.fst = k then (kv.fst, v) else kv)) := by
    intro l
    induction l with
    | nil => intro l' e; cases l' with | nil => exact e | cons _ _ => have := e.1; simp at this
    | cons x rr ih => intro l' e; cases l' with
      | nil => have := e.1; simp at this
      | cons y r' =>
        obtain ⟨e1, e2⟩ := e
        simp only [List.map_cons] at e1 e2
        obtain ⟨ek, e1⟩ := List.cons.inj e1
        cases e2 with
        | cons q1 q2 =>
          obtain ⟨i1, i2⟩ := ih r' ⟨e1, q2⟩
          refine ⟨?_, ?_⟩
          · simp only [List.map_cons]
            rw [i1, ek]
            split <;> simp [ek]
          · simp only [List.map_cons]
            rw [ek]
            split
            · exact .cons r i2
            · exact .cons q1 i2
  unfold putD putK
  rw [hany]
  split
  · exact hmap _ _ h
  · refine ⟨by simp [h.1], ?_⟩
    simp only [List.map_append, List.map_cons, List.map_nil]
    exact h.2.append (.cons r .nil)
theorem RelKs.length {K : PySem.W.Frag} {ι : List Addr} {H : Hp} {kvs : List (Key × D)} {kvs' : List (Key × V)} (h : RelKs K ι H kvs kvs') : kvs.length = kvs'.length := by
  have := h.2.length
  simpa using this
end Mir

set_option Elab.async false
set_option linter.all false
set_option maxRecDepth 100000
set_option maxHeartbeats 4000000
namespace Mir
open PySem PySem.Spec L2
variable {X : Cx} {a b c e : Expr} {pos : Pos} {ma mb mc : mE} {K : PySem.W.Frag}

/-! ### t + u, any tuples -/
def rCatA (K : PySem.W.Frag) : R2 := fun x y H Q => ∃ a b xs ys, x = .ref a ∧ y = .ref b ∧ SqT K H a xs ∧ SqT K H b ys ∧ xs.length + ys.length ≤ sizeLine ∧
  (xs = [] → Q (.ref b) H) ∧ (ys = [] → Q (.ref a) H) ∧ ∀ p, H p = none → Q (.ref p) (upd H p (.tup (xs ++ ys)))
theorem op_catA : OpR X (binaryOp .Add) (rCatA X.K) := by
  intro pins s σ H x y v u Q I rx ry h
  obtain ⟨a, b, xs, ys, rfl, rfl, ha, hb, hz, q0, q1, q2⟩ := h
  cases rx
  cases ry
  by_cases hx : xs = []
  · obtain ⟨its, r1, p1, _⟩ := I.tuple ha
    obtain ⟨its2, r2, p2, _⟩ := I.tuple hb
    obtain ⟨⟨cls, dd, data, sl⟩, ho, hc, n, hd⟩ := id p1
    obtain ⟨⟨cls2, dd2, data2, sl2⟩, ho2, hc2, n2, hd2⟩ := id p2
    simp only at hc hd hc2 hd2
    subst hc hd hc2 hd2
    have hv : its = [] := r1.nil_iff.mpr hx
    exact PySem.concat_meets ⟨_, ho, rfl⟩ ⟨_, ho2, rfl⟩ noFill_tuple_add seq_tuple_add PySem.F.slot_tuple_add PySem.F.entry_tuple_add (PySem.F.args_tuple_add_2 _ _)
      (PyProof.Rows.tuple_addW0 a b its.toArray its2.toArray n n2 dd dd2 sl sl2 (by simp [hv])) ⟨ho, ho2, ⟨.ref b, H, I, rfl, q0 hx⟩⟩
  · exact op_catT pins s σ H (.ref a) (.ref b) _ _ Q I rfl rfl ⟨a, b, xs, ys, rfl, rfl, ha, hb, hx, hz, q1, fun _ => q2⟩

/-! ### + -/
def addD (x y : D) (M : Mem) : Option (D × Mem) := match x, y with
  | .int i, .int j => some (.int (i + j), M)
  | .str a, .str b => if a.length + b.length ≤ sizeLine then some (.str (a ++ b), M) else none
  | .tup xs, .tup ys => if xs.length + ys.length ≤ sizeLine then some (.tup (xs ++ ys), M) else none
  | .obj i, .obj j => match asLst M (.obj i), asLst M (.obj j) with
    | some (_, xs), some (_, ys) => if xs.length + ys.length ≤ sizeLine then some (.obj M.length, M ++ [.lst (xs ++ ys)]) else none
    | _, _ => none
  | _, _ => none
def rAdd (K : PySem.W.Frag) : R2 := fun x y H Q => (rI0 fun i j => .int (i + j)) x y H Q ∨ (∃ i j, x = .str i ∧ y = .str j ∧ i.length + j.length ≤ sizeLine ∧ Q (.str (i ++ j)) H) ∨ rCatA K x y H Q ∨ rCat x y H Q
theorem op_addA : OpR X (binaryOp .Add) (rAdd X.K) := op_add.or (op_add_str.or (op_catA.or op_cat))
theorem add_m : OpM K (rAdd K) addD := by
  intro ι H M x y vx vy d M' Q hm rx ry hf k
  unfold addD at hf
  split at hf
  · rename_i i j; cases hf; cases rx; cases ry
    exact .inl ⟨i, j, rfl, rfl, k ι H _ .refl hm (.int _)⟩
  · rename_i s t; split at hf
    · cases hf; cases rx; cases ry
      exact .inr (.inl ⟨s, t, rfl, rfl, by assumption, k ι H _ .refl hm (.str _)⟩)
    · cases hf
  · rename_i xs ys; split at hf
    · rename_i hz; cases hf
      cases rx with
      | tup h1 r1 =>
        cases ry with
        | tup h2 r2 =>
          refine .inr (.inr (.inl ⟨_, _, _, _, rfl, rfl, h1, h2, by rw [← r1.length, ← r2.length]; exact hz, fun z => ?_, fun z => ?_, got_tup hm (r1.append r2) k⟩))
          · subst z; cases r1; exact k ι H _ .refl hm (.tup h2 r2)
          · subst z; cases r2; rw [List.append_nil] at k; exact k ι H _ .refl hm (.tup h1 r1)
    · cases hf
  · rename_i i j
    split at hf
    · rename_i i1 xs i2 ys e1 e2; split at hf
      · rename_i hz; cases hf
        obtain ⟨_, _, p1, v1, rfl, _, h1, r1⟩ := asLst_rel hm e1 rx
        obtain ⟨_, _, p2, v2, rfl, _, h2, r2⟩ := asLst_rel hm e2 ry
        exact .inr (.inr (.inr ⟨p1, p2, v1, v2, rfl, rfl, h1, h2, by rw [← r1.length, ← r2.length]; exact hz, got_lst hm (r1.append r2) k⟩))
      · cases hf
    · cases hf
  · cases hf
theorem me_add (ha : PE X a (tM X.K ma)) (hb : PE X b (tM X.K mb)) : PE X (.BinOp a .Add b pos) (tM X.K (mBin addD ma mb)) := me_bin op_addA add_m ha hb

/-! ### ints -/
def intD (C : Int → Int → Bool) (g : Int → Int → D) (x y : D) (M : Mem) : Option (D × Mem) := match x, y with
  | .int i, .int j => if C i j = true then some (g i j, M) else none
  | _, _ => none
theorem int_m {C : Int → Int → Bool} {P : Int → Int → Prop} {g : Int → Int → D} {h : Int → Int → V} (hC : ∀ i j, C i j = true → P i j) (hg : ∀ ι H i j, RelD K ι H (g i j) (h i j)) : OpM K (rI P h) (intD C g) := by
  intro ι H M x y vx vy d M' Q hm rx ry hf k
  unfold intD at hf
  split at hf
  · split at hf
    · rename_i i j hc; cases hf; cases rx; cases ry
      exact ⟨i, j, rfl, rfl, hC _ _ hc, k ι H _ .refl hm (hg _ _ _ _)⟩
    · cases hf
  · cases hf
def yesC : Int → Int → Bool := fun _ _ => true
theorem int0_m {g : Int → Int → D} {h : Int → Int → V} (hg : ∀ ι H i j, RelD K ι H (g i j) (h i j)) : OpM K (rI0 h) (intD yesC g) := by
  intro ι H M x y vx vy d M' Q hm rx ry hf k
  obtain ⟨i, j, e1, e2, _, q⟩ := int_m (P := fun _ _ => True) (C := yesC) (fun _ _ _ => trivial) hg ι H M x y vx vy d M' Q hm rx ry hf k
  exact ⟨i, j, e1, e2, q⟩
def subD := intD yesC fun i j => .int (i - j)
theorem me_sub (ha : PE X a (tM X.K ma)) (hb : PE X b (tM X.K mb)) : PE X (.BinOp a .Sub b pos) (tM X.K (mBin subD ma mb)) := me_bin op_sub (int0_m fun _ _ _ _ => .int _) ha hb
def mulOk (a b : Int) : Bool := !(decide (Builtin.Int.intBits a > shortFactorBits) && decide (Builtin.Int.intBits b > shortFactorBits) && Builtin.Int.intTooBig (↑(Builtin.Int.intBits a) + ↑(Builtin.Int.intBits b)))
theorem op_mulA : OpR X (binaryOp .Mult) (rI IntMulOk fun i j => .int (i * j)) := opI fun _ _ _ _ _ _ _ hc q => PyProof.Rows.mul_int q hc
def mulD (x y : D) (M : Mem) : Option (D × Mem) := match x, y with
  | .int i, .int j => if mulOk i j = true then some (.int (i * j), M) else none
  | .obj i, .int k => match asLst M (.obj i) with
    | some (_, xs) => if -(2 ^ 63) ≤ k ∧ k < 2 ^ 63 ∧ xs.length * k.toNat ≤ sizeLine then some (.obj M.length, M ++ [.lst (List.replicate k.toNat xs).flatten]) else none
    | none => none
  | _, _ => none
theorem RelDs.rep {ι : List Addr} {H : Hp} {xs : List D} {us : List V} (h : RelDs K ι H xs us) : ∀ k : Nat, RelDs K ι H (List.replicate k xs).flatten (List.replicate k us).flatten
  | 0 => .nil
  | k + 1 => by
    rw [List.replicate_succ, List.replicate_succ, List.flatten_cons, List.flatten_cons]
    exact h.append (RelDs.rep h k)
theorem mul_m : OpM K (fun x y H Q => (rI IntMulOk fun i j => .int (i * j)) x y H Q ∨ rRep x y H Q) mulD := by
  intro ι H M x y vx vy d M' Q hm rx ry hf k
  unfold mulD at hf
  split at hf
  · split at hf
    · rename_i i j hc; cases hf; cases rx; cases ry
      refine .inl ⟨i, j, rfl, rfl, ?_, k ι H _ .refl hm (.int _)⟩
      unfold IntMulOk
      unfold mulOk at hc
      intro z
      rw [z] at hc
      cases hc
    · cases hf
  · rename_i i k'
    split at hf
    · rename_i i1 xs e1; split at hf
      · rename_i hz; cases hf
        obtain ⟨_, _, p1, v1, rfl, _, h1, r1⟩ := asLst_rel hm e1 rx
        cases ry
        exact .inr ⟨p1, k', v1, rfl, rfl, h1, hz.1, hz.2.1, by rw [← r1.length]; exact hz.2.2, got_lst hm (r1.rep _) k⟩
      · cases hf
    · cases hf
  · cases hf
theorem me_mul (ha : PE X a (tM X.K ma)) (hb : PE X b (tM X.K mb)) : PE X (.BinOp a .Mult b pos) (tM X.K (mBin mulD ma mb)) := me_bin (op_mulA.or op_rep) mul_m ha hb
theorem op_fdivA : OpR X (binaryOp .FloorDiv) (rI (fun i j => j ≠ 0 ∧ Builtin.divisionGoesByPylong i j = false) fun i j => .int (i.fdiv j)) := opI fun _ _ _ _ _ _ _ hc q => PyProof.Rows.floordiv_int hc.1 q (.inl hc.2)
def fdivOk (i j : Int) : Bool := decide (j ≠ 0) && !Builtin.divisionGoesByPylong i j
def fdivD := intD fdivOk fun i j => .int (i.fdiv j)
theorem me_fdiv (ha : PE X a (tM X.K ma)) (hb : PE X b (tM X.K mb)) : PE X (.BinOp a .FloorDiv b pos) (tM X.K (mBin fdivD ma mb)) :=
  me_bin op_fdivA (int_m (fun i j h => by unfold fdivOk at h; simpa using h) fun _ _ _ _ => .int _) ha hb
def modOk (i j : Int) : Bool := decide (j ≠ 0)
def modD := intD modOk fun i j => .int (i.fmod j)
theorem me_mod (ha : PE X a (tM X.K ma)) (hb : PE X b (tM X.K mb)) : PE X (.BinOp a .Mod b pos) (tM X.K (mBin modD ma mb)) :=
  me_bin op_modN (int_m (fun i j h => by unfold modOk at h; simpa using h) fun _ _ _ _ => .int _) ha hb
def powOk (i j : Int) : Bool := decide (0 ≤ j) && decide (j ≤ 1000000) && decide (i.natAbs < 2 ^ 64)
def powD := intD powOk fun i j => .int (i ^ j.toNat)
theorem me_pow (ha : PE X a (tM X.K ma)) (hb : PE X b (tM X.K mb)) : PE X (.BinOp a .Pow b pos) (tM X.K (mBin powD ma mb)) :=
  me_bin op_pow (int_m (fun i j h => by unfold powOk at h; simp only [Bool.and_eq_true, decide_eq_true_eq] at h; exact ⟨h.1.1, h.1.2, h.2⟩) fun _ _ _ _ => .int _) ha hb
def mNeg (m : mE) : mE := fun δ M => match m δ M with
  | some (.int i, M') => some (.int (-i), M')
  | _ => none
theorem me_neg (ha : PE X a (tM X.K ma)) : PE X (.UnaryOp .USub a pos) (tM X.K (mNeg ma)) := PE.imp (pe_un un_neg ha) fun σ H Q ⟨ι, δ, M, d, M', hs, hm, he, k⟩ => by
  unfold mNeg at he
  split at he
  · rename_i i M1 e1; cases he
    refine ⟨ι, δ, M, _, _, hs, hm, e1, fun ι' H' v l m r => ?_⟩
    cases r
    exact ⟨i, rfl, k ι' H' _ l m (.int _)⟩
  · cases he

/-! ### == and != -/
def pd (M : Mem) : Nat → D → Option PyData
  | _, .non => some .none
  | _, .bl b => some (.bool b)
  | _, .int i => some (.int i)
  | _, .str x => some (.str x)
  | n + 1, .tup xs => (xs.mapM (pd M n)).map .tuple
  | n + 1, .obj i => (asList M (.obj i)).bind fun xs => (xs.mapM (pd M n)).map .list
  | n + 1, .rol xs => (xs.mapM (pd M n)).map .list
  | _, .ty _ => none
  | 0, _ => none
theorem mapM_dp {ι : List Addr} {H : Hp} {f : D → Option PyData} : ∀ {xs : List D} {vs : List V} {ds : List PyData}, (∀ x ∈ xs, ∀ v p, RelD K ι H x v → f x = some p → Dp K H v p) → RelDs K ι H xs vs → xs.mapM f = some ds → DpAll K H vs ds
  | [], _, ds, _, r, e => by cases r; simp at e; subst e; exact .nil
  | x :: xs, _, ds, hf, r, e => by
    cases r with
    | cons r1 r2 =>
      rw [List.mapM_cons] at e
      cases e1 : f x with
      | none => rw [e1] at e; cases e
      | some p =>
        rw [e1] at e
        cases e2 : xs.mapM f with
        | none => rw [e2] at e; cases e
        | some q =>
          rw [e2] at e
          cases e
          exact .cons (hf x List.mem_cons_self _ _ r1 e1) (mapM_dp (fun y hy => hf y (List.mem_cons_of_mem _ hy)) r2 e2)
theorem pd_dp {ι : List Addr} {H : Hp} {M : Mem} (hm : RelM K ι H M) : ∀ (n : Nat) (d : D) (v : V) (p : PyData), RelD K ι H d v → pd M n d = some p → Dp K H v p := by
  intro n
  induction n with
  | zero =>
    intro d v p r e
    cases r <;> simp [pd] at e <;> subst e
    · exact .non
    · exact .bl _
    · exact .int _
    · exact .str _
  | succ n ih =>
    intro d v p r e
    cases r with
    | non => simp [pd] at e; subst e; exact .non
    | bl b => simp [pd] at e; subst e; exact .bl _
    | int i => simp [pd] at e; subst e; exact .int _
    | str x => simp [pd] at e; subst e; exact .str _
    | @tup a xs vs h1 r1 =>
      simp only [pd] at e
      cases e1 : xs.mapM (pd M n) with
      | none => rw [e1] at e; cases e
      | some q => rw [e1] at e; cases e; exact .tup h1 (mapM_dp (fun x _ v p r e => ih x v p r e) r1 e1)
    | ty n => simp [pd] at e
    | @rol a xs vs h1 r1 =>
      simp only [pd] at e
      cases e1 : xs.mapM (pd M n) with
      | none => rw [e1] at e; cases e
      | some q => rw [e1] at e; cases e; exact .lst h1.sq (mapM_dp (fun x _ v p r e => ih x v p r e) r1 e1)
    | @obj i a hi =>
      simp only [pd] at e
      cases e0 : asList M (.obj i) with
      | none => rw [e0] at e; cases e
      | some xs =>
        rw [e0] at e
        have e : (xs.mapM (pd M n)).map PyData.list = some p := e
        cases e1 : xs.mapM (pd M n) with
        | none => rw [e1] at e; cases e
        | some q =>
          rw [e1] at e; cases e
          obtain ⟨p, vs, ev, h1, r1⟩ := asList_rel hm e0 (.obj hi)
          cases ev
          exact .lst h1 (mapM_dp (fun x _ v p r e => ih x v p r e) r1 e1)
/-- the data of both, if they can be compared -/
def eqB (M : Mem) (x y : D) : Option Bool := (pd M 64 x).bind fun p => (pd M 64 y).bind fun q => if SeqAt.shaped p = true ∧ SeqAt.shaped q = true then some (PyData.eqv p q) else none
theorem eqB_some {M : Mem} {x y : D} {b : Bool} (h : eqB M x y = some b) : ∃ p q, pd M 64 x = some p ∧ pd M 64 y = some q ∧ SeqAt.shaped p = true ∧ SeqAt.shaped q = true ∧ b = PyData.eqv p q := by
  unfold eqB at h
  cases e1 : pd M 64 x with
  | none => rw [e1] at h; cases h
  | some p =>
    rw [e1] at h
    cases e2 : pd M 64 y with
    | none => rw [e2] at h; cases h
    | some q =>
      rw [e2] at h
      have h : (if SeqAt.shaped p = true ∧ SeqAt.shaped q = true then some (PyData.eqv p q) else none) = some b := h
      split at h
      · rename_i hs; cases h; exact ⟨p, q, rfl, rfl, hs.1, hs.2, rfl⟩
      · cases h
def eqD (x y : D) (M : Mem) : Option (D × Mem) := (eqB M x y).map fun b => (.bl b, M)
def neD (x y : D) (M : Mem) : Option (D × Mem) := (eqB M x y).map fun b => (.bl (!b), M)
theorem eq_m : OpM K (rEqD K) eqD := by
  intro ι H M x y vx vy d M' Q hm rx ry hf k
  unfold eqD at hf
  cases e : eqB M x y with
  | none => rw [e] at hf; cases hf
  | some b =>
    rw [e] at hf; cases hf
    obtain ⟨p, q, e1, e2, s1, s2, rfl⟩ := eqB_some e
    exact ⟨p, q, pd_dp hm _ _ _ _ rx e1, pd_dp hm _ _ _ _ ry e2, s1, s2, k ι H _ .refl hm (.bl _)⟩
theorem ne_m : OpM K (rNeD K) neD := by
  intro ι H M x y vx vy d M' Q hm rx ry hf k
  unfold neD at hf
  cases e : eqB M x y with
  | none => rw [e] at hf; cases hf
  | some b =>
    rw [e] at hf; cases hf
    obtain ⟨p, q, e1, e2, s1, s2, rfl⟩ := eqB_some e
    exact ⟨p, q, pd_dp hm _ _ _ _ rx e1, pd_dp hm _ _ _ _ ry e2, s1, s2, k ι H _ .refl hm (.bl _)⟩
theorem mt_eq (hu : X.A.units + 64 < cLine) (ha : PE X a (tM X.K ma)) (hb : PE X b (tM X.K mb)) : PT X (.Compare a [.Eq] [b] pos) (tMT X.K (mB (mBin eqD ma mb))) := mt_cmp (op_eqD hu) eq_m ha hb (nomark _)
theorem me_ne (hu : X.A.units + 64 < cLine) (ha : PE X a (tM X.K ma)) (hb : PE X b (tM X.K mb)) : PE X (.Compare a [.NotEq] [b] pos) (tM X.K (mBin neD ma mb)) := me_cmp (op_neD hu) ne_m ha hb (nomark _)
theorem mt_ne (hu : X.A.units + 64 < cLine) (ha : PE X a (tM X.K ma)) (hb : PE X b (tM X.K mb)) : PT X (.Compare a [.NotEq] [b] pos) (tMT X.K (mB (mBin neD ma mb))) := mt_cmp (op_neD hu) ne_m ha hb (nomark _)

/-! ### <, <=, >, >= of ints and texts -/
def ordD (f : Int → Int → Bool) (g : Str → Str → Bool) (x y : D) (M : Mem) : Option (D × Mem) := match x, y with
  | .int i, .int j => some (.bl (f i j), M)
  | .str i, .str j => some (.bl (g i j), M)
  | _, _ => none
theorem ord_m {f : Int → Int → Bool} {g : Str → Str → Bool} : OpM K (fun x y H Q => (rI0 fun i j => .bl (f i j)) x y H Q ∨ (∃ i j, x = .str i ∧ y = .str j ∧ Q (.bl (g i j)) H)) (ordD f g) := by
  intro ι H M x y vx vy d M' Q hm rx ry hf k
  unfold ordD at hf
  split at hf
  · rename_i i j; cases hf; cases rx; cases ry; exact .inl ⟨i, j, rfl, rfl, k ι H _ .refl hm (.bl _)⟩
  · rename_i i j; cases hf; cases rx; cases ry; exact .inr ⟨i, j, rfl, rfl, k ι H _ .refl hm (.bl _)⟩
  · cases hf
def ltD := ordD (fun i j => decide (i < j)) (fun i j => decide (i.cps.toList < j.cps.toList))
def leD := ordD (fun i j => decide (i ≤ j)) (fun i j => !decide (j.cps.toList < i.cps.toList))
def gtD := ordD (fun i j => decide (j < i)) (fun i j => decide (j.cps.toList < i.cps.toList))
def geD := ordD (fun i j => decide (j ≤ i)) (fun i j => !decide (i.cps.toList < j.cps.toList))
theorem mt_lt (ha : PE X a (tM X.K ma)) (hb : PE X b (tM X.K mb)) : PT X (.Compare a [.Lt] [b] pos) (tMT X.K (mB (mBin ltD ma mb))) := mt_cmp (op_lt.or op_lt_str) ord_m ha hb (nomark _)
theorem mt_gt (ha : PE X a (tM X.K ma)) (hb : PE X b (tM X.K mb)) : PT X (.Compare a [.Gt] [b] pos) (tMT X.K (mB (mBin gtD ma mb))) := mt_cmp (op_gt.or op_gt_str) ord_m ha hb (nomark _)
theorem mt_ge (ha : PE X a (tM X.K ma)) (hb : PE X b (tM X.K mb)) : PT X (.Compare a [.GtE] [b] pos) (tMT X.K (mB (mBin geD ma mb))) := mt_cmp (op_ge.or op_ge_str) ord_m ha hb (nomark _)
end Mir

set_option Elab.async false
set_option linter.all false
set_option maxRecDepth 100000
set_option maxHeartbeats 4000000
namespace Mir
open PySem PySem.Spec L2
variable {X : Cx} {a b c e : Expr} {es rest : List Expr} {pos : Pos} {ma mb mc me : mE} {K : PySem.W.Frag} {ta tb : mT} {mr : mA}

/-! ### truth -/
def truB (M : Mem) : D → Option Bool
  | .non => some false
  | .bl b => some b
  | .int i => some (i != 0)
  | .str x => if x.length ≤ sizeLine then some ((x.length : Int) != 0) else none
  | .tup xs => some (!xs.isEmpty)
  | .obj i => match M[i]? with
    | some (.lst xs) => some (!xs.isEmpty)
    | some (.dic xs) => some (!xs.isEmpty)
    | _ => none
  | .rol xs => some (!xs.isEmpty)
  | .ty _ => none
theorem RelDs.empty {ι : List Addr} {H : Hp} {xs : List D} {vs : List V} (r : RelDs K ι H xs vs) : xs.isEmpty = vs.isEmpty := by cases r <;> rfl
theorem tru_rel {ι : List Addr} {H : Hp} {M : Mem} {d : D} {v : V} {k : Bool} (hm : RelM K ι H M) (r : RelD K ι H d v) (h : truB M d = some k) : TruV K v H k := by
  cases r with
  | non => cases h; rfl
  | bl b => cases h; rfl
  | int i => cases h; rfl
  | str x =>
    simp only [truB] at h
    split at h
    · rename_i hz; cases h; exact ⟨hz, rfl⟩
    · cases h
  | tup h1 r1 => cases h; exact .inr (.inl ⟨_, h1, by rw [r1.empty]⟩)
  | @obj i a hi =>
    simp only [truB] at h
    split at h
    · rename_i xs e; cases h
      obtain ⟨p, hp, vs, e1, e2⟩ := hm.at e
      rw [hi] at hp; cases hp
      exact .inl ⟨vs, .of e1, by rw [e2.empty]⟩
    · rename_i xs e; cases h
      obtain ⟨p, hp, vs, e1, e2⟩ := hm.at e
      rw [hi] at hp; cases hp
      refine .inr (.inr ⟨vs, e1, ?_⟩)
      have := e2.length
      cases xs <;> cases vs <;> simp_all
    · cases h
  | rol h1 r1 => cases h; exact .inl ⟨_, h1.sq, by rw [r1.empty]⟩
  | ty n => cases h
def mTru (m : mE) : mT := fun δ M => (m δ M).bind fun r => (truB r.2 r.1).map fun b => (b, r.2)
theorem mt_truth (ha : PE X a (tM X.K ma)) (hw : ∀ whole : Sem Value, PySem.isTrue a X.env whole = (do let v ← whole; standAt a.pos; holding [v] (truthy v))) : PT X a (tMT X.K (mTru ma)) :=
  PT.imp (pt_truth ha hw) fun σ H Q ⟨ι, δ, M, d, M', hs, hm, he, k⟩ => by
    unfold mTru at he
    cases e1 : ma δ M with
    | none => rw [e1] at he; cases he
    | some r =>
      rw [e1] at he
      have he : (truB r.2 r.1).map (fun b => (b, r.2)) = some (d, M') := he
      cases e2 : truB r.2 r.1 with
      | none => rw [e2] at he; cases he
      | some k' =>
        rw [e2] at he; cases he
        exact ⟨ι, δ, M, r.1, r.2, hs, hm, e1, fun ι' H' v l m r => ⟨d, tru_rel m r e2, k ι' H' l m⟩⟩

/-! ### and, or, not, if: tests -/
def mAnd (ta tb : mT) : mT := fun δ M => (ta δ M).bind fun r => if r.1 = true then tb δ r.2 else some (false, r.2)
def mOr (ta tb : mT) : mT := fun δ M => (ta δ M).bind fun r => if r.1 = true then some (true, r.2) else tb δ r.2
def mNot (ta : mT) : mT := fun δ M => (ta δ M).map fun r => (!r.1, r.2)
theorem mw_and1 (ha : PT X a (tMT X.K ta)) : PW X (.BoolOp .And [a] pos) (tMT X.K ta) := pw_and1 ha
theorem mw_or1 (ha : PT X a (tMT X.K ta)) : PW X (.BoolOp .Or [a] pos) (tMT X.K ta) := pw_or1 ha
theorem mw_and (ha : PT X a (tMT X.K ta)) (hb : PW X (.BoolOp .And (b :: rest) pos) (tMT X.K tb)) : PW X (.BoolOp .And (a :: b :: rest) pos) (tMT X.K (mAnd ta tb)) :=
  PW.imp (pw_and ha hb) fun σ H Q ⟨ι, δ, M, d, M', hs, hm, he, k⟩ => by
    unfold mAnd at he
    cases e1 : ta δ M with
    | none => rw [e1] at he; cases he
    | some r =>
      rw [e1] at he
      have he : (if r.1 = true then tb δ r.2 else some (false, r.2)) = some (d, M') := he
      refine ⟨ι, δ, M, r.1, r.2, hs, hm, e1, fun ι' H' l m => ?_⟩
      split at he
      · rename_i h; simp only [h, if_true]
        exact ⟨ι', δ, r.2, d, M', hs.mono l, m, he, fun ι2 H2 l2 m2 => k ι2 H2 (l.trans l2) m2⟩
      · rename_i h; simp only [h]; cases he; exact k ι' H' l m
theorem mw_or (ha : PT X a (tMT X.K ta)) (hb : PW X (.BoolOp .Or (b :: rest) pos) (tMT X.K tb)) : PW X (.BoolOp .Or (a :: b :: rest) pos) (tMT X.K (mOr ta tb)) :=
  PW.imp (pw_or ha hb) fun σ H Q ⟨ι, δ, M, d, M', hs, hm, he, k⟩ => by
    unfold mOr at he
    cases e1 : ta δ M with
    | none => rw [e1] at he; cases he
    | some r =>
      rw [e1] at he
      have he : (if r.1 = true then some (true, r.2) else tb δ r.2) = some (d, M') := he
      refine ⟨ι, δ, M, r.1, r.2, hs, hm, e1, fun ι' H' l m => ?_⟩
      split at he
      · rename_i h; simp only [h, if_true]; cases he; exact k ι' H' l m
      · rename_i h; simp only [h]
        exact ⟨ι', δ, r.2, d, M', hs.mono l, m, he, fun ι2 H2 l2 m2 => k ι2 H2 (l.trans l2) m2⟩
theorem mt_not (ha : PT X a (tMT X.K ta)) : PT X (.UnaryOp .Not a pos) (tMT X.K (mNot ta)) :=
  PT.imp (pt_not ha) fun σ H Q ⟨ι, δ, M, d, M', hs, hm, he, k⟩ => by
    unfold mNot at he
    cases e1 : ta δ M with
    | none => rw [e1] at he; cases he
    | some r => rw [e1] at he; cases he; exact ⟨ι, δ, M, r.1, r.2, hs, hm, e1, k⟩
/-! as values -/
def mAndV (ma mb : mE) : mE := fun δ M => match ma δ M with
  | some (.bl true, M1) => mb δ M1
  | some (.bl false, M1) => some (.bl false, M1)
  | _ => none
def mOrV (ma mb : mE) : mE := fun δ M => match ma δ M with
  | some (.bl true, M1) => some (.bl true, M1)
  | some (.bl false, M1) => mb δ M1
  | _ => none
def mNotV (ma : mE) : mE := fun δ M => match ma δ M with
  | some (.bl b, M1) => some (.bl (!b), M1)
  | _ => none
def mIfE (t : mT) (ma mb : mE) : mE := fun δ M => (t δ M).bind fun r => if r.1 = true then ma δ r.2 else mb δ r.2
/-! ### arguments, displays -/
def mNil : mA := fun _ M => some ([], M)
def mCons (m : mE) (r : mA) : mA := fun δ M => (m δ M).bind fun x => (r δ x.2).map fun y => (x.1 :: y.1, y.2)
theorem ma_nil : PA X [] (tMA X.K mNil) := PA.imp pa_nil fun σ H Q ⟨ι, δ, M, d, M', hs, hm, he, k⟩ => by cases he; exact k ι H [] .refl hm .nil
theorem ma_cons (he : PE X e (tM X.K me)) (hr : PA X es (tMA X.K mr)) (hs : starEach (e :: es) X.env = (false, eval e X.env) :: starEach es X.env := by rfl) : PA X (e :: es) (tMA X.K (mCons me mr)) :=
  PA.imp (pa_cons he hr hs) fun σ H Q ⟨ι, δ, M, d, M', hs, hm, he, k⟩ => by
    unfold mCons at he
    cases e1 : me δ M with
    | none => rw [e1] at he; cases he
    | some x =>
      rw [e1] at he
      have he : (mr δ x.2).map (fun y => (x.1 :: y.1, y.2)) = some (d, M') := he
      cases e2 : mr δ x.2 with
      | none => rw [e2] at he; cases he
      | some y =>
        rw [e2] at he; cases he
        exact ⟨ι, δ, M, x.1, x.2, hs, hm, e1, fun ι1 H1 v l1 m1 r1 => ⟨ι1, δ, x.2, y.1, y.2, hs.mono l1, m1, e2, fun ι2 H2 vs l2 m2 r2 => k ι2 H2 _ (l1.trans l2) m2 (.cons (r1.mono l2) r2)⟩⟩
def mTup (m : mA) : mE := fun δ M => (m δ M).bind fun r => if r.1.length ≤ sizeLine then some (.tup r.1, r.2) else none
def mLst (m : mA) : mE := fun δ M => (m δ M).bind fun r => if r.1.length ≤ sizeLine then some (.obj r.2.length, r.2 ++ [.lst r.1]) else none
theorem me_tup {x1} (h : PA X es (tMA X.K mr)) : PE X (.Tuple es x1 pos) (tM X.K (mTup mr)) := PE.imp (pe_tup h) fun σ H Q ⟨ι, δ, M, d, M', hs, hm, he, k⟩ => by
  unfold mTup at he
  cases e1 : mr δ M with
  | none => rw [e1] at he; cases he
  | some r =>
    rw [e1] at he
    have he : (if r.1.length ≤ sizeLine then some (D.tup r.1, r.2) else none) = some (d, M') := he
    split at he
    · rename_i hz; cases he
      exact ⟨ι, δ, M, r.1, r.2, hs, hm, e1, fun ι1 H1 vs l1 m1 r1 => ⟨by rw [← r1.length]; exact hz, got_tup m1 r1 fun ι2 H2 v l2 m2 r2 => k ι2 H2 v (l1.trans l2) m2 r2⟩⟩
    · cases he
theorem me_lst (h : PA X es (tMA X.K mr)) : PE X (.List es pos) (tM X.K (mLst mr)) := PE.imp (pe_lst h) fun σ H Q ⟨ι, δ, M, d, M', hs, hm, he, k⟩ => by
  unfold mLst at he
  cases e1 : mr δ M with
  | none => rw [e1] at he; cases he
  | some r =>
    rw [e1] at he
    have he : (if r.1.length ≤ sizeLine then some (D.obj r.2.length, r.2 ++ [MO.lst r.1]) else none) = some (d, M') := he
    split at he
    · rename_i hz; cases he
      exact ⟨ι, δ, M, r.1, r.2, hs, hm, e1, fun ι1 H1 vs l1 m1 r1 => ⟨by rw [← r1.length]; exact hz, got_lst m1 r1 fun ι2 H2 v l2 m2 r2 => k ι2 H2 v (l1.trans l2) m2 r2⟩⟩
    · cases he

/-! ### subscripts -/
theorem ix_dict (hu : X.A.units + 1 < cLine) : IxR X (fun x y H Q => ∃ a v, x = .ref a ∧ DGet H a y (some v) ∧ Q v H) := by
  intro value slice pins s σ H x y v u Q I rx ry h hs
  obtain ⟨p, z, rfl, g, q⟩ := h
  cases rx
  exact PyProof.Rows.tail_any (dict_typeIs I g) PySem.F.slot_dict_getitem.lookup (d_getItem hu I g ry fun w' s3 I3 rw' => ⟨z, H, I3, rw', q⟩) hs
theorem atI_rel {ι : List Addr} {H : Hp} {xs : List D} {vs : List V} {i : Int} {d : D} (r : RelDs K ι H xs vs) (h : atI xs i = some d) : ∃ v, atI vs i = some v ∧ RelD K ι H d v := by
  unfold atI at h ⊢
  rw [← r.length]
  cases e : ixN xs.length i with
  | none => rw [e] at h; cases h
  | some j =>
    rw [e] at h
    exact r.get h
def ixD (x y : D) (M : Mem) : Option (D × Mem) := match x, y with
  | .tup xs, .int i => (atI xs i).map fun d => (d, M)
  | .str z, .int i => if z.length ≤ sizeLine then (atI z.cps.toList i).map fun c => (.str ⟨#[c]⟩, M) else none
  | .rol xs, .int i => (atI xs i).map fun d => (d, M)
  | .obj k, y => match asList M (.obj k) with
    | some xs => match y with
      | .int i => (atI xs i).map fun d => (d, M)
      | _ => none
    | none => match asDict M (.obj k) with
      | some kvs => (keyD y).bind fun key => (valD kvs key).map fun d => (d, M)
      | none => none
  | _, _ => none
def rIxA (K : PySem.W.Frag) : R2 := fun x y H Q => rIx K x y H Q ∨ ∃ a v, x = .ref a ∧ DGet H a y (some v) ∧ Q v H
theorem ix_m : OpM K (rIxA K) ixD := by
  intro ι H M x y vx vy d M' Q hm rx ry hf k
  unfold ixD at hf
  split at hf
  · rename_i xs i
    cases e : atI xs i with
    | none => rw [e] at hf; cases hf
    | some d' =>
      rw [e] at hf; cases hf
      cases ry
      cases rx with
      | tup h1 r1 =>
        obtain ⟨v, ev, rv⟩ := atI_rel r1 e
        exact .inl (.inr (.inl ⟨_, _, i, v, rfl, rfl, h1, ev, k ι H v .refl hm rv⟩))
  · rename_i z i; split at hf
    · rename_i hz
      cases e : atI z.cps.toList i with
      | none => rw [e] at hf; cases hf
      | some c => rw [e] at hf; cases hf; cases rx; cases ry; exact .inl (.inr (.inr ⟨z, i, c, rfl, rfl, hz, e, k ι H _ .refl hm (.str _)⟩))
    · cases hf
  · rename_i xs i
    cases e : atI xs i with
    | none => rw [e] at hf; cases hf
    | some d' =>
      rw [e] at hf; cases hf
      cases ry
      cases rx with
      | rol h1 r1 =>
        obtain ⟨v, ev, rv⟩ := atI_rel r1 e
        exact .inl (.inl ⟨_, _, i, v, rfl, rfl, h1.sq, ev, k ι H v .refl hm rv⟩)
  · rename_i j
    split at hf
    · rename_i xs e0
      split at hf
      · rename_i i
        cases e : atI xs i with
        | none => rw [e] at hf; cases hf
        | some d' =>
          rw [e] at hf; cases hf
          cases ry
          obtain ⟨p, vs, rfl, h1, r1⟩ := asList_rel hm e0 rx
          obtain ⟨v, ev, rv⟩ := atI_rel r1 e
          exact .inl (.inl ⟨p, vs, i, v, rfl, rfl, h1, ev, k ι H v .refl hm rv⟩)
      · cases hf
    · split at hf
      · rename_i kvs e0
        cases e : keyD y with
        | none => rw [e] at hf; cases hf
        | some key =>
          rw [e] at hf
          have hf : (valD kvs key).map (fun d => (d, M)) = some (d, M') := hf
          cases e2 : valD kvs key with
          | none => rw [e2] at hf; cases hf
          | some d' =>
            rw [e2] at hf; cases hf
            obtain ⟨p, vs, rfl, h1, r1⟩ := asDict_rel hm e0 rx
            obtain ⟨v, ev, rv⟩ := (r1.val key).1 _ e2
            exact .inr ⟨p, v, rfl, .inl ⟨vs, key, h1, keyD_rel e ry, ev.symm⟩, k ι H v .refl hm rv⟩
      · cases hf
  · cases hf
theorem me_ix (hu : X.A.units + 1 < cLine) (ha : PE X a (tM X.K ma)) (hb : PE X b (tM X.K mb)) (hs : PlainIx b) : PE X (.Subscript a b pos) (tM X.K (mBin ixD ma mb)) :=
  PE.imp (pe_ix (ix_seq.or (ix_dict hu)) ha hb hs) fun _ _ _ h => op_imp ix_m h

/-! ### in, not in -/
def flatD : D → Bool
  | .tup _ => false
  | .obj _ => false
  | .rol _ => false
  | .ty _ => false
  | _ => true
def eqF : D → D → Bool
  | .non, .non => true
  | .bl a, .bl b => a == b
  | .bl a, .int b => (if a = true then 1 else 0) == b
  | .int a, .bl b => a == if b = true then 1 else 0
  | .int a, .int b => a == b
  | .str a, .str b => a == b
  | _, _ => false
theorem flat_rel {ι : List Addr} {H : Hp} {d : D} {v : V} (r : RelD K ι H d v) (h : flatD d = true) : flatV v = true := by cases r <;> first | rfl | cases h
theorem flats_rel {ι : List Addr} {H : Hp} : ∀ {ds : List D} {vs : List V}, RelDs K ι H ds vs → ds.all flatD = true → vs.all flatV = true
  | _, _, .nil, _ => rfl
  | _, _, .cons r t, h => by
    simp only [List.all_cons, Bool.and_eq_true] at h ⊢
    exact ⟨flat_rel r h.1, flats_rel t h.2⟩
theorem eqF_rel {ι : List Addr} {H : Hp} {d e : D} {v u : V} (r : RelD K ι H d v) (q : RelD K ι H e u) (h : flatD d = true) (h' : flatD e = true) : eqV v u = eqF d e := by
  cases r <;> cases q <;> first | rfl | cases h | cases h'
theorem inV_rel {ι : List Addr} {H : Hp} {x : D} {v : V} (rx : RelD K ι H x v) (hx : flatD x = true) : ∀ {ds : List D} {vs : List V}, RelDs K ι H ds vs → ds.all flatD = true → inV v vs = ds.any fun y => eqF y x
  | _, _, .nil, _ => rfl
  | _, _, .cons r t, h => by
    simp only [List.all_cons, Bool.and_eq_true] at h
    have ih := inV_rel rx hx t h.2
    unfold inV at ih ⊢
    simp only [List.any_cons, ih, eqF_rel r rx h.1 hx]
def asSeq (M : Mem) : D → Option (List D)
  | .tup xs => some xs
  | d => asList M d
theorem asSeq_rel {ι : List Addr} {H : Hp} {M : Mem} {d : D} {xs : List D} {v : V} (hm : RelM K ι H M) (h : asSeq M d = some xs) (r : RelD K ι H d v) : ∃ p vs, v = .ref p ∧ (SqL K H p vs ∨ SqT K H p vs) ∧ RelDs K ι H xs vs := by
  cases d with
  | tup ys =>
    cases h
    cases r with
    | tup h1 r1 => exact ⟨_, _, rfl, .inr h1, r1⟩
  | obj i => obtain ⟨p, vs, e, h1, r1⟩ := asList_rel hm (show asList M (.obj i) = some xs from h) r; exact ⟨p, vs, e, .inl h1, r1⟩
  | rol ys => obtain ⟨p, vs, e, h1, r1⟩ := asList_rel hm (show asList M (.rol ys) = some xs from h) r; exact ⟨p, vs, e, .inl h1, r1⟩
  | _ => cases h
def inB (x y : D) (M : Mem) : Option Bool := match asSeq M y with
  | some xs => if flatD x = true ∧ xs.all flatD = true then some (xs.any fun z => eqF z x) else none
  | none => match asDict M y with
    | some kvs => (keyD x).map fun key => (valD kvs key).isSome
    | none => none
def inD (x y : D) (M : Mem) : Option (D × Mem) := (inB x y M).map fun b => (.bl b, M)
def notInD (x y : D) (M : Mem) : Option (D × Mem) := (inB x y M).map fun b => (.bl (!b), M)
theorem op_inD (hu : X.A.units + 1 < cLine) : OpR X (compareOp .In) (fun x y H Q => ∃ a o, y = .ref a ∧ DGet H a x o ∧ Q (.bl o.isSome) H) := by
  intro pins s σ H x y v u Q I rx ry h
  obtain ⟨p, o, rfl, g, q⟩ := h
  cases ry
  exact d_in hu I g rx fun s3 I3 => ⟨.bl o.isSome, H, I3, rfl, q⟩
theorem op_notInD (hu : X.A.units + 1 < cLine) : OpR X (compareOp .NotIn) (fun x y H Q => ∃ a o, y = .ref a ∧ DGet H a x o ∧ Q (.bl (!o.isSome)) H) := by
  intro pins s σ H x y v u Q I rx ry h
  obtain ⟨p, o, rfl, g, q⟩ := h
  cases ry
  exact d_notIn hu I g rx fun s3 I3 => ⟨.bl (!o.isSome), H, I3, rfl, q⟩
theorem inB_rel {ι : List Addr} {H : Hp} {M : Mem} {x y : D} {vx vy : V} {b : Bool} (hm : RelM K ι H M) (rx : RelD K ι H x vx) (ry : RelD K ι H y vy) (h : inB x y M = some b) :
    (∃ p xs, vy = .ref p ∧ (SqL K H p xs ∨ SqT K H p xs) ∧ flatV vx = true ∧ xs.all flatV = true ∧ inV vx xs = b) ∨ ∃ a o, vy = .ref a ∧ DGet H a vx o ∧ o.isSome = b := by
  unfold inB at h
  split at h
  · rename_i xs e; split at h
    · rename_i hz; cases h
      obtain ⟨p, vs, rfl, h1, r1⟩ := asSeq_rel hm e ry
      exact .inl ⟨p, vs, rfl, h1, flat_rel rx hz.1, flats_rel r1 hz.2, inV_rel rx hz.1 r1 hz.2⟩
    · cases h
  · split at h
    · rename_i kvs e
      cases e1 : keyD x with
      | none => rw [e1] at h; cases h
      | some key =>
        rw [e1] at h; cases h
        obtain ⟨p, vs, rfl, h1, r1⟩ := asDict_rel hm e ry
        refine .inr ⟨p, valV vs key, rfl, .inl ⟨vs, key, h1, keyD_rel e1 rx, rfl⟩, ?_⟩
        cases e2 : valD kvs key with
        | none => rw [(r1.val key).2 e2]; simp [e2]
        | some d => obtain ⟨v, ev, _⟩ := (r1.val key).1 d e2; rw [ev]; simp [e2]
    · cases h
theorem in_m : OpM K (fun x y H Q => rIn K false x y H Q ∨ ∃ a o, y = .ref a ∧ DGet H a x o ∧ Q (.bl o.isSome) H) inD := by
  intro ι H M x y vx vy d M' Q hm rx ry hf k
  unfold inD at hf
  cases e : inB x y M with
  | none => rw [e] at hf; cases hf
  | some b =>
    rw [e] at hf; cases hf
    have kk : Q (.bl b) H := k ι H _ .refl hm (.bl _)
    rcases inB_rel hm rx ry e with ⟨p, xs, e1, h1, f1, f2, rfl⟩ | ⟨a, o, e1, g, rfl⟩
    · exact .inl ⟨p, xs, e1, h1, f1, f2, kk⟩
    · exact .inr ⟨a, o, e1, g, kk⟩
theorem notIn_m : OpM K (fun x y H Q => rIn K true x y H Q ∨ ∃ a o, y = .ref a ∧ DGet H a x o ∧ Q (.bl (!o.isSome)) H) notInD := by
  intro ι H M x y vx vy d M' Q hm rx ry hf k
  unfold notInD at hf
  cases e : inB x y M with
  | none => rw [e] at hf; cases hf
  | some b =>
    rw [e] at hf; cases hf
    have kk : Q (.bl (!b)) H := k ι H _ .refl hm (.bl _)
    rcases inB_rel hm rx ry e with ⟨p, xs, e1, h1, f1, f2, rfl⟩ | ⟨a, o, e1, g, rfl⟩
    · exact .inl ⟨p, xs, e1, h1, f1, f2, kk⟩
    · exact .inr ⟨a, o, e1, g, kk⟩
theorem mt_notin (hu : X.A.units + 1 < cLine) (ha : PE X a (tM X.K ma)) (hb : PE X b (tM X.K mb)) (hm : behindInMarks .NotIn b = false) : PT X (.Compare a [.NotIn] [b] pos) (tMT X.K (mB (mBin notInD ma mb))) := mt_cmp (op_notIn_seq.or (op_notInD hu)) notIn_m ha hb hm
end Mir

set_option Elab.async false
set_option linter.all false
set_option maxRecDepth 100000
set_option maxHeartbeats 4000000
namespace Mir
open PySem PySem.Spec L2
variable {X : Cx} {a b c e : Expr} {es rest : List Expr} {pos : Pos} {ma mb mc me : mE} {K : PySem.W.Frag} {ta tb : mT} {mr : mA} {st : Stmt} {sts : List Stmt} {m1 m2 : mS}

/-! ### blocks -/
def mSkip : mS := fun δ M => some (.nx δ, M)
def mSeq (m1 m2 : mS) : mS := fun δ M => (m1 δ M).bind fun r => match r.1 with
  | .nx δ' => m2 δ' r.2
  | f => some (f, r.2)
theorem ms_nil : PSs X [] (tMS X.K mSkip) := PSs.imp pss_nil fun E σ H ⟨ι, δ, M, f, M', hs, hm, he, k⟩ => by
  cases he
  exact k ι H .refl hm σ hs
theorem ms_one (h1 : PS X st (tMS X.K m1)) : PSs X [st] (tMS X.K m1) := pss_one h1
theorem ms_cons (h1 : PS X st (tMS X.K m1)) (h2 : PSs X sts (tMS X.K m2)) : PSs X (st :: sts) (tMS X.K (mSeq m1 m2)) := PSs.imp (pss_cons h1 h2) fun E σ H ⟨ι, δ, M, f, M', hs, hm, he, k⟩ => by
  unfold mSeq at he
  cases e1 : m1 δ M with
  | none => rw [e1] at he; cases he
  | some r =>
    obtain ⟨g, M1⟩ := r
    rw [e1] at he
    refine ⟨ι, δ, M, g, M1, hs, hm, e1, fun ι1 H1 l1 hm1 => ?_⟩
    cases g with
    | nx δ' => exact fun σ' hs' => ⟨ι1, δ', M1, f, M', hs', hm1, he, fun ι2 H2 l2 hm2 => k ι2 H2 (l1.trans l2) hm2⟩
    | rt d => cases he; exact k ι1 H1 l1 hm1
    | bk d => cases he; exact k ι1 H1 l1 hm1
    | ct d => cases he; exact k ι1 H1 l1 hm1
def mExpr (m : mE) : mS := fun δ M => (m δ M).map fun r => (.nx δ, r.2)
theorem ms_expr (he : PE X e (tM X.K me)) (hs : swapsWith e none pos.line X.env = pure false := by rfl) : PS X (.Expr e pos) (tMS X.K (mExpr me)) := PS.imp (ps_expr he hs) fun E σ H ⟨ι, δ, M, f, M', hs, hm, he, k⟩ => by
  unfold mExpr at he
  cases e1 : me δ M with
  | none => rw [e1] at he; cases he
  | some r => rw [e1] at he; cases he; exact ⟨ι, δ, M, r.1, r.2, hs, hm, e1, fun ι1 H1 v l1 hm1 _ => k ι1 H1 l1 hm1 σ (hs.mono l1)⟩
def mRet (m : mE) : mS := fun δ M => (m δ M).map fun r => (.rt r.1, r.2)
theorem ms_ret (he : PE X e (tM X.K me)) : PS X (.Return (some e) pos) (tMS X.K (mRet me)) := PS.imp (ps_ret he) fun E σ H ⟨ι, δ, M, f, M', hs, hm, he, k⟩ => by
  unfold mRet at he
  cases e1 : me δ M with
  | none => rw [e1] at he; cases he
  | some r => rw [e1] at he; cases he; exact ⟨ι, δ, M, r.1, r.2, hs, hm, e1, fun ι1 H1 v l1 hm1 r1 => k ι1 H1 l1 hm1 v r1⟩
def mIf (t : mT) (m1 m2 : mS) : mS := fun δ M => (t δ M).bind fun r => if r.1 = true then m1 δ r.2 else m2 δ r.2
theorem ms_if {sa sb : List Stmt} (hc : PT X c (tMT X.K ta)) (h1 : PSs X sa (tMS X.K m1)) (h2 : PSs X sb (tMS X.K m2)) : PS X (.If c sa sb pos) (tMS X.K (mIf ta m1 m2)) := PS.imp (ps_if hc h1 h2) fun E σ H ⟨ι, δ, M, f, M', hs, hm, he, k⟩ => by
  unfold mIf at he
  cases e1 : ta δ M with
  | none => rw [e1] at he; cases he
  | some r =>
    rw [e1] at he
    have he : (if r.1 = true then m1 δ r.2 else m2 δ r.2) = some (f, M') := he
    refine ⟨ι, δ, M, r.1, r.2, hs, hm, e1, fun ι' H' l m => ?_⟩
    split at he
    · rename_i h; simp only [h, if_true]
      exact ⟨ι', δ, r.2, f, M', hs.mono l, m, he, fun ι2 H2 l2 m2 => k ι2 H2 (l.trans l2) m2⟩
    · rename_i h; simp only [h]
      exact ⟨ι', δ, r.2, f, M', hs.mono l, m, he, fun ι2 H2 l2 m2 => k ι2 H2 (l.trans l2) m2⟩

/-! ### targets: a name, a tuple of names -/
def setAll {α : Type} (σ : List (Option α)) : List Nat → List α → List (Option α)
  | i :: is, x :: xs => setAll (σ.set i (some x)) is xs
  | _, _ => σ
theorem setAll_rel {ι : List Addr} {H : Hp} : ∀ {is : List Nat} {xs : List D} {vs : List V} {δ : DSt} {σ : St}, RelS K ι H δ σ → RelDs K ι H xs vs → RelS K ι H (setAll δ is xs) (setAll σ is vs)
  | [], xs, vs, δ, σ, h, r => by cases r <;> exact h
  | i :: is, _, _, δ, σ, h, .nil => h
  | i :: is, d :: ds, v :: vs, δ, σ, h, .cons r t => show RelS K ι H (setAll (δ.set i (some d)) is ds) (setAll (σ.set i (some v)) is vs) from setAll_rel (h.set r i) t
def wipeD (δ : DSt) : List Nat → DSt
  | [] => δ
  | i :: r => (wipeD δ r).set i none
abbrev mG := D → DSt → Option DSt
def gOne (i : Nat) : mG := fun d δ => some (δ.set i (some d))
def gMany (is : List Nat) : mG := fun d δ => match d with
  | .tup xs => if xs.length = is.length then some (setAll δ is xs) else none
  | _ => none
def tMG (K : PySem.W.Frag) (g : mG) (vs : List Nat) : TG := fun v σ H Q => ∃ ι δ d δ', RelS K ι H δ σ ∧ RelD K ι H d v ∧ g d δ = some δ' ∧ ∀ σ', RelS K ι H δ' σ' → wipe σ' vs = wipe σ vs → Q σ' H
theorem PG.imp {tg : Expr} {t t' : TG} (h : PG X tg t) (f : ∀ v σ H Q, t' v σ H Q → t v σ H Q) : PG X tg t' := fun pins s σ H v u Q I r q => h pins s σ H v u Q I r (f _ _ _ _ q)
theorem wipe_get (σ : St) (k : Nat) : ∀ vs : List Nat, (wipe σ vs)[k]? = if k ∈ vs then (σ[k]?).map (fun _ => none) else σ[k]?
  | [] => by simp [wipe]
  | j :: r => by
    show ((wipe σ r).set j none)[k]? = _
    have ih := wipe_get σ k r
    by_cases e : j = k
    · subst e
      rw [List.getElem?_set]
      simp only [if_true, List.mem_cons, true_or, wipe_length]
      cases h : σ[j]? with
      | none => rw [if_neg (by have := List.getElem?_eq_none_iff.mp h; omega)]; rfl
      | some x => rw [if_pos (List.getElem?_eq_some_iff.mp h).1]; rfl
    · rw [List.getElem?_set_ne e, ih]
      have : (k ∈ j :: r) ↔ k ∈ r := by simp [List.mem_cons, Ne.symm e]
      simp only [this]
theorem wipe_set {i : Nat} {v : Option V} {vs : List Nat} {σ : St} (h : i ∈ vs) : wipe (σ.set i v) vs = wipe σ vs := by
  apply List.ext_getElem?
  intro k
  rw [wipe_get, wipe_get]
  split
  · rename_i hk
    rw [List.getElem?_set]
    split
    · rename_i e; subst e
      split
      · rename_i hl; rw [List.getElem?_eq_getElem hl]; rfl
      · rename_i hl; rw [List.getElem?_eq_none_iff.mpr (by omega)]
    · rfl
  · rename_i hk
    rw [List.getElem?_set_ne (by rintro rfl; exact hk h)]
theorem wipe_setAll : ∀ {is : List Nat} {xs : List V} {σ : St} {vs : List Nat}, (∀ i ∈ is, i ∈ vs) → wipe (setAll σ is xs) vs = wipe σ vs
  | [], xs, _, _, _ => by cases xs <;> rfl
  | _ :: _, [], _, _, _ => rfl
  | i :: is, x :: xs, σ, vs, h => by
    show wipe (setAll (σ.set i (some x)) is xs) vs = _
    rw [wipe_setAll (fun j hj => h j (List.mem_cons_of_mem _ hj)), wipe_set (h i List.mem_cons_self)]
theorem wipe_wipe (σ : St) (vs : List Nat) : wipe (wipe σ vs) vs = wipe σ vs := by
  apply List.ext_getElem?
  intro k
  rw [wipe_get, wipe_get]
  split
  · cases σ[k]? <;> rfl
  · rfl
theorem wipe_rel {ι : List Addr} {H : Hp} {δ : DSt} {σ : St} (h : RelS K ι H δ σ) : ∀ {vs : List Nat}, RelS K ι H (wipeD δ vs) (wipe σ vs)
  | [] => h
  | i :: r => by
    have ih := wipe_rel h (vs := r)
    refine ⟨by show ((wipeD δ r).set i none).length = ((wipe σ r).set i none).length; simp [ih.1], fun j d e => ?_⟩
    have e : ((wipeD δ r).set i none)[j]? = some (some d) := e
    show ∃ v, ((wipe σ r).set i none)[j]? = some (some v) ∧ _
    by_cases hij : i = j
    · subst hij
      rw [List.getElem?_set] at e
      simp only [if_true] at e
      split at e <;> cases e
    · rw [List.getElem?_set_ne hij] at e
      obtain ⟨v, q, r⟩ := ih.2 j d e
      exact ⟨v, by rw [List.getElem?_set_ne hij]; exact q, r⟩
theorem mg_one {tg : Expr} {i : Nat} (h : PG X tg (gName i)) {vs : List Nat} (hi : i ∈ vs) : PG X tg (tMG X.K (gOne i) vs) := PG.imp h fun v σ H Q ⟨ι, δ, d, δ', hs, r, e, k⟩ => by
  cases e
  exact k _ (hs.set r i) (wipe_set hi)
/-- names one after another -/
def gNames : List Nat → TGs
  | [] => gNil
  | i :: r => gCons (gName i) (gNames r)
theorem gNames_of : ∀ {is : List Nat} {xs : List V} {σ : St} {H : Hp} {Q : St → Hp → Prop}, xs.length = is.length → Q (setAll σ is xs) H → gNames is xs σ H Q
  | [], [], _, _, _, _, q => ⟨rfl, q⟩
  | [], _ :: _, _, _, _, h, _ => by simp at h
  | _ :: _, [], _, _, _, h, _ => by simp at h
  | i :: is, x :: xs, σ, H, Q, h, q => ⟨x, xs, rfl, gNames_of (is := is) (xs := xs) (σ := σ.set i (some x)) (by simpa using h) q⟩
theorem mg_many {tg : Expr} {is : List Nat} (h : PG X tg (gTup X.K is.length (gNames is))) {vs : List Nat} (hi : ∀ i ∈ is, i ∈ vs) : PG X tg (tMG X.K (gMany is) vs) := PG.imp h fun v σ H Q ⟨ι, δ, d, δ', hs, r, e, k⟩ => by
  unfold gMany at e
  split at e
  · rename_i xs; split at e
    · rename_i hl; cases e
      cases r with
      | tup h1 r1 =>
        have hl' := r1.length.symm.trans hl
        exact ⟨_, _, rfl, h1, hl', gNames_of hl' (k _ (setAll_rel hs r1) (wipe_setAll hi))⟩
    · cases e
  · cases e
/-- tg = e -/
def mAsgG (m : mE) (g : mG) : mS := fun δ M => (m δ M).bind fun r => (g r.1 δ).map fun δ' => (.nx δ', r.2)
theorem asg_imp {vs : List Nat} {g : mG} {E : Ends} {σ : St} {H : Hp} (h : tMS X.K (mAsgG me g) E σ H) : tAsg (tM X.K me) (tMG X.K g vs) E σ H := by
  obtain ⟨ι, δ, M, f, M', hs, hm, he, k⟩ := h
  unfold mAsgG at he
  cases e1 : me δ M with
  | none => rw [e1] at he; cases he
  | some r =>
    rw [e1] at he
    have he : (g r.1 δ).map (fun δ' => (Fl.nx δ', r.2)) = some (f, M') := he
    cases e2 : g r.1 δ with
    | none => rw [e2] at he; cases he
    | some δ' =>
      rw [e2] at he; cases he
      exact ⟨ι, δ, M, r.1, r.2, hs, hm, e1, fun ι1 H1 v l1 hm1 r1 => ⟨ι1, δ, r.1, δ', hs.mono l1, r1, e2, fun σ' hs' _ => k ι1 H1 l1 hm1 σ' hs'⟩⟩
abbrev mAsg (i : Nat) (m : mE) : mS := mAsgG m (gOne i)
theorem ms_set {i : Nat} (h : PS X st (tAsg (tM X.K me) (gName i))) : PS X st (tMS X.K (mAsg i me)) := PS.imp h fun E σ H h => by
  obtain ⟨ι, δ, M, d, M', hs, hm, he, k⟩ := asg_imp (vs := [i]) h
  exact ⟨ι, δ, M, d, M', hs, hm, he, fun ι' H' v l m r => by
    obtain ⟨ι2, δ2, d2, δ', hs2, r2, e2, k2⟩ := k ι' H' v l m r
    cases e2
    exact k2 _ (hs2.set r2 i) (wipe_set (List.mem_singleton.mpr rfl))⟩
theorem ms_asg {tg : Expr} {g : mG} {vs : List Nat} (h : PS X st (tAsg (tM X.K me) (tMG X.K g vs))) : PS X st (tMS X.K (mAsgG me g)) := PS.imp h fun E σ H h => asg_imp h

/-! ### what a loop walks -/
structure MI where
  items : List D
  guard : List (Nat × MO)
abbrev mI := DSt → Mem → Option (MI × Mem)
def Guarded (M : Mem) (g : List (Nat × MO)) : Prop := ∀ p ∈ g, M[p.1]? = some p.2
def ItR (K : PySem.W.Frag) (ι : List Addr) (H : Hp) (J : It) (it : MI) : Prop :=
  ∀ ι1 H1 M1, Le K ι H ι1 H1 → RelM K ι1 H1 M1 → Guarded M1 it.guard → ∀ i : Nat,
    (∀ d, it.items[i]? = some d → J.go i H1 ∧ ∀ x H2, J.yld i H1 x H2 → ∃ ι2, Le K ι1 H1 ι2 H2 ∧ RelM K ι2 H2 M1 ∧ RelD K ι2 H2 d x) ∧ (it.items.length ≤ i → J.stop i H1)
def tMI (K : PySem.W.Frag) (m : mI) : TI := fun σ H R => ∃ ι δ M it M', RelS K ι H δ σ ∧ RelM K ι H M ∧ m δ M = some (it, M') ∧
  ∀ ι' H' J, Le K ι H ι' H' → RelM K ι' H' M' → ItR K ι' H' J it → R J H'
theorem PI.imp {tg it : Expr} {t t' : TI} (h : PI X tg it t) (f : ∀ σ H R, t' σ H R → t σ H R) : PI X tg it t' := fun pins s σ H R I q => h pins s σ H R I (f _ _ _ q)
open Classical in
/-- a loop over the items -/
noncomputable def loopM (gd : List (Nat × MO)) (g : mG) (body : mS) : List D → DSt → Mem → Option (Fl × Mem)
  | [], δ, M => if Guarded M gd then some (.nx δ, M) else none
  | d :: r, δ, M => if Guarded M gd then (g d δ).bind fun δ1 => (body δ1 M).bind fun q => match q.1 with
      | .nx δ2 => loopM gd g body r δ2 q.2
      | .ct δ2 => loopM gd g body r δ2 q.2
      | .bk δ2 => some (.nx δ2, q.2)
      | .rt v => some (.rt v, q.2)
    else none
theorem loopM_nil {gd g body δ} {M : Mem} (h : Guarded M gd) : loopM gd g body [] δ M = some (.nx δ, M) := by unfold loopM; rw [if_pos h]
theorem loopM_cons {gd g body δ d r} {M : Mem} (h : Guarded M gd) : loopM gd g body (d :: r) δ M = (g d δ).bind fun δ1 => (body δ1 M).bind fun q => match q.1 with
      | .nx δ2 => loopM gd g body r δ2 q.2
      | .ct δ2 => loopM gd g body r δ2 q.2
      | .bk δ2 => some (.nx δ2, q.2)
      | .rt v => some (.rt v, q.2) := by
  conv => lhs; unfold loopM
  rw [if_pos h]
theorem loopM_guard {gd g body δ l} {M : Mem} {x} (h : loopM gd g body l δ M = some x) : Guarded M gd := by
  cases l with
  | nil => unfold loopM at h; split at h; assumption; cases h
  | cons d r => unfold loopM at h; split at h; assumption; cases h
noncomputable def mFor (mi : mI) (g : mG) (body : mS) : mS := fun δ M => (mi δ M).bind fun r => loopM r.1.guard g body r.1.items δ r.2
theorem ms_for {tg iter : Expr} {body : List Stmt} {mi : mI} {g : mG} {vs : List Nat} {mb : mS} (hp : PassesOwn (model X.prog X.w) X.A X.env X.xe) (hc : X.calm = true) (hi : PI X tg iter (tMI X.K mi)) (hg : PG X tg (tMG X.K g vs)) (hb : PSs X body (tMS X.K mb))
    (hs : ∀ x, foldedSetIterable iter X.env x = pure x := by intro _; rfl) : PS X (.For tg iter body [] pos) (tMS X.K (mFor mi g mb)) := PS.imp (ps_for hp hc hi hg hb hs) fun E σ H ⟨ι, δ, M, f, M', hs, hm, he, k⟩ => by
  unfold mFor at he
  cases e1 : mi δ M with
  | none => rw [e1] at he; cases he
  | some r =>
    obtain ⟨⟨items, gd⟩, M0⟩ := r
    rw [e1] at he
    have he : loopM gd g mb items δ M0 = some (f, M') := he
    refine ⟨ι, δ, M, ⟨items, gd⟩, M0, hs, hm, e1, fun ι0 H0 J l0 hm0 hJ => ?_⟩
    refine ⟨fun i m σ H => m = items.length - i ∧ i ≤ items.length ∧ ∃ ι1 δ1 M1, Le X.K ι0 H0 ι1 H ∧ RelM X.K ι1 H M1 ∧ RelS X.K ι1 H δ1 σ ∧ loopM gd g mb (items.drop i) δ1 M1 = some (f, M'),
      ⟨_, rfl, Nat.zero_le _, ι0, δ, M0, .refl, hm0, hs.mono l0, he⟩, ?_⟩
    rintro i m σ1 H1 ⟨rfl, hil, ι1, δ1, M1, l1, hm1, hs1, hl⟩
    have gdd := loopM_guard hl
    have hj := hJ ι1 H1 M1 l1 hm1 gdd i
    by_cases hlt : i < items.length
    · have ed : items.drop i = items[i] :: items.drop (i + 1) := List.drop_eq_getElem_cons hlt
      rw [ed, loopM_cons gdd] at hl
      obtain ⟨go, hy⟩ := hj.1 _ (List.getElem?_eq_getElem hlt)
      cases eg : g items[i] δ1 with
      | none => rw [eg] at hl; cases hl
      | some δ2 =>
        rw [eg] at hl
        cases eb : mb δ2 M1 with
        | none => simp only [eb, Option.bind_some, Option.bind_none] at hl; cases hl
        | some q =>
          obtain ⟨fl, M2⟩ := q
          simp only [eb, Option.bind_some] at hl
          refine .inr ⟨go, fun σ' H' => ∃ ι3 δ3 M3, Le X.K ι0 H0 ι3 H' ∧ RelM X.K ι3 H' M3 ∧ RelS X.K ι3 H' δ3 σ' ∧ loopM gd g mb (items.drop (i + 1)) δ3 M3 = some (f, M'), fun σ' H' h' => ⟨items.length - (i + 1), by omega, rfl, hlt, h'⟩, fun x H2 y => ?_⟩
          obtain ⟨ι2, l2, hm2, rx⟩ := hy x H2 y
          refine ⟨ι2, δ1, items[i], δ2, hs1.mono l2, rx, eg, fun σ2 hs2 _ => ⟨ι2, δ2, M1, fl, M2, hs2, hm2, eb, fun ι3 H3 l3 hm3 => ?_⟩⟩
          have l13 := (l1.trans l2).trans l3
          cases fl with
          | nx δ3 => exact fun σ3 hs3 => ⟨ι3, δ3, M2, l13, hm3, hs3, hl⟩
          | ct δ3 => exact fun σ3 hs3 => ⟨ι3, δ3, M2, l13, hm3, hs3, hl⟩
          | bk δ3 => cases hl; exact k ι3 H3 (l0.trans l13) hm3
          | rt v => cases hl; exact k ι3 H3 (l0.trans l13) hm3
    · have ei : i = items.length := by omega
      subst ei
      rw [List.drop_length, loopM_nil gdd] at hl
      cases hl
      exact .inl ⟨hj.2 (Nat.le_refl _), k ι1 H1 (l0.trans l1) hm1 σ1 hs1⟩

/-! ### while, with so many turns at most -/
def whileM (t : mT) (body : mS) : Nat → DSt → Mem → Option (Fl × Mem)
  | 0, _, _ => none
  | n + 1, δ, M => (t δ M).bind fun r => if r.1 = true then (body δ r.2).bind fun q => match q.1 with
      | .nx δ2 => whileM t body n δ2 q.2
      | .ct δ2 => whileM t body n δ2 q.2
      | .bk δ2 => some (.nx δ2, q.2)
      | .rt v => some (.rt v, q.2)
    else some (.nx δ, r.2)
theorem ms_while {body : List Stmt} {mb : mS} (n : Nat) (hp : PassesOwn (model X.prog X.w) X.A X.env X.xe) (hc : PT X c (tMT X.K ta)) (hb : PSs X body (tMS X.K mb)) : PS X (.While c body [] pos) (tMS X.K (whileM ta mb n)) :=
  PS.imp (ps_while hp hc hb) fun E σ H ⟨ι, δ, M, f, M', hs, hm, he, k⟩ => by
    refine ⟨fun m σ H1 => ∃ ι1 δ1 M1, Le X.K ι H ι1 H1 ∧ RelM X.K ι1 H1 M1 ∧ RelS X.K ι1 H1 δ1 σ ∧ whileM ta mb m δ1 M1 = some (f, M'), ⟨n, ι, δ, M, .refl, hm, hs, he⟩, ?_⟩
    rintro m σ1 H1 ⟨ι1, δ1, M1, l1, hm1, hs1, hw⟩
    cases m with
    | zero => cases hw
    | succ m =>
      simp only [whileM] at hw
      cases e1 : ta δ1 M1 with
      | none => rw [e1] at hw; cases hw
      | some r =>
        obtain ⟨b, M2⟩ := r
        rw [e1] at hw
        simp only [Option.bind_some] at hw
        refine ⟨ι1, δ1, M1, b, M2, hs1, hm1, e1, fun ι2 H2 l2 hm2 => ?_⟩
        cases b with
        | true =>
          simp only [if_true] at hw ⊢
          cases eb : mb δ1 M2 with
          | none => rw [eb] at hw; cases hw
          | some q =>
            obtain ⟨fl, M3⟩ := q
            rw [eb] at hw
            simp only [Option.bind_some] at hw
            refine ⟨fun σ' H' => ∃ ι3 δ3 M3, Le X.K ι H ι3 H' ∧ RelM X.K ι3 H' M3 ∧ RelS X.K ι3 H' δ3 σ' ∧ whileM ta mb m δ3 M3 = some (f, M'), fun σ' H' h' => ⟨m, Nat.lt_succ_self _, h'⟩, ι2, δ1, M2, fl, M3, hs1.mono l2, hm2, eb, fun ι3 H3 l3 hm3 => ?_⟩
            have l13 := (l1.trans l2).trans l3
            cases fl with
            | nx δ3 => exact fun σ3 hs3 => ⟨ι3, δ3, M3, l13, hm3, hs3, hw⟩
            | ct δ3 => exact fun σ3 hs3 => ⟨ι3, δ3, M3, l13, hm3, hs3, hw⟩
            | bk δ3 => cases hw; exact k ι3 H3 l13 hm3
            | rt v => cases hw; exact k ι3 H3 l13 hm3
        | false =>
          simp only [Bool.false_eq_true, if_false] at hw ⊢
          cases hw
          exact k ι2 H2 (l1.trans l2) hm2 σ1 (hs1.mono l2)

/-! ### comprehensions -/
def mYes : mT := fun _ M => some (true, M)
open Classical in
noncomputable def lcM (gd : List (Nat × MO)) (g : mG) (tt : mT) (te : mE) (δ : DSt) : List D → Mem → Option (List D × Mem)
  | [], M => if Guarded M gd then some ([], M) else none
  | d :: r, M => if Guarded M gd then (g d δ).bind fun δ1 => (tt δ1 M).bind fun t => if t.1 = true then (te δ1 t.2).bind fun y => (lcM gd g tt te δ r y.2).map fun q => (y.1 :: q.1, q.2) else lcM gd g tt te δ r t.2 else none
theorem lcM_nil {gd g tt te δ} {M : Mem} (h : Guarded M gd) : lcM gd g tt te δ [] M = some ([], M) := by unfold lcM; rw [if_pos h]
theorem lcM_cons {gd g tt te δ d r} {M : Mem} (h : Guarded M gd) : lcM gd g tt te δ (d :: r) M = (g d δ).bind fun δ1 => (tt δ1 M).bind fun t => if t.1 = true then (te δ1 t.2).bind fun y => (lcM gd g tt te δ r y.2).map fun q => (y.1 :: q.1, q.2) else lcM gd g tt te δ r t.2 := by
  conv => lhs; unfold lcM
  rw [if_pos h]
theorem lcM_guard {gd g tt te δ l} {M : Mem} {x} (h : lcM gd g tt te δ l M = some x) : Guarded M gd := by
  cases l with
  | nil => unfold lcM at h; split at h; assumption; cases h
  | cons d r => unfold lcM at h; split at h; assumption; cases h
noncomputable def mLc (mi : mI) (g : mG) (tt : mT) (te : mE) (vs : List Nat) : mE := fun δ M => (mi δ M).bind fun r => (lcM r.1.guard g tt te (wipeD δ vs) r.1.items r.2).bind fun q =>
  if q.1.length ≤ sizeLine then some (.obj q.2.length, q.2 ++ [.lst q.1]) else none
theorem lc_imp {mi : mI} {g : mG} {tt : mT} {te : mE} {vs : List Nat} {σ : St} {H : Hp} {Q : VK} (h : tM X.K (mLc mi g tt te vs) σ H Q) : tLc (tMI X.K mi) (tMG X.K g vs) (tMT X.K tt) (tM X.K te) vs σ H Q := by
  obtain ⟨ι, δ, M, d, M', hs, hm, he, k⟩ := h
  unfold mLc at he
  cases e1 : mi δ M with
  | none => rw [e1] at he; cases he
  | some r =>
    obtain ⟨⟨items, gd⟩, M0⟩ := r
    rw [e1] at he
    simp only [Option.bind_some] at he
    cases e2 : lcM gd g tt te (wipeD δ vs) items M0 with
    | none => rw [e2] at he; cases he
    | some q =>
      obtain ⟨out, Me⟩ := q
      rw [e2] at he
      simp only [Option.bind_some] at he
      split at he
      · rename_i hz; cases he
        refine ⟨ι, δ, M, ⟨items, gd⟩, M0, hs, hm, e1, fun ι0 H0 J l0 hm0 hJ D hD => ?_⟩
        have hDi : D ∉ ι0 := fun m => by obtain ⟨o, e⟩ := hm0.mem m; rw [hD] at e; cases e
        refine ⟨fun i m H => m = items.length - i ∧ i ≤ items.length ∧ ∃ ι1 M1 acc vacc rest, Le X.K ι0 H0 ι1 H ∧ RelM X.K ι1 H M1 ∧ D ∉ ι1 ∧ H D = some (.lst vacc) ∧ RelDs X.K ι1 H acc vacc ∧ lcM gd g tt te (wipeD δ vs) (items.drop i) M1 = some (rest, Me) ∧ acc ++ rest = out,
          ⟨_, rfl, Nat.zero_le _, ι0, M0, [], [], out, le_new0 hD, hm0.new0 hD, hDi, upd_same, .nil, e2, rfl⟩, ?_⟩
        rintro i m H1 ⟨rfl, hil, ι1, M1, acc, vacc, rest, l1, hm1, nD, hHD, racc, hl, eo⟩
        have gdd := lcM_guard hl
        have hj := hJ ι1 H1 M1 l1 hm1 gdd i
        by_cases hlt : i < items.length
        · have ed : items.drop i = items[i] :: items.drop (i + 1) := List.drop_eq_getElem_cons hlt
          rw [ed, lcM_cons gdd] at hl
          obtain ⟨go, hy⟩ := hj.1 _ (List.getElem?_eq_getElem hlt)
          cases eg : g items[i] (wipeD δ vs) with
          | none => rw [eg] at hl; cases hl
          | some δ2 =>
            rw [eg] at hl
            cases et : tt δ2 M1 with
            | none => simp only [et, Option.bind_some, Option.bind_none] at hl; cases hl
            | some q =>
              obtain ⟨b, M2⟩ := q
              simp only [et, Option.bind_some] at hl
              refine .inr ⟨go, fun H' => ∃ ι3 M3 acc vacc rest, Le X.K ι0 H0 ι3 H' ∧ RelM X.K ι3 H' M3 ∧ D ∉ ι3 ∧ H' D = some (.lst vacc) ∧ RelDs X.K ι3 H' acc vacc ∧ lcM gd g tt te (wipeD δ vs) (items.drop (i + 1)) M3 = some (rest, Me) ∧ acc ++ rest = out,
                fun H' h' => ⟨items.length - (i + 1), by omega, rfl, hlt, h'⟩, fun x H2 y => ?_⟩
              obtain ⟨ι2, l2, hm2, rx⟩ := hy x H2 y
              refine ⟨ι2, wipeD δ vs, items[i], δ2, wipe_rel (hs.mono (l0.trans (l1.trans l2))), rx, eg, fun σ2 hs2 hw2 => ⟨hw2.trans (wipe_wipe σ vs), ι2, δ2, M1, b, M2, hs2, hm2, et, fun ι3 H3 l3 hm3 => ?_⟩⟩
              have l23 := l2.trans l3
              obtain ⟨hD3, nD3⟩ := l23.kp D _ hHD nD
              cases b with
              | true =>
                simp only [if_true] at hl ⊢
                cases ee : te δ2 M2 with
                | none => rw [ee] at hl; cases hl
                | some z =>
                  obtain ⟨y', M3⟩ := z
                  rw [ee] at hl
                  simp only [Option.bind_some] at hl
                  cases er : lcM gd g tt te (wipeD δ vs) (items.drop (i + 1)) M3 with
                  | none => rw [er] at hl; cases hl
                  | some w =>
                    obtain ⟨rest', Mw⟩ := w
                    rw [er] at hl; cases hl
                    refine ⟨ι3, δ2, M2, y', M3, hs2.mono l3, hm3, ee, fun ι4 H4 v l4 hm4 r4 => ?_⟩
                    obtain ⟨hD4, nD4⟩ := l4.kp D _ hD3 nD3
                    have lo : Lo X.K ι4 H4 ι4 (upd H4 D (.lst (vacc ++ [v]))) := ⟨fun _ _ h => h, fun b xs q => by
                      rcases q with (q | ⟨u, q⟩) | q
                      · exact .inl (.inl (by rw [upd_ne (ne_of q hD4 (by intro z; cases z))]; exact q))
                      · exact .inl (.inr ⟨u, by rw [upd_ne (ne_of q hD4 (by intro z; cases z))]; exact q⟩)
                      · exact .inr q, fun b xs q => by
                      rcases q with ⟨u, q⟩ | q
                      · exact .inl ⟨u, by rw [upd_ne (ne_of q hD4 (by intro z; cases z))]; exact q⟩
                      · exact .inr q, fun b u q => by rw [upd_ne (ne_of q hD4 (by intro z; cases z))]; exact q⟩
                    have l14 := l1.trans (l23.trans l4)
                    refine ⟨vacc, hD4, ?_, ι4, M3, acc ++ [y'], vacc ++ [v], rest', ⟨l14.ix, fun b xs q => lo.tp b xs (l14.tp b xs q), fun b xs q => lo.rl b xs (l14.rl b xs q), fun b o q n => ?_, fun b o u q => ?_, fun b u q => lo.tb b u (l14.tb b u q)⟩, hm4.keep (fun b hb => upd_ne (fun z => nD4 (by rw [← z]; exact hb))) lo, nD4, upd_same, ?_, er, ?_⟩
                    · rw [← racc.length]
                      rw [← eo] at hz
                      simp only [List.length_append, List.length_cons] at hz
                      omega
                    · obtain ⟨q1, q2⟩ := l14.kp b o q n
                      exact ⟨by rw [upd_ne (ne_of_none q hD)]; exact q1, q2⟩
                    · rw [upd_ne (ne_of_none q hD)]; exact l14.fz b o u q
                    · exact ((racc.mono (l23.trans l4)).append (.cons r4 .nil)).mono lo
                    · rw [List.append_assoc]; exact eo
              | false =>
                simp only [Bool.false_eq_true, if_false] at hl ⊢
                exact ⟨ι3, M2, acc, vacc, rest, l1.trans l23, hm3, nD3, hD3, racc.mono l23, hl, eo⟩
        · have ei : i = items.length := by omega
          subst ei
          rw [List.drop_length, lcM_nil gdd] at hl
          cases hl
          rw [List.append_nil] at eo
          subst eo
          refine .inl ⟨hj.2 (Nat.le_refl _), k (ι1 ++ [D]) H1 _ ?_ (hm1.add nD ⟨vacc, hHD, racc.mono ⟨fun j b e => by rw [List.getElem?_append_left (List.getElem?_eq_some_iff.mp e).1]; exact e, fun _ _ h => h, fun _ _ h => h, fun _ _ h => h⟩⟩) (.obj (by rw [← hm1.len]; simp))⟩
          have l01 := l0.trans l1
          refine ⟨fun j b e => by have := l01.ix j b e; rw [List.getElem?_append_left (List.getElem?_eq_some_iff.mp this).1]; exact this, l01.tp, l01.rl, fun b o q n => ?_, l01.fz, l01.tb⟩
          obtain ⟨q1, q2⟩ := l01.kp b o q n
          refine ⟨q1, fun z => ?_⟩
          rcases List.mem_append.mp z with z | z
          · exact q2 z
          · have : b = D := by simpa using z
            subst this
            have := (l0.kp b o q n).1
            rw [hD] at this
            cases this
      · cases he
end Mir

set_option Elab.async false
set_option linter.all false
set_option maxRecDepth 100000
set_option maxHeartbeats 4000000
namespace Mir
open PySem PySem.Spec L2
variable {X : Cx} {a b c e tg : Expr} {es rest : List Expr} {pos : Pos} {ma mb mc me : mE} {K : PySem.W.Frag} {ta tb : mT} {mr : mA} {st : Stmt} {sts : List Stmt} {m1 m2 : mS}

/-! ### what is walked -/
theorem itR_tup {ι : List Addr} {H : Hp} {p : Addr} {xs : List D} {vs : List V} (h : SqT K H p vs) (r : RelDs K ι H xs vs) : ItR K ι H (Itt K p) ⟨xs, []⟩ := by
  intro ι1 H1 M1 l1 hm1 _ i
  have h1 := l1.tp _ _ h
  refine ⟨fun d e => ?_, fun hl => ⟨vs, h1, by rw [← r.length]; exact hl⟩⟩
  obtain ⟨v, ev, rv⟩ := r.get e
  refine ⟨⟨vs, v, h1, ev⟩, fun x H2 y => ?_⟩
  obtain ⟨rfl, y⟩ := y
  have := y vs h1
  rw [ev] at this
  cases this
  exact ⟨ι1, .refl, hm1, rv.mono l1⟩
theorem itR_lst {ι : List Addr} {H : Hp} {M : Mem} {p : Addr} {i0 : Nat} {xs : List D} (hi : ι[i0]? = some p) (he : M[i0]? = some (.lst xs)) : ItR K ι H (Itl K p) ⟨xs, [(i0, .lst xs)]⟩ := by
  intro ι1 H1 M1 l1 hm1 gd i
  have e1 : M1[i0]? = some (.lst xs) := gd (i0, .lst xs) (List.mem_singleton.mpr rfl)
  obtain ⟨q, hq, vs, hH, r⟩ := hm1.at e1
  rw [l1.ix _ _ hi] at hq
  cases hq
  refine ⟨fun d e => ?_, fun hl => ⟨vs, .of hH, by rw [← r.length]; exact hl⟩⟩
  obtain ⟨v, ev, rv⟩ := r.get e
  refine ⟨⟨vs, v, .of hH, ev⟩, fun x H2 y => ?_⟩
  obtain ⟨rfl, y⟩ := y
  have := y vs (.of hH)
  rw [ev] at this
  cases this
  exact ⟨ι1, .refl, hm1, rv⟩
theorem itR_rol {ι : List Addr} {H : Hp} {p : Addr} {xs : List D} {vs : List V} (h : SqF K H p vs) (r : RelDs K ι H xs vs) : ItR K ι H (Itl K p) ⟨xs, []⟩ := by
  intro ι1 H1 M1 l1 hm1 _ i
  have h1 := (l1.rl _ _ h).sq
  refine ⟨fun d e => ?_, fun hl => ⟨vs, h1, by rw [← r.length]; exact hl⟩⟩
  obtain ⟨v, ev, rv⟩ := r.get e
  refine ⟨⟨vs, v, h1, ev⟩, fun x H2 y => ?_⟩
  obtain ⟨rfl, y⟩ := y
  have := y vs h1
  rw [ev] at this
  cases this
  exact ⟨ι1, .refl, hm1, rv.mono l1⟩
theorem itR_rng {ι : List Addr} {H : Hp} {lo : Int} {n : Nat} : ItR K ι H (Itr lo n) ⟨(List.range n).map fun k : Nat => D.int (lo + k), []⟩ := by
  intro ι1 H1 M1 l1 hm1 _ i
  refine ⟨fun d e => ?_, fun hl => ?_⟩
  · rw [List.getElem?_map] at e
    have hi : i < n := by
      cases h : (List.range n)[i]? with
      | none => rw [h] at e; cases e
      | some z => have := (List.getElem?_eq_some_iff.mp h).1; simpa using this
    rw [List.getElem?_range hi] at e
    cases e
    refine ⟨hi, fun x H2 y => ?_⟩
    obtain ⟨rfl, rfl⟩ := y
    exact ⟨ι1, .refl, hm1, .int _⟩
  · show n ≤ i
    simpa using hl
theorem itR_str {ι : List Addr} {H : Hp} {z : Str} : ItR K ι H (Its z) ⟨z.cps.toList.map fun c => D.str ⟨#[c]⟩, []⟩ := by
  intro ι1 H1 M1 l1 hm1 _ i
  refine ⟨fun d e => ?_, fun hl => ?_⟩
  · rw [List.getElem?_map] at e
    cases h : z.cps.toList[i]? with
    | none => rw [h] at e; cases e
    | some c =>
      rw [h] at e
      cases e
      have hi : i < z.cps.size := by have := (List.getElem?_eq_some_iff.mp h).1; simpa using this
      refine ⟨hi, fun x H2 y => ?_⟩
      obtain ⟨rfl, c', e', rfl⟩ := y
      have : z.cps[i]? = some c := by rw [← Array.getElem?_toList]; exact h
      rw [this] at e'
      cases e'
      exact ⟨ι1, .refl, hm1, .str _⟩
  · show z.cps.size ≤ i
    simpa using hl
/-- a list, a tuple or a text -/
def itAny (M : Mem) : D → Option MI
  | .tup xs => some ⟨xs, []⟩
  | .str z => some ⟨z.cps.toList.map fun c => D.str ⟨#[c]⟩, []⟩
  | .obj i => match M[i]? with
    | some (.lst xs) => some ⟨xs, [(i, .lst xs)]⟩
    | _ => none
  | .rol xs => some ⟨xs, []⟩
  | _ => none
def iAny (K : PySem.W.Frag) (te : TE) : TI := fun σ H R => te σ H fun x H1 => (∃ a, x = .ref a ∧ (∃ xs, SqL K H1 a xs) ∧ R (Itl K a) H1) ∨ (∃ a, x = .ref a ∧ (∃ xs, SqT K H1 a xs) ∧ R (Itt K a) H1) ∨ ∃ z, x = .str z ∧ R (Its z) H1
theorem pi_any {te : TE} (he : PE X e te) : PI X tg e (iAny X.K te) := by
  intro pins s σ H R I h
  refine thn (he pins s σ H _ I h) fun v s1 ⟨y, H1, I1, r1, q⟩ => ?_
  rcases q with ⟨a, rfl, ⟨xs, hq⟩, q⟩ | ⟨a, rfl, ⟨xs, hq⟩, q⟩ | ⟨x, rfl, q⟩
  · cases r1
    obtain ⟨its, rv, p, hz⟩ := I1.list hq
    refine wpAny_pyIter_list p.isList ?_
    refine ⟨s1.heap.objs.size, [s1.heap.objs.size], _, _, H1, rfl, I1.kept (t' := s1.toks) fun b o e => Heap.get?_push_of_some _ e, turn_list a _, ⟨_, Heap.get?_push_size _ rfl, rfl, rfl⟩, fun b hb => ?_, q⟩
    have e : b = s1.heap.objs.size := by simpa using hb
    subst e
    exact I1.fpOk (Nat.le_refl _) (I1.hok.fresh (Nat.le_refl _))
  · cases r1
    obtain ⟨its, rv, p, hz⟩ := I1.tuple hq
    refine wpAny_pyIter_tuple (show s1.heap.IsTuple a its.toArray from p) ?_
    refine ⟨s1.heap.objs.size, [s1.heap.objs.size], _, _, H1, rfl, I1.kept (t' := s1.toks) fun b o e => Heap.get?_push_of_some _ e, turn_tuple a _, ⟨_, Heap.get?_push_size _ rfl, rfl, rfl⟩, fun b hb => ?_, q⟩
    have e : b = s1.heap.objs.size := by simpa using hb
    subst e
    exact I1.fpOk (Nat.le_refl _) (I1.hok.fresh (Nat.le_refl _))
  · obtain ⟨t, rfl⟩ := r1
    cases ha : x.cps.all (· < 128)
    · exact wpAny_pyIter_wide ha (pi_one (tk := s1.toks) I1 _ (turn_str _ x t "str_iterator" (.inr rfl)) ⟨_, Heap.get?_push_size _ rfl, rfl, rfl⟩ q)
    · exact wpAny_pyIter_ascii ha (pi_one (tk := s1.toks) I1 _ (turn_str _ x t "str_ascii_iterator" (.inl rfl)) ⟨_, Heap.get?_push_size _ rfl, rfl, rfl⟩ q)
theorem itAny_rel {ι : List Addr} {H : Hp} {M : Mem} {d : D} {v : V} {it : MI} (hm : RelM K ι H M) (r : RelD K ι H d v) (h : itAny M d = some it) {R : It → Hp → Prop} (k : ∀ J, ItR K ι H J it → R J H) :
    (∃ a, v = .ref a ∧ (∃ xs, SqL K H a xs) ∧ R (Itl K a) H) ∨ (∃ a, v = .ref a ∧ (∃ xs, SqT K H a xs) ∧ R (Itt K a) H) ∨ ∃ z, v = .str z ∧ R (Its z) H := by
  cases r with
  | tup h1 r1 => cases h; exact .inr (.inl ⟨_, rfl, ⟨_, h1⟩, k _ (itR_tup h1 r1)⟩)
  | str x => cases h; exact .inr (.inr ⟨x, rfl, k _ itR_str⟩)
  | @obj i a hi =>
    simp only [itAny] at h
    split at h
    · rename_i xs e; cases h
      obtain ⟨p, hp, vs, e1, e2⟩ := hm.at e
      rw [hi] at hp; cases hp
      exact .inl ⟨a, rfl, ⟨vs, .of e1⟩, k _ (itR_lst hi e)⟩
    · cases h
  | rol h1 r1 => cases h; exact .inl ⟨_, rfl, ⟨_, h1.sq⟩, k _ (itR_rol h1 r1)⟩
  | non => cases h
  | bl _ => cases h
  | int _ => cases h
  | ty _ => cases h
def mIter (m : mE) : mI := fun δ M => (m δ M).bind fun r => (itAny r.2 r.1).map fun it => (it, r.2)
theorem mi_any (he : PE X e (tM X.K me)) : PI X tg e (tMI X.K (mIter me)) := PI.imp (pi_any he) fun σ H R ⟨ι, δ, M, it, M', hs, hm, he, k⟩ => by
  unfold mIter at he
  cases e1 : me δ M with
  | none => rw [e1] at he; cases he
  | some r =>
    rw [e1] at he
    have he : (itAny r.2 r.1).map (fun it => (it, r.2)) = some (it, M') := he
    cases e2 : itAny r.2 r.1 with
    | none => rw [e2] at he; cases he
    | some it' =>
      rw [e2] at he; cases he
      exact ⟨ι, δ, M, r.1, r.2, hs, hm, e1, fun ι1 H1 v l1 m1 r1 => itAny_rel m1 r1 e2 fun J hJ => k ι1 H1 J l1 m1 hJ⟩
def okR (j : Int) : Bool := decide (-2 ^ 62 ≤ j) && decide (j < 2 ^ 62)
def rngI (lo hi : Int) : MI := ⟨(List.range (hi - lo).toNat).map fun k : Nat => D.int (lo + k), []⟩
def mRng1 (m : mA) : mI := fun δ M => match m δ M with
  | some ([.int j], M') => if okR j = true then some (rngI 0 j, M') else none
  | _ => none
theorem mi_rng1 {p : Pos} (h : PI X tg (.Call (.Name "range" p) [a] [] pos) (iRng1 (tMA X.K mr))) : PI X tg (.Call (.Name "range" p) [a] [] pos) (tMI X.K (mRng1 mr)) := PI.imp h fun σ H R ⟨ι, δ, M, it, M', hs, hm, he, k⟩ => by
  unfold mRng1 at he
  split at he
  · rename_i j M1 e1; split at he
    · rename_i hj; cases he
      unfold okR at hj
      simp only [Bool.and_eq_true, decide_eq_true_eq] at hj
      refine ⟨ι, δ, M, _, _, hs, hm, e1, fun ι1 H1 v l1 m1 r1 => ?_⟩
      cases r1 with
      | cons r1 r2 =>
        cases r2; cases r1
        refine ⟨j, rfl, hj.1, hj.2, k ι1 H1 _ l1 m1 ?_⟩
        have := itR_rng (K := X.K) (ι := ι1) (H := H1) (lo := 0) (n := j.toNat)
        unfold rngI
        rw [Int.sub_zero]
        exact this
    · cases he
  · cases he
/-! ### comprehensions, as terms -/
theorem me_lc {elt iter : Expr} {ifs : List Expr} {scope : Scope} {own : List (Str × Nat)} {mi : mI} {g : mG} {tt : mT} {te : mE} (hc : X.calm = true) (hN : X.N.Nodup) (hi : PI X tg iter (tMI X.K mi)) (ok : BlkOk X.N X.env.scope scope own)
    (hg : ∀ (s : Shared) (H : Hp) (C : Addr) (cl : List (Str × Addr)) (fp : List Addr), PG (X.blk s H scope (compEnvC scope cl C X.env) fp) tg (tMG X.K g (own.map (·.2)))) (ht : ∀ (s : Shared) (H : Hp) (C : Addr) (cl : List (Str × Addr)) (fp : List Addr), PTs (X.blk s H scope (compEnvC scope cl C X.env) fp) ifs (tMT X.K tt))
    (he : ∀ (s : Shared) (H : Hp) (C : Addr) (cl : List (Str × Addr)) (fp : List Addr), PE (X.blk s H scope (compEnvC scope cl C X.env) fp) elt (tM X.K te)) (hs : ∀ x, foldedSetIterable iter X.env x = pure x := by intro _; rfl) :
    PE X (.ListComp elt [⟨tg, iter, ifs, 0⟩] scope pos) (tM X.K (mLc mi g tt te (own.map (·.2)))) := PE.imp (pe_lc hc hN hi ok hg ht he hs) fun σ H Q h => lc_imp h
theorem ms_setLc {i : Nat} {y : Str} {py : Pos} {elt iter : Expr} {ifs : List Expr} {scope : Scope} {own : List (Str × Nat)} {spos : Pos} {mi : mI} {g : mG} {tt : mT} {te : mE} (hc : X.calm = true) (hN : X.N.Nodup) (hy : X.N[i]? = some y) (hyl : X.env.scope.names.lookup y = some .local)
    (hsw : swapsWith (.ListComp elt [⟨tg, iter, ifs, 0⟩] scope pos) (some (.Name y py)) spos.line X.env = pure true) (hi : PI X tg iter (tMI X.K mi)) (ok : BlkOk X.N X.env.scope scope own)
    (hg : ∀ (s : Shared) (H : Hp) (C : Addr) (cl : List (Str × Addr)) (fp : List Addr), PG (X.blk s H scope (compEnvC scope cl C X.env) fp) tg (tMG X.K g (own.map (·.2)))) (ht : ∀ (s : Shared) (H : Hp) (C : Addr) (cl : List (Str × Addr)) (fp : List Addr), PTs (X.blk s H scope (compEnvC scope cl C X.env) fp) ifs (tMT X.K tt))
    (he : ∀ (s : Shared) (H : Hp) (C : Addr) (cl : List (Str × Addr)) (fp : List Addr), PE (X.blk s H scope (compEnvC scope cl C X.env) fp) elt (tM X.K te)) (hs : ∀ x, foldedSetIterable iter X.env x = pure x := by intro _; rfl) :
    PS X (.Assign [.Name y py] (.ListComp elt [⟨tg, iter, ifs, 0⟩] scope pos) spos) (tMS X.K (mAsg i (mLc mi g tt te (own.map (·.2))))) :=
  PS.imp (ps_setLc hc hN hy hyl hsw hi ok hg ht he hs) fun E σ H h => by
    obtain ⟨ι, δ, M, f, M', hs, hm, he, k⟩ := h
    refine lc_imp (Q := fun x H1 => gName i x σ H1 E.nx) ?_
    unfold mAsg mAsgG at he
    cases e1 : mLc mi g tt te (own.map (·.2)) δ M with
    | none => rw [e1] at he; cases he
    | some r =>
      rw [e1] at he
      cases he
      exact ⟨ι, δ, M, r.1, r.2, hs, hm, e1, fun ι1 H1 v l1 hm1 r1 => k ι1 H1 l1 hm1 _ ((hs.mono l1).set r1 i)⟩
theorem mts_nil : PTs X [] (tMT X.K mYes) := fun pins s σ H Q I ⟨ι, δ, M, b, M', hs, hm, he, k⟩ => by
  cases he
  exact pts_nil pins s σ H Q I (k ι H .refl hm)
theorem mts_one (h : PT X c (tMT X.K ta)) : PTs X [c] (tMT X.K ta) := pts_one h

/-! ### a def's promise -/
def spM (K : PySem.W.Frag) (n : Nat) (m : List D → Mem → Option (D × Mem)) : Sp := fun vs H Q _ => ∃ ι ds M d M', ds.length = n ∧ RelDs K ι H ds vs ∧ RelM K ι H M ∧ m ds M = some (d, M') ∧ Got K ι H M' d Q
def fnM (n : Nat) (ms : mS) (ds : List D) (M : Mem) : Option (D × Mem) := match ms (ds.map some ++ List.replicate (n - ds.length) none) M with
  | some (.rt d, M') => some (d, M')
  | some (.nx _, M') => some (.non, M')
  | _ => none
theorem start_rel {ι : List Addr} {H : Hp} {N : List Str} {ds : List D} {vs : List V} (r : RelDs K ι H ds vs) : RelS K ι H (ds.map some ++ List.replicate (N.length - ds.length) none) (L2.start N vs) := by
  unfold L2.start
  have hl := r.length
  refine ⟨by simp [hl], fun i d e => ?_⟩
  by_cases hi : i < ds.length
  · rw [List.getElem?_append_left (by simpa using hi), List.getElem?_map] at e
    cases e1 : ds[i]? with
    | none => rw [e1] at e; cases e
    | some d' =>
      rw [e1] at e
      cases e
      obtain ⟨v, ev, rv⟩ := r.get e1
      exact ⟨v, by rw [List.getElem?_append_left (by simpa [← hl] using hi), List.getElem?_map, ev]; rfl, rv⟩
  · rw [List.getElem?_append_right (by simpa using hi), List.getElem?_replicate] at e
    split at e <;> cases e
section
variable {P : Program} {w : World} {mg : Str → Option Value} {base : Heap}
theorem fn_ok {x qual : Str} {sf : Stmt} {f : Addr} {fd : FuncData} {N ps : List Str} {k : Nat} {ms : mS} (F : Fun K x qual sf f fd) (S : FnScope N ps (defScope sf))
    (hb : ∀ (cdv : Value) (A : Around) (outer : List Env) (s : Shared) (H : Hp) (E : XK), Room k (A.deeper (PyProof.Rows.envOfC qual (defScope sf) s.heap.objs.size f cdv)) →
      PSs (cxOf CX0 P w K mg base N qual (defScope sf) f cdv A outer s H E).nox (defBody sf) (tMS K ms)) : FnOk P w K mg base CX0 (k + 1) f fd ps (spM K ps.length (fnM N.length ms)) := by
  refine F.ok S (fun vs H Q E ⟨ι, ds, M, d, M', hn, r, _⟩ => by rw [← r.length]; exact hn) fun cdv A outer s H vs Q E hr h => ⟨_, hb cdv A outer s H E hr, ?_⟩
  obtain ⟨ι, ds, M, d, M', hn, r, hm, he, k⟩ := h
  unfold fnM at he
  split at he
  · rename_i d' M1 e1; cases he
    exact ⟨ι, _, M, _, _, start_rel r, hm, e1, fun ι1 H1 l1 m1 v r1 => k ι1 H1 v l1 m1 r1⟩
  · rename_i δ' M1 e1; cases he
    exact ⟨ι, _, M, _, _, start_rel r, hm, e1, fun ι1 H1 l1 m1 σ' _ => k ι1 H1 .non l1 m1 .non⟩
  · cases he
end
/-! ### calls -/
def mCall (f : List D → Mem → Option (D × Mem)) (m : mA) : mE := fun δ M => (m δ M).bind fun r => f r.1 r.2
theorem call_imp {n : Nat} {f : List D → Mem → Option (D × Mem)} {E : XK} {σ H Q} (hl : ∀ δ M r, mr δ M = some r → r.1.length = n) (h : tM X.K (mCall f mr) σ H Q) : tCall (spM X.K n f) [] E (tMA X.K mr) σ H Q := by
  obtain ⟨ι, δ, M, d, M', hs, hm, he, k⟩ := h
  unfold mCall at he
  cases e1 : mr δ M with
  | none => rw [e1] at he; cases he
  | some r =>
    rw [e1] at he
    exact ⟨ι, δ, M, r.1, r.2, hs, hm, e1, fun ι1 H1 vs l1 m1 r1 => ⟨ι1, r.1, r.2, d, M', hl _ _ _ e1, by rw [List.append_nil]; exact r1, m1, he, fun ι2 H2 v l2 m2 r2 => k ι2 H2 v (l1.trans l2) m2 r2⟩⟩
theorem len_nil {δ : DSt} {M : Mem} {r : List D × Mem} (h : mNil δ M = some r) : r.1.length = 0 := by cases h; rfl
theorem len_cons {n : Nat} (hr : ∀ δ M r, mr δ M = some r → r.1.length = n) : ∀ (δ : DSt) (M : Mem) (r : List D × Mem), mCons me mr δ M = some r → r.1.length = n + 1 := by
  intro δ M r h
  unfold mCons at h
  cases e1 : me δ M with
  | none => rw [e1] at h; cases h
  | some x =>
    rw [e1] at h
    have h : (mr δ x.2).map (fun y => (x.1 :: y.1, y.2)) = some r := h
    cases e2 : mr δ x.2 with
    | none => rw [e2] at h; cases h
    | some y => rw [e2] at h; cases h; simp [hr _ _ _ e2]
theorem me_call {k n : Nat} {f : Addr} {fd : FuncData} {ps : List Str} {ff : List D → Mem → Option (D × Mem)} {x : Str} {p : Pos} (F : FnOk X.prog X.w X.K X.mg X.base CX0 k f fd ps (spM X.K n ff)) (hr : Room k X.A) (hg : Gl X x) (hm : X.mg x = some (.ref f))
    (hk : PySem.W.keepIn X.K (.ref f) = true) (hb : Binds X.K fd ps []) (ha : PA X (e :: es) (tMA X.K mr)) (hl : ∀ δ M r, mr δ M = some r → r.1.length = n)
    (hdb : (x == ("__debug__" : Str)) = false := by decide) (he : starEach (e :: es) X.env = (false, eval e X.env) :: starEach es X.env := by rfl) (hpl : (backTo pos (starEach es X.env)).any (·.1) = false := by rfl) :
    PE X (.Call (.Name x p) (e :: es) [] pos) (tM X.K (mCall ff mr)) := PE.imp (pe_call (E := E0) (dvs := []) F hr hg hm hk hb .nil pass0 ha hdb he hpl) fun σ H Q h => call_imp hl h
theorem me_call0 {k : Nat} {f : Addr} {fd : FuncData} {ps : List Str} {ff : List D → Mem → Option (D × Mem)} {x : Str} {p : Pos} (F : FnOk X.prog X.w X.K X.mg X.base CX0 k f fd ps (spM X.K 0 ff)) (hr : Room k X.A) (hg : Gl X x) (hm : X.mg x = some (.ref f))
    (hk : PySem.W.keepIn X.K (.ref f) = true) (hb : Binds X.K fd ps []) (hdb : (x == ("__debug__" : Str)) = false := by decide) :
    PE X (.Call (.Name x p) [] [] pos) (tM X.K (mCall ff mNil)) := PE.imp (pe_call0 (E := E0) (dvs := []) F hr hg hm hk hb .nil pass0 hdb) fun σ H Q ⟨ι, δ, M, d, M', hs, hm, he, k⟩ =>
  ⟨ι, [], M, d, M', rfl, .nil, hm, he, k⟩
end Mir

set_option Elab.async false
set_option linter.all false
set_option maxRecDepth 100000
set_option maxHeartbeats 4000000
namespace Mir
open PySem PySem.Spec L2
variable {X : Cx} {a b c e o tg : Expr} {es rest : List Expr} {pos : Pos} {ma mb mc me mo : mE} {K : PySem.W.Frag} {ta tb : mT} {mr : mA} {st : Stmt} {sts : List Stmt} {m1 m2 : mS}

/-! ### slices -/
abbrev mO := DSt → Mem → Option (Option Int × Mem)
def tMO (K : PySem.W.Frag) (m : mO) : TO := fun σ H Q => ∃ ι δ M o M', RelS K ι H δ σ ∧ RelM K ι H M ∧ m δ M = some (o, M') ∧ ∀ ι' H', Le K ι H ι' H' → RelM K ι' H' M' → Q o H'
def mNoP : mO := fun _ M => some (none, M)
def mPart (m : mE) : mO := fun δ M => match m δ M with
  | some (.int i, M') => some (some i, M')
  | _ => none
theorem PO.imp {eo : Option Expr} {t t' : TO} (h : PO X eo t) (f : ∀ σ H Q, t' σ H Q → t σ H Q) : PO X eo t' := fun pins s σ H Q I q => h pins s σ H Q I (f _ _ _ q)
theorem mo_none : PO X none (tMO X.K mNoP) := PO.imp po_none fun σ H Q ⟨ι, δ, M, o, M', hs, hm, he, k⟩ => by cases he; exact k ι H .refl hm
theorem mo_some (he : PE X e (tM X.K me)) : PO X (some e) (tMO X.K (mPart me)) := PO.imp (po_some he) fun σ H Q ⟨ι, δ, M, o, M', hs, hm, he, k⟩ => by
  unfold mPart at he
  split at he
  · rename_i i M1 e1; cases he
    refine ⟨ι, δ, M, _, _, hs, hm, e1, fun ι1 H1 v l1 m1 r1 => ?_⟩
    cases r1
    exact ⟨i, rfl, k ι1 H1 l1 m1⟩
  · cases he
def cutD (xs : List D) (lo hi : Option Int) : List D := (xs.drop (HT.sIx xs.length 0 lo)).take (HT.sIx xs.length xs.length hi - HT.sIx xs.length 0 lo)
theorem cut_rel {ι : List Addr} {H : Hp} {xs : List D} {vs : List V} (r : RelDs K ι H xs vs) (lo hi : Option Int) : RelDs K ι H (cutD xs lo hi) (cutV vs lo hi) := by
  unfold cutD cutV
  rw [r.length]
  exact (r.drop _).take _
def slD (x : D) (lo hi : Option Int) (M : Mem) : Option (D × Mem) := match x with
  | .str z => if z.length ≤ sizeLine then some (.str (cutS z lo hi), M) else none
  | .tup xs => if HT.sIx xs.length 0 lo = 0 ∧ HT.sIx xs.length xs.length hi = xs.length then none else some (.tup (cutD xs lo hi), M)
  | x => match asList M x with
    | some xs => some (.obj M.length, M ++ [.lst (cutD xs lo hi)])
    | none => none
def rSlA (K : PySem.W.Frag) : V → Option Int → Option Int → Hp → VK → Prop := fun x lo hi H Q => rSlL K x lo hi H Q ∨ rSlT K x lo hi H Q ∨ rSlS x lo hi H Q
theorem SlR.or {r r' : V → Option Int → Option Int → Hp → VK → Prop} (h : SlR X r) (h' : SlR X r') : SlR X (fun x lo hi H Q => r x lo hi H Q ∨ r' x lo hi H Q) := by
  intro pins s σ H x v vl vu lo hi sl Q I rx hs p1 p2 q
  rcases q with q | q
  · exact h pins s σ H x v vl vu lo hi sl Q I rx hs p1 p2 q
  · exact h' pins s σ H x v vl vu lo hi sl Q I rx hs p1 p2 q
theorem sl_any : SlR X (rSlA X.K) := SlR.or sl_list (SlR.or sl_tup sl_str)
def mSl (me : mE) (ml mh : mO) : mE := fun δ M => (me δ M).bind fun r => (ml δ r.2).bind fun q => (mh δ q.2).bind fun z => slD r.1 q.1 z.1 z.2
theorem me_slice {lo hi : Option Expr} {ml mh : mO} {p2 : Pos} (he : PE X e (tM X.K me)) (hl : PO X lo (tMO X.K ml)) (hh : PO X hi (tMO X.K mh)) : PE X (.Subscript e (.Slice lo hi none p2) pos) (tM X.K (mSl me ml mh)) :=
  PE.imp (pe_slice sl_any he hl hh) fun σ H Q ⟨ι, δ, M, d, M', hs, hm, he, k⟩ => by
    unfold mSl at he
    cases e1 : me δ M with
    | none => rw [e1] at he; cases he
    | some r =>
      rw [e1] at he
      cases e2 : ml δ r.2 with
      | none => simp only [e2, Option.bind_some, Option.bind_none] at he; cases he
      | some q =>
        cases e3 : mh δ q.2 with
        | none => simp only [e2, e3, Option.bind_some, Option.bind_none] at he; cases he
        | some z =>
          simp only [e2, e3, Option.bind_some] at he
          refine ⟨ι, δ, M, r.1, r.2, hs, hm, e1, fun ι1 H1 v l1 m1 r1 => ⟨ι1, δ, r.2, q.1, q.2, hs.mono l1, m1, e2, fun ι2 H2 l2 m2 => ⟨ι2, δ, q.2, z.1, z.2, hs.mono (l1.trans l2), m2, e3, fun ι3 H3 l3 m3 => ?_⟩⟩⟩
          have r1 := r1.mono (l2.trans l3).lo
          have l13 := (l1.trans l2).trans l3
          have k : Got X.K ι3 H3 M' d Q := fun ι4 H4 v l4 m4 r4 => k ι4 H4 v (l13.trans l4) m4 r4
          have lists : ∀ xs, asList z.2 r.1 = some xs → some (D.obj z.2.length, z.2 ++ [MO.lst (cutD xs q.1 z.1)]) = some (d, M') → rSlA X.K v q.1 z.1 H3 Q := fun xs ex e => by
            cases e
            obtain ⟨p, vs, rfl, h1, r2⟩ := asList_rel m3 ex r1
            exact .inl ⟨p, vs, rfl, h1, got_lst m3 (cut_rel r2 _ _) k⟩
          unfold slD at he
          split at he
          · rename_i y ey; split at he
            · rename_i hz; cases he
              rw [ey] at r1
              cases r1
              exact .inr (.inr ⟨y, rfl, hz, k ι3 H3 _ .refl m3 (.str _)⟩)
            · cases he
          · rename_i xs ey; split at he
            · cases he
            · rename_i hz; cases he
              rw [ey] at r1
              cases r1 with
              | @tup p _ vs h1 r2 =>
                have hlen := r2.length
                refine .inr (.inl ⟨_, _, rfl, h1, ?_, got_tup m3 (cut_rel r2 _ _) k⟩)
                rw [← hlen]
                exact hz
          · split at he
            · rename_i xs ex; exact lists xs ex he
            · cases he

/-! ### {k: v, ..} -/
abbrev mP := DSt → Mem → Option (List (Key × D) × Mem)
def mPNil : mP := fun _ M => some ([], M)
def mPCons (mk mv : mE) (r : mP) : mP := fun δ M => (mk δ M).bind fun x => (keyD x.1).bind fun key => (mv δ x.2).bind fun y => (r δ y.2).map fun z => ((key, y.1) :: z.1, z.2)
def mDisp (m : mP) : mE := fun δ M => (m δ M).bind fun r => if r.1.length ≤ 15 then some (.obj r.2.length, r.2 ++ [.dic (r.1.foldl (fun acc kv => putD acc kv.1 kv.2) [])]) else none
theorem merge_rel {ι : List Addr} {H : Hp} : ∀ {kvs : List (Key × D)} {vs : List (Key × V)} {acc : List (Key × D)} {acc' : List (Key × V)}, RelKs K ι H acc acc' → RelKs K ι H kvs vs →
    RelKs K ι H (kvs.foldl (fun acc kv => putD acc kv.1 kv.2) acc) (mergeK acc' vs)
  | [], [], _, _, h, _ => h
  | [], _ :: _, _, _, _, h => by have := h.1; simp at this
  | _ :: _, [], _, _, _, h => by have := h.1; simp at this
  | (k, d) :: r, (k', v) :: r', acc, acc', h, q => by
    obtain ⟨e, q⟩ := q
    simp only [List.map_cons] at e q
    obtain ⟨e0, e'⟩ := List.cons.inj e
    have e0 : k = k' := e0
    subst e0
    cases q with
    | cons q1 q2 => exact merge_rel (kvs := r) (vs := r') (h.put k q1) ⟨e', q2⟩
def Pairs (K : PySem.W.Frag) (p : Addr) (trs : List (TE × TE)) (m : mP) : Prop := ∀ σ H (Q : List (V × V) → Hp → Prop), (∃ ι δ M r M', RelS K ι H δ σ ∧ RelM K ι H M ∧ p ∉ ι ∧ H p = some (.dK []) ∧ m δ M = some (r, M') ∧
  ∀ ι' H' vs, Le K ι H ι' H' → RelM K ι' H' M' → RelKs K ι' H' r vs → Q (vs.map fun kv => (kV kv.1, kv.2)) H') → tPairs trs σ H Q
theorem pairs_nil {p : Addr} : Pairs K p [] mPNil := fun σ H Q ⟨ι, δ, M, r, M', hs, hm, hp, hH, he, k⟩ => by
  cases he
  exact k ι H [] .refl hm ⟨rfl, .nil⟩
theorem pairs_cons {p : Addr} {mk mv : mE} {r : mP} {trs : List (TE × TE)} (h : Pairs K p trs r) : Pairs K p ((tM K mk, tM K mv) :: trs) (mPCons mk mv r) := fun σ H Q ⟨ι, δ, M, z, M', hs, hm, hp, hH, he, k⟩ => by
  unfold mPCons at he
  cases e1 : mk δ M with
  | none => rw [e1] at he; cases he
  | some x =>
    cases e2 : keyD x.1 with
    | none => simp only [e1, e2, Option.bind_some, Option.bind_none] at he; cases he
    | some key =>
      cases e3 : mv δ x.2 with
      | none => simp only [e1, e2, e3, Option.bind_some, Option.bind_none] at he; cases he
      | some y =>
        cases e4 : r δ y.2 with
        | none => simp only [e1, e2, e3, e4, Option.bind_some, Option.map_none] at he; cases he
        | some w =>
          simp only [e1, e2, e3, e4, Option.bind_some, Option.map_some] at he
          cases he
          refine ⟨ι, δ, M, x.1, x.2, hs, hm, e1, fun ι1 H1 v l1 m1 r1 => ⟨ι1, δ, x.2, y.1, y.2, hs.mono l1, m1, e3, fun ι2 H2 u l2 m2 r2 => ?_⟩⟩
          have l12 := l1.trans l2
          obtain ⟨h1, h2⟩ := l12.kp p _ hH hp
          refine h σ H2 _ ⟨ι2, δ, y.2, w.1, w.2, hs.mono l12, m2, h2, h1, e4, fun ι3 H3 vs l3 m3 r3 => ?_⟩
          have ev : v = kV key := keyD_rel e2 r1
          subst ev
          refine k ι3 H3 ((key, u) :: vs) (l12.trans l3) m3 ⟨?_, ?_⟩
          · simp [r3.1]
          · simp only [List.map_cons]; exact .cons (r2.mono l3) r3.2
theorem me_disp {keys : List (Option Expr)} {values : List Expr} {trs : List (TE × TE)} {m : mP} (h : PPs X pos keys values trs) (hp : ∀ p, Pairs X.K p trs m) (h1 : (keys.all fun x => x.isSome) = true) (h2 : keys.length = values.length) (h3 : keys ≠ []) (h4 : keys.length ≤ 15) :
    PE X (.Dict keys values pos) (tM X.K (mDisp m)) := PE.imp (pe_disp h h1 h2 h3 h4) fun σ H Q ⟨ι, δ, M, d, M', hs, hm, he, k⟩ p hpn => by
  unfold mDisp at he
  cases e1 : m δ M with
  | none => rw [e1] at he; cases he
  | some r =>
    rw [e1] at he
    have he : (if r.1.length ≤ 15 then some (D.obj r.2.length, r.2 ++ [MO.dic (r.1.foldl (fun acc kv => putD acc kv.1 kv.2) [])]) else none) = some (d, M') := he
    split at he
    · rename_i hz; cases he
      have npi : p ∉ ι := fun m => by obtain ⟨o, e⟩ := hm.mem m; rw [hpn] at e; cases e
      refine hp p σ _ _ ⟨ι, δ, M, r.1, r.2, hs.mono (le_new0 hpn).lo, hm.new0 hpn, npi, upd_same, e1, fun ι1 H1 vs l1 m1 r1 => ?_⟩
      obtain ⟨q1, q2⟩ := l1.kp p _ upd_same npi
      refine ⟨q1, vs, rfl, by rw [← r1.length]; exact hz, ?_⟩
      have lo : Lo X.K ι1 H1 (ι1 ++ [p]) (upd H1 p (.dK (mergeK [] vs))) := ⟨fun i a e => by rw [List.getElem?_append_left (List.getElem?_eq_some_iff.mp e).1]; exact e, fun b xs q => by
          rcases q with (q | ⟨u, q⟩) | q
          · exact .inl (.inl (by rw [upd_ne (ne_of q q1 (by intro z; cases z))]; exact q))
          · exact .inl (.inr ⟨u, by rw [upd_ne (ne_of q q1 (by intro z; cases z))]; exact q⟩)
          · exact .inr q, fun b xs q => by
          rcases q with ⟨u, q⟩ | q
          · exact .inl ⟨u, by rw [upd_ne (ne_of q q1 (by intro z; cases z))]; exact q⟩
          · exact .inr q, fun b u q => by rw [upd_ne (ne_of q q1 (by intro z; cases z))]; exact q⟩
      have lo1 : Lo X.K ι1 H1 ι1 (upd H1 p (.dK (mergeK [] vs))) := ⟨fun _ _ h => h, lo.tp, lo.rl, lo.tb⟩
      have m2 : RelM X.K ι1 (upd H1 p (.dK (mergeK [] vs))) r.2 := m1.keep (fun b hb => upd_ne (fun z => q2 (by rw [← z]; exact hb))) lo1
      have l0 := (le_new0 (K := X.K) (ι := ι) (o := HO.dK []) hpn).trans l1
      refine k (ι1 ++ [p]) _ _ ⟨fun i a e => lo.ix i a (l0.ix i a e), fun b xs q => lo.tp b xs (l0.tp b xs q), fun b xs q => lo.rl b xs (l0.rl b xs q), fun b o q n => ?_, fun b o u q => by rw [upd_ne (ne_of_none q hpn)]; exact l0.fz b o u q, fun b u q => lo.tb b u (l0.tb b u q)⟩ (m2.add q2 ⟨_, upd_same, ?_⟩) (.obj (by rw [← m1.len]; simp))
      · have hne : b ≠ p := ne_of_none q hpn
        obtain ⟨z1, z2⟩ := l0.kp b o q n
        exact ⟨by rw [upd_ne hne]; exact z1, fun z => by
          rcases List.mem_append.mp z with z | z
          · exact z2 z
          · exact hne (by simpa using z)⟩
      · exact (merge_rel (acc := []) (acc' := []) ⟨rfl, .nil⟩ r1).mono lo
    · cases he
/-- {} -/
def mDNew : mE := fun _ M => some (.obj M.length, M ++ [.dic []])
/-! ### o[i] = v -/
def setI (x y v : D) (M : Mem) : Option Mem := match asLst M x with
  | some (i, xs) => match y with
    | .int k => (ixN xs.length k).map fun j => M.set i (.lst (xs.set j v))
    | _ => none
  | none => match asDic M x with
    | some (i, kvs) => (keyD y).bind fun key => if kvs.length < sizeLine then some (M.set i (.dic (putD kvs key v))) else none
    | none => none
def rSetA : TSet := fun o i v H Q => rSetL o i v H Q ∨ ∃ a H', o = .ref a ∧ DPut H a i v H' ∧ Q H'
theorem set_any (hu : X.A.units + 1 < cLine) : PSet X rSetA := by
  intro pins s σ H o i v ov iv u Q I ro ri rv h
  rcases h with h | ⟨p, H', rfl, g, q⟩
  · exact set_list pins s σ H o i v ov iv u Q I ro ri rv h
  · cases ro
    exact d_setItem hu I g ri rv fun s' I' => ⟨H', I', q⟩
theorem setI_rel {ι : List Addr} {H : Hp} {M M' : Mem} {x y d : D} {vx vy v : V} {Q : Hp → Prop} (hm : RelM K ι H M) (rx : RelD K ι H x vx) (ry : RelD K ι H y vy) (rv : RelD K ι H d v) (h : setI x y d M = some M')
    (k : ∀ H', Le K ι H ι H' → RelM K ι H' M' → Q H') : rSetA vx vy v H Q := by
  unfold setI at h
  split at h
  · rename_i i xs e
    split at h
    · rename_i j
      cases e1 : ixN xs.length j with
      | none => rw [e1] at h; cases h
      | some n =>
        rw [e1] at h; cases h
        obtain ⟨_, _, p, vs, rfl, hi, h1, r1⟩ := asLst_rel hm e rx
        cases ry
        refine .inl ⟨p, vs, j, n, rfl, rfl, h1, by rw [← r1.length]; exact e1, k _ (le_upd (List.mem_of_getElem? hi) h1 trivial) (hm.set hi h1 trivial ⟨_, upd_same, ((r1.set rv n).mono (le_upd (List.mem_of_getElem? hi) h1 trivial).lo)⟩)⟩
    · cases h
  · split at h
    · rename_i i kvs e
      cases e1 : keyD y with
      | none => rw [e1] at h; cases h
      | some key =>
        rw [e1] at h
        have h : (if kvs.length < sizeLine then some (M.set i (.dic (putD kvs key d))) else none) = some M' := h
        split at h
        · rename_i hz; cases h
          obtain ⟨_, _, p, vs, rfl, hi, h1, r1⟩ := asDic_rel hm e rx
          refine .inr ⟨p, _, rfl, .inl ⟨vs, key, h1, keyD_rel e1 ry, by rw [← r1.length]; exact hz, rfl⟩, k _ (le_upd (List.mem_of_getElem? hi) h1 trivial) (hm.set hi h1 trivial ⟨_, upd_same, ((r1.put key rv).mono (le_upd (List.mem_of_getElem? hi) h1 trivial).lo)⟩)⟩
        · cases h
    · cases h
def mSet (mv mo mi : mE) : mS := fun δ M => (mv δ M).bind fun v => (mo δ v.2).bind fun x => (mi δ x.2).bind fun i => (setI x.1 i.1 v.1 i.2).map fun M' => (.nx δ, M')
theorem ms_sub {mv mi : mE} (h : PS X st (tAsg (tM X.K mv) (gSub (tM X.K mo) (tM X.K mi) rSetA))) : PS X st (tMS X.K (mSet mv mo mi)) := PS.imp h fun E σ H ⟨ι, δ, M, f, M', hs, hm, he, k⟩ => by
  unfold mSet at he
  cases e1 : mv δ M with
  | none => rw [e1] at he; cases he
  | some v =>
    cases e2 : mo δ v.2 with
    | none => simp only [e1, e2, Option.bind_some, Option.bind_none] at he; cases he
    | some x =>
      cases e3 : mi δ x.2 with
      | none => simp only [e1, e2, e3, Option.bind_some, Option.bind_none] at he; cases he
      | some z =>
        cases e4 : setI x.1 z.1 v.1 z.2 with
        | none => simp only [e1, e2, e3, e4, Option.bind_some, Option.map_none] at he; cases he
        | some M2 =>
          simp only [e1, e2, e3, e4, Option.bind_some, Option.map_some] at he
          cases he
          refine ⟨ι, δ, M, v.1, v.2, hs, hm, e1, fun ι1 H1 u l1 m1 r1 => ⟨ι1, δ, v.2, x.1, x.2, hs.mono l1, m1, e2, fun ι2 H2 u2 l2 m2 r2 => ⟨ι2, δ, x.2, z.1, z.2, hs.mono (l1.trans l2), m2, e3, fun ι3 H3 u3 l3 m3 r3 => ?_⟩⟩⟩
          have l13 := (l1.trans l2).trans l3
          exact setI_rel m3 (r2.mono l3) r3 (r1.mono (l2.trans l3)) e4 fun H' l4 m4 => k ι3 H' (l13.trans l4) m4 σ (hs.mono (l13.trans l4))

/-! ### built-in functions -/
def CallM (K : PySem.W.Frag) (r : List V → Hp → VK → Prop) (f : List D → Mem → Option (D × Mem)) : Prop :=
  ∀ ι H M ds vs d M' Q, RelM K ι H M → RelDs K ι H ds vs → f ds M = some (d, M') → Got K ι H M' d Q → r vs H Q
theorem callB_imp {r : List V → Hp → VK → Prop} {f : List D → Mem → Option (D × Mem)} (hf : CallM X.K r f) {σ H Q} (h : tM X.K (mCall f mr) σ H Q) : tCB r (tMA X.K mr) σ H Q := by
  obtain ⟨ι, δ, M, d, M', hs, hm, he, k⟩ := h
  unfold mCall at he
  cases e1 : mr δ M with
  | none => rw [e1] at he; cases he
  | some x =>
    rw [e1] at he
    exact ⟨ι, δ, M, x.1, x.2, hs, hm, e1, fun ι1 H1 vs l1 m1 r1 => hf ι1 H1 x.2 x.1 vs d M' Q m1 r1 he fun ι2 H2 v l2 m2 r2 => k ι2 H2 v (l1.trans l2) m2 r2⟩
theorem me_callB {id : String} {r : List V → Hp → VK → Prop} {f : List D → Mem → Option (D × Mem)} {x : Str} {p : Pos} (hc : CallR X (.builtin id) r) (hf : CallM X.K r f) (hg : Gl X x) (hm : X.mg x = none) (hv : bootBuiltins x = some (.builtin id)) (ha : PA X (e :: es) (tMA X.K mr))
    (hn : x ≠ "__name__" := by decide) (hdb : (x == ("__debug__" : Str)) = false := by decide) (he : starEach (e :: es) X.env = (false, eval e X.env) :: starEach es X.env := by rfl) (hpl : (backTo pos (starEach es X.env)).any (·.1) = false := by rfl) :
    PE X (.Call (.Name x p) (e :: es) [] pos) (tM X.K (mCall f mr)) := PE.imp (pe_callB hc hg hm hv ha hn hdb he hpl) fun _ _ _ h => callB_imp hf h
theorem me_callTy {T : String} {r : List V → Hp → VK → Prop} {f : List D → Mem → Option (D × Mem)} {x : Str} {p : Pos} (hc : CallR X (.type T) r) (hf : CallM X.K r f) (hg : Gl X x) (hm : X.mg x = none) (hv : bootBuiltins x = some (.type T)) (ha : PA X (e :: es) (tMA X.K mr))
    (hn : x ≠ "__name__" := by decide) (hdb : (x == ("__debug__" : Str)) = false := by decide) (he : starEach (e :: es) X.env = (false, eval e X.env) :: starEach es X.env := by rfl) (hpl : (backTo pos (starEach es X.env)).any (·.1) = false := by rfl) :
    PE X (.Call (.Name x p) (e :: es) [] pos) (tM X.K (mCall f mr)) := PE.imp (pe_callTy hc hg hm hv ha hn hdb he hpl) fun _ _ _ h => callB_imp hf h
theorem me_type {x : Str} {T : String} {p : Pos} (hg : Gl X x) (hm : X.mg x = none) (hv : bootBuiltins x = some (.type T)) (hn : x ≠ "__name__" := by decide) (hd : (x == ("__debug__" : Str)) = false := by decide) : PE X (.Name x p) (tM X.K (mC (.ty T))) :=
  me_of_C (v := .ty T) (fun _ _ => .ty T) (pe_bltn hg hm hv (show RelV (.ty T) (.type T) from rfl) hn hd)
theorem CallR.or {f : Value} {r r' : List V → Hp → VK → Prop} (h : CallR X f r) (h' : CallR X f r') : CallR X f (fun vs H Q => r vs H Q ∨ r' vs H Q) := by
  intro pins s σ H vs us Q I rv q
  rcases q with q | q
  · exact h pins s σ H vs us Q I rv q
  · exact h' pins s σ H vs us Q I rv q
/-- len -/
def fLen : List D → Mem → Option (D × Mem)
  | [.str z], M => if z.length ≤ sizeLine then some (.int z.length, M) else none
  | [d], M => match asSeq M d with
    | some xs => some (.int xs.length, M)
    | none => match asDic M d with
      | some (_, kvs) => some (.int kvs.length, M)
      | none => none
  | _, _ => none
theorem len_m : CallM K (fun vs H Q => (∃ x n, vs = [x] ∧ LenV K x H n ∧ Q (V.int ↑n) H) ∨ ∃ a kvs, vs = [V.ref a] ∧ H a = some (.dK kvs) ∧ Q (.int kvs.length) H) fLen := by
  intro ι H M ds vs d M' Q hm r hf k
  unfold fLen at hf
  split at hf
  · rename_i z; split at hf
    · rename_i hz; cases hf
      cases r with
      | cons r1 r2 => cases r2; cases r1; exact .inl ⟨_, z.length, rfl, ⟨hz, rfl⟩, k ι H _ .refl hm (.int _)⟩
    · cases hf
  · cases r with
    | cons r1 r2 =>
      cases r2
      split at hf
      · rename_i xs e; cases hf
        obtain ⟨p, vs, rfl, h1, r3⟩ := asSeq_rel hm e r1
        refine .inl ⟨_, xs.length, rfl, ?_, k ι H _ .refl hm (.int _)⟩
        rcases h1 with h1 | h1
        · exact .inl ⟨vs, h1, r3.length⟩
        · exact .inr ⟨vs, h1, r3.length⟩
      · split at hf
        · rename_i i kvs e; cases hf
          obtain ⟨_, _, p, vs, rfl, hi, h1, r3⟩ := asDic_rel hm e r1
          refine .inr ⟨p, vs, rfl, h1, k ι H _ .refl hm ?_⟩
          rw [r3.length]; exact .int _
        · cases hf
  · cases hf
theorem me_len {p : Pos} (hg : Gl X "len") (hm : X.mg "len" = none) (ha : PA X [e] (tMA X.K mr)) (he : starEach [e] X.env = (false, eval e X.env) :: starEach [] X.env := by rfl) : PE X (.Call (.Name "len" p) [e] [] pos) (tM X.K (mCall fLen mr)) :=
  me_callB (CallR.or call_len call_lenD) len_m hg hm PySem.boot_len ha (by decide) (by decide) he rfl
/-- list(x) -/
def fList : List D → Mem → Option (D × Mem)
  | [d], M => (asSeq M d).map fun xs => (.obj M.length, M ++ [.lst xs])
  | _, _ => none
theorem list_m : CallM K (fun xs H Q => ∃ p ys, xs = [.ref p] ∧ (SqL K H p ys ∨ SqT K H p ys) ∧ ∀ l, H l = none → Q (.ref l) (upd H l (.lst ys))) fList := by
  intro ι H M ds vs d M' Q hm r hf k
  unfold fList at hf
  split at hf
  · rename_i d0
    cases r with
    | cons r1 r2 =>
      cases r2
      cases e : asSeq M d0 with
      | none => rw [e] at hf; cases hf
      | some xs =>
        rw [e] at hf; cases hf
        obtain ⟨p, vs, rfl, h1, r3⟩ := asSeq_rel hm e r1
        exact ⟨p, vs, rfl, h1, got_lst hm r3 k⟩
  · cases hf
theorem boot_list : bootBuiltins "list" = some (.type "list") := by decide +kernel
theorem boot_tuple : bootBuiltins "tuple" = some (.type "tuple") := by decide +kernel
theorem boot_int : bootBuiltins "int" = some (.type "int") := by decide +kernel
theorem boot_str : bootBuiltins "str" = some (.type "str") := by decide +kernel
theorem boot_sum : bootBuiltins "sum" = some (.builtin "sum") := by decide +kernel
theorem boot_isinst : bootBuiltins "isinstance" = some (.builtin "isinstance") := by decide +kernel
theorem boot_min : bootBuiltins "min" = some (.builtin "min") := by decide +kernel
/-- tuple(x) -/
def fTuple : List D → Mem → Option (D × Mem)
  | [d], M => (asSeq M d).map fun xs => (.tup xs, M)
  | _, _ => none
theorem tuple_m : CallM K (fun xs H Q => ∃ p ys, xs = [.ref p] ∧ ((SqL K H p ys ∧ ∀ l, H l = none → Q (.ref l) (upd H l (.tup ys))) ∨ (SqT K H p ys ∧ Q (.ref p) H))) fTuple := by
  intro ι H M ds vs d M' Q hm r hf k
  unfold fTuple at hf
  split at hf
  · rename_i d0
    cases r with
    | cons r1 r2 =>
      cases r2
      cases e : asSeq M d0 with
      | none => rw [e] at hf; cases hf
      | some xs =>
        rw [e] at hf; cases hf
        obtain ⟨p, vs, rfl, h1, r3⟩ := asSeq_rel hm e r1
        rcases h1 with h1 | h1
        · exact ⟨p, vs, rfl, .inl ⟨h1, got_tup hm r3 k⟩⟩
        · exact ⟨p, vs, rfl, .inr ⟨h1, k ι H _ .refl hm (.tup h1 r3)⟩⟩
  · cases hf
/-- whole numbers of a list -/
def toInts : List D → Option (List Int)
  | [] => some []
  | .int i :: r => (toInts r).map fun q => i :: q
  | _ => none
theorem toInts_rel {ι : List Addr} {H : Hp} : ∀ {ds : List D} {vs : List V} {ns : List Int}, RelDs K ι H ds vs → toInts ds = some ns → vs = ns.map V.int
  | [], _, ns, r, e => by cases r; cases e; rfl
  | d :: r, _, ns, q, e => by
    cases q with
    | cons q1 q2 =>
      cases q1 <;> first
        | (simp only [toInts] at e
           cases e1 : toInts r with
           | none => rw [e1] at e; cases e
           | some l => rw [e1] at e; cases e; rw [toInts_rel q2 e1]; rfl)
        | cases e
def fSum : List D → Mem → Option (D × Mem)
  | [d], M => (asList M d).bind fun xs => (toInts xs).map fun ns => (.int ns.sum, M)
  | _, _ => none
theorem sum_m : CallM K (rSum K) fSum := by
  intro ι H M ds vs d M' Q hm r hf k
  unfold fSum at hf
  split at hf
  · rename_i d0
    cases r with
    | cons r1 r2 =>
      cases r2
      cases e : asList M d0 with
      | none => rw [e] at hf; cases hf
      | some xs =>
        rw [e] at hf
        have hf : (toInts xs).map (fun ns => (D.int ns.sum, M)) = some (d, M') := hf
        cases e1 : toInts xs with
        | none => rw [e1] at hf; cases hf
        | some ns =>
          rw [e1] at hf; cases hf
          obtain ⟨p, vs, rfl, h1, r3⟩ := asList_rel hm e r1
          have := toInts_rel r3 e1
          subst this
          exact ⟨p, ns, rfl, h1, k ι H _ .refl hm (.int _)⟩
  · cases hf
def fInt : List D → Mem → Option (D × Mem)
  | [.int i], M => some (.int i, M)
  | [.bl b], M => some (.int (if b then 1 else 0), M)
  | _, _ => none
theorem int_c : CallM K (fun xs H Q => (∃ i, xs = [.int i] ∧ Q (.int i) H) ∨ ∃ k, xs = [.bl k] ∧ Q (.int (if k then 1 else 0)) H) fInt := by
  intro ι H M ds vs d M' Q hm r hf k
  unfold fInt at hf
  split at hf
  · cases hf; cases r with | cons r1 r2 => cases r2; cases r1; exact .inl ⟨_, rfl, k ι H _ .refl hm (.int _)⟩
  · cases hf; cases r with | cons r1 r2 => cases r2; cases r1; exact .inr ⟨_, rfl, k ι H _ .refl hm (.int _)⟩
  · cases hf
/-- isinstance(x, T), T a built-in type -/
def tyD (M : Mem) : D → Option String
  | .non => some "NoneType"
  | .bl _ => some "bool"
  | .int _ => some "int"
  | .str _ => some "str"
  | .tup _ => some "tuple"
  | .obj i => match M[i]? with
    | some (.lst _) => some "list"
    | some (.dic _) => some "dict"
    | _ => none
  | _ => none
/-- the answers that are served -/
def isiB (t c : String) : Option Bool :=
  if t = c then some true
  else if t = "bool" ∧ c = "int" then some true
  else if ["NoneType", "bool", "int", "str", "tuple", "list", "dict"].contains t = true ∧ ["bool", "int", "str", "tuple", "list", "dict"].contains c = true then some false else none
theorem isi_kit (K : PySem.W.Frag) {t c : String} {b : Bool} (h : isiB t c = some b) : PySem.W.kitOne K (.type t) (.type c) = some b := by
  unfold isiB at h
  split at h
  · rename_i e; subst e; cases h
    unfold PySem.W.kitOne
    rw [if_pos (by simp)]
  · rename_i ne
    split at h
    · rename_i e; obtain ⟨rfl, rfl⟩ := e; cases h; rfl
    · rename_i nb
      split at h
      · rename_i e; cases h
        obtain ⟨e1, e2⟩ := e
        simp only [List.contains_eq_mem, List.mem_cons, List.not_mem_nil, or_false, decide_eq_true_eq] at e1 e2
        rcases e1 with rfl | rfl | rfl | rfl | rfl | rfl | rfl <;> rcases e2 with rfl | rfl | rfl | rfl | rfl | rfl <;> first
          | exact absurd rfl ne
          | exact absurd ⟨rfl, rfl⟩ nb
          | rfl
      · cases h
def TyV (K : PySem.W.Frag) (H : Hp) (v : V) (t : String) : Prop := match v with
  | .non => t = "NoneType"
  | .bl _ => t = "bool"
  | .int _ => t = "int"
  | .str _ => t = "str"
  | .ref a => (t = "tuple" ∧ ∃ xs, SqT K H a xs) ∨ (t = "list" ∧ ∃ xs, SqL K H a xs) ∨ (t = "dict" ∧ ∃ kvs, Rd H a (.dK kvs))
  | _ => False
theorem call_isi : CallR X (.builtin "isinstance") (fun vs H Q => ∃ x t c b, vs = [x, .ty c] ∧ TyV X.K H x t ∧ isiB t c = some b ∧ Q (.bl b) H) := by
  intro pins s σ H vs us Q I r h
  obtain ⟨x, t, c, b, rfl, ht, hb, q⟩ := h
  have e := isi_kit X.K hb
  cases r with
  | cons rx r2 =>
    cases r2 with
    | cons rc r3 =>
      cases r3
      cases rc
      have fin : ∀ tk, EP X pins σ Q (Value.bool b) { s with toks := tk } := fun tk => ⟨.bl b, H, I.tok _, rfl, q⟩
      cases x with
      | non => cases (show _ = Value.none from rx); cases (show t = "NoneType" from ht); exact PySem.W.kia_one PySem.W.kitx_none I.kIn True.intro e (fun z => nomatch z) fin
      | bl y => cases (show _ = Value.bool y from rx); cases (show t = "bool" from ht); exact PySem.W.kia_one PySem.W.kitx_bool I.kIn True.intro e (fun z => nomatch z) fin
      | int i => obtain ⟨u, q⟩ := (show ∃ u, _ = Value.int i u from rx); cases q; cases (show t = "int" from ht); exact PySem.W.kia_one PySem.W.kitx_int I.kIn True.intro e (fun z => nomatch z) fin
      | str y => obtain ⟨u, q⟩ := (show ∃ u, _ = Value.str y u from rx); cases q; cases (show t = "str" from ht); exact PySem.W.kia_one PySem.W.kitx_str I.kIn True.intro e (fun z => nomatch z) fin
      | ref a =>
        cases (show _ = Value.ref a from rx)
        rcases (show (t = "tuple" ∧ ∃ xs, SqT X.K H a xs) ∨ (t = "list" ∧ ∃ xs, SqL X.K H a xs) ∨ (t = "dict" ∧ ∃ kvs, Rd H a (.dK kvs)) from ht) with ⟨rfl, xs, hq⟩ | ⟨rfl, xs, hq⟩ | ⟨rfl, kvs, hq⟩
        · obtain ⟨its, _, ⟨o, h1, h2, _⟩, _⟩ := I.tuple hq
          exact PySem.W.kia_one PySem.W.kitx_tuple I.kIn ⟨o, h1, h2⟩ e (fun z => nomatch z) fin
        · obtain ⟨its, _, ⟨o, n, h1, h2, _⟩, _⟩ := I.list hq
          exact PySem.W.kia_one PySem.W.kitx_list I.kIn ⟨o, h1, h2⟩ e (fun z => nomatch z) fin
        · obtain ⟨_, _, vs, _, o, es, ep, h1, h2, _⟩ := hq.ok I.hok
          exact PySem.W.kia_one PySem.W.kitx_dict I.kIn ⟨o, h1, h2.1⟩ e (fun z => nomatch z) fin
      | byt _ => exact ht.elim
      | flt _ => exact ht.elim
      | ty _ => exact ht.elim
def fIsi : List D → Mem → Option (D × Mem)
  | [d, .ty c], M => (tyD M d).bind fun t => (isiB t c).map fun b => (.bl b, M)
  | _, _ => none
theorem isi_m : CallM K (fun vs H Q => ∃ x t c b, vs = [x, .ty c] ∧ TyV K H x t ∧ isiB t c = some b ∧ Q (.bl b) H) fIsi := by
  intro ι H M ds vs d M' Q hm r hf k
  unfold fIsi at hf
  split at hf
  · rename_i d0 c
    cases e : tyD M d0 with
    | none => rw [e] at hf; cases hf
    | some t =>
      rw [e] at hf
      have hf : (isiB t c).map (fun b => (D.bl b, M)) = some (d, M') := hf
      cases e1 : isiB t c with
      | none => rw [e1] at hf; cases hf
      | some b =>
        rw [e1] at hf; cases hf
        cases r with
        | cons r1 r2 =>
          cases r2 with
          | cons r3 r4 =>
            cases r4; cases r3
            refine ⟨_, t, c, b, rfl, ?_, e1, k ι H _ .refl hm (.bl _)⟩
            cases r1 with
            | non => cases e; rfl
            | bl _ => cases e; rfl
            | int _ => cases e; rfl
            | str _ => cases e; rfl
            | tup h1 _ => cases e; exact .inl ⟨rfl, _, h1⟩
            | ty _ => cases e
            | rol _ _ => cases e
            | @obj i a hi =>
              simp only [tyD] at e
              split at e
              · rename_i xs e2; cases e
                obtain ⟨p, hp, vs, q1, q2⟩ := hm.at e2
                rw [hi] at hp; cases hp
                exact .inr (.inl ⟨rfl, vs, .of q1⟩)
              · rename_i xs e2; cases e
                obtain ⟨p, hp, vs, q1, q2⟩ := hm.at e2
                rw [hi] at hp; cases hp
                exact .inr (.inr ⟨rfl, vs, .of q1⟩)
              · cases e
  · cases hf

/-! ### methods of lists -/
def MtMM (K : PySem.W.Frag) (r : V → List V → Hp → VK → Prop) (f : D → List D → Mem → Option (D × Mem)) : Prop :=
  ∀ ι H M x ds vx vs d M' Q, RelM K ι H M → RelD K ι H x vx → RelDs K ι H ds vs → f x ds M = some (d, M') → Got K ι H M' d Q → r vx vs H Q
/-- the receiver's type is told by the memory -/
def ListAt (M : Mem) (d : D) : Prop := ∃ xs, asList M d = some xs
open Classical in
noncomputable def mMethL (f : D → List D → Mem → Option (D × Mem)) (mo : mE) (m : mA) : mE := fun δ M => (mo δ M).bind fun x => if ListAt x.2 x.1 then (m δ x.2).bind fun r => f x.1 r.1 r.2 else none
theorem me_methL {name : Str} {apos cpos : Pos} {id : String} {r : V → List V → Hp → VK → Prop} {f : D → List D → Mem → Option (D × Mem)} (hf : MtMM X.K r f)
    (h : PE X (.Call (.Attribute o name apos) (e :: es) [] cpos) (tBM X.K "list" r (tM X.K mo) (tMA X.K mr))) : PE X (.Call (.Attribute o name apos) (e :: es) [] cpos) (tM X.K (mMethL f mo mr)) :=
  PE.imp h fun σ H Q ⟨ι, δ, M, d, M', hs, hm, he, k⟩ => by
    unfold mMethL at he
    cases e1 : mo δ M with
    | none => rw [e1] at he; cases he
    | some x =>
      rw [e1] at he
      simp only [Option.bind_some] at he
      split at he
      · rename_i hl
        cases e2 : mr δ x.2 with
        | none => rw [e2] at he; cases he
        | some r0 =>
          rw [e2] at he
          refine ⟨ι, δ, M, x.1, x.2, hs, hm, e1, fun ι1 H1 v l1 m1 r1 => ⟨?_, ι1, δ, x.2, r0.1, r0.2, hs.mono l1, m1, e2, fun ι2 H2 vs l2 m2 r2 => hf ι2 H2 r0.2 x.1 r0.1 v vs d M' Q m2 (r1.mono l2) r2 he fun ι3 H3 v l3 m3 r3 => k ι3 H3 v ((l1.trans l2).trans l3) m3 r3⟩⟩
          obtain ⟨xs, ex⟩ := hl
          obtain ⟨p, vs, rfl, h1, _⟩ := asList_rel m1 ex r1
          exact .inl ⟨rfl, vs, h1⟩
      · cases he
def fAppend (x : D) (ds : List D) (M : Mem) : Option (D × Mem) := match ds with
  | [d] => (asLst M x).bind fun p => if p.2.length < sizeLine then some (.non, M.set p.1 (.lst (p.2 ++ [d]))) else none
  | _ => none
theorem append_m : MtMM K rAppend fAppend := by
  intro ι H M x ds vx vs d M' Q hm rx r hf k
  unfold fAppend at hf
  split at hf
  · rename_i d0
    cases e : asLst M x with
    | none => rw [e] at hf; cases hf
    | some p =>
      obtain ⟨i, xs⟩ := p
      rw [e] at hf
      have hf : (if xs.length < sizeLine then some (D.non, M.set i (.lst (xs ++ [d0]))) else none) = some (d, M') := hf
      split at hf
      · rename_i hz; cases hf
        obtain ⟨_, _, q, ws, rfl, hi, h1, r1⟩ := asLst_rel hm e rx
        cases r with
        | cons r2 r3 =>
          cases r3
          exact ⟨q, ws, _, rfl, rfl, h1, by rw [← r1.length]; exact hz, got_set (xs := xs) hm hi h1 (r1.append (.cons r2 .nil)) .non k⟩
      · cases hf
  · cases hf
def fPopAt (x : D) (ds : List D) (M : Mem) : Option (D × Mem) := match ds with
  | [.int i] => (asLst M x).bind fun p => if -(2 ^ 63) ≤ i ∧ i < 2 ^ 63 then (seqIndex? i p.2.length).bind fun k => (p.2[k]?).map fun y => (y, M.set p.1 (.lst (p.2.eraseIdx k))) else none
  | _ => none
theorem popAt_m : MtMM K rPopAt fPopAt := by
  intro ι H M x ds vx vs d M' Q hm rx r hf k
  unfold fPopAt at hf
  split at hf
  · rename_i j
    cases e : asLst M x with
    | none => rw [e] at hf; cases hf
    | some p =>
      obtain ⟨i, xs⟩ := p
      rw [e] at hf
      simp only [Option.bind_some] at hf
      split at hf
      · rename_i hb
        cases e0 : seqIndex? j xs.length with
        | none => rw [e0] at hf; cases hf
        | some n =>
          rw [e0] at hf
          have hf : (xs[n]?).map (fun y => (y, M.set i (.lst (xs.eraseIdx n)))) = some (d, M') := hf
          cases e1 : xs[n]? with
          | none => rw [e1] at hf; cases hf
          | some y =>
            rw [e1] at hf; cases hf
            obtain ⟨_, _, q, ws, rfl, hi, h1, r1⟩ := asLst_rel hm e rx
            cases r with
            | cons r2 r3 =>
              cases r3; cases r2
              obtain ⟨v, ev, rv⟩ := r1.get e1
              exact ⟨q, ws, j, n, v, rfl, rfl, h1, hb.1, hb.2, by rw [← r1.length]; exact e0, ev, got_set (xs := xs) hm hi h1 (r1.eraseIdx n) rv k⟩
      · cases hf
  · cases hf
/-- xs.insert(i, y) -/
def insAt {α : Type} (xs : List α) (i : Int) (y : α) : List α := (xs.take (if i < 0 then (i + (xs.length : Int)).toNat else min i.toNat xs.length)) ++ y :: xs.drop (if i < 0 then (i + (xs.length : Int)).toNat else min i.toNat xs.length)
def rInsert : V → List V → Hp → VK → Prop := fun x vs H Q => ∃ l xs i y, x = .ref l ∧ vs = [.int i, y] ∧ H l = some (.lst xs) ∧ -(2 ^ 63) ≤ i ∧ i < 2 ^ 63 ∧ xs.length < sizeLine ∧ Q .non (upd H l (.lst (insAt xs i y)))
theorem mt_insert : MtM X "list.insert" rInsert := by
  intro pins s σ H x vs v us Q I rx rv h
  obtain ⟨l, xs, i, y, rfl, rfl, hH, hi1, hi2, hz, q⟩ := h
  cases rx
  obtain ⟨u, w, rfl, ru, rw'⟩ := rv.two
  obtain ⟨t, rfl⟩ := ru
  obtain ⟨z, its, n, r, hl, e⟩ := I.lstM hH
  refine call_meets F.slot_list_insert ⟨_, e, rfl⟩ F.entry_list_insert (F.args_list_insert_3 _ _ _)
    (AutoSeq1.list_insert_list_int_val_1 l its.toArray n i t w (by unfold Builtin.List.listFitsIndex; rw [decide_eq_true hi1, decide_eq_true hi2]; decide) (by rw [List.size_toArray]; omega)) ⟨e, ?_⟩
  refine ⟨.non, _, I.lset (its' := insAt its i w) hH e ?_ (ys := insAt xs i y) ?_ ?_, rfl, q⟩
  · unfold insAt
    simp only [List.size_toArray]
    generalize (if i < 0 then (i + (its.length : Int)).toNat else min i.toNat its.length) = k
    simp [List.extract_toArray, List.extract]
    rw [List.take_of_length_le (by rw [List.length_drop]; exact Nat.le_refl _)]
  · unfold insAt
    rw [hl]
    exact (r.take _).append (.cons rw' (r.drop _))
  · unfold insAt
    generalize (if i < 0 then (i + (xs.length : Int)).toNat else min i.toNat xs.length) = k
    simp only [List.length_append, List.length_cons, List.length_take, List.length_drop]
    omega
def fInsert (x : D) (ds : List D) (M : Mem) : Option (D × Mem) := match ds with
  | [.int i, y] => (asLst M x).bind fun p => if -(2 ^ 63) ≤ i ∧ i < 2 ^ 63 ∧ p.2.length < sizeLine then some (.non, M.set p.1 (.lst (insAt p.2 i y))) else none
  | _ => none
theorem insert_m : MtMM K rInsert fInsert := by
  intro ι H M x ds vx vs d M' Q hm rx r hf k
  unfold fInsert at hf
  split at hf
  · rename_i j y
    cases e : asLst M x with
    | none => rw [e] at hf; cases hf
    | some p =>
      obtain ⟨i, xs⟩ := p
      rw [e] at hf
      simp only [Option.bind_some] at hf
      split at hf
      · rename_i hb; cases hf
        obtain ⟨_, _, q, ws, rfl, hi, h1, r1⟩ := asLst_rel hm e rx
        cases r with
        | cons r2 r3 =>
          cases r3 with
          | cons r3 r4 =>
            cases r4; cases r2
            refine ⟨q, ws, j, _, rfl, rfl, h1, hb.1, hb.2.1, by rw [← r1.length]; exact hb.2.2, got_set (xs := xs) (ys := insAt xs j y) hm hi h1 ?_ .non k⟩
            unfold insAt
            rw [r1.length]
            exact (r1.take _).append (.cons r3 (r1.drop _))
      · cases hf
  · cases hf
/-- sep.join(texts) -/
def toStrs : List D → Option (List Str)
  | [] => some []
  | .str i :: r => (toStrs r).map fun q => i :: q
  | _ => none
theorem toStrs_rel {ι : List Addr} {H : Hp} : ∀ {ds : List D} {vs : List V} {ns : List Str}, RelDs K ι H ds vs → toStrs ds = some ns → vs = ns.map V.str
  | [], _, ns, r, e => by cases r; cases e; rfl
  | d :: r, _, ns, q, e => by
    cases q with
    | cons q1 q2 =>
      cases q1 <;> first
        | (simp only [toStrs] at e
           cases e1 : toStrs r with
           | none => rw [e1] at e; cases e
           | some l => rw [e1] at e; cases e; rw [toStrs_rel q2 e1]; rfl)
        | cases e
def fJoin (x y : D) (M : Mem) : Option (D × Mem) := match x with
  | .str a => (asSeq M y).bind fun xs => (toStrs xs).bind fun ys => if (ys.map (·.length)).sum + ys.length * a.length ≤ 16777216 then some (.str (Txt.join a ys), M) else none
  | _ => none
theorem me_join {apos : Pos} (ho : PE X o (tM X.K mo)) (he : PE X e (tM X.K me)) (hs : starEach [e] X.env = [(false, eval e X.env)] := by rfl) (hbase : attributeBase o "join" X.env (eval o X.env) = eval o X.env := by rfl) (hline : (apos.endLine == pos.line) = true := by rfl) :
    PE X (.Call (.Attribute o "join" apos) [e] [] pos) (tM X.K (mBin fJoin mo me)) := PE.imp (pe_join ho he hs hbase hline) fun σ H Q ⟨ι, δ, M, d, M', hs, hm, he, k⟩ => by
  obtain ⟨x, M1, y, M2, e1, e2, e3⟩ := mBin_some he
  unfold fJoin at e3
  split at e3
  · rename_i a
    cases e4 : asSeq M2 y with
    | none => rw [e4] at e3; cases e3
    | some xs =>
      rw [e4] at e3
      cases e5 : toStrs xs with
      | none => simp only [e5, Option.bind_some, Option.bind_none] at e3; cases e3
      | some ys =>
        simp only [e5, Option.bind_some] at e3
        split at e3
        · rename_i hz; cases e3
          refine ⟨ι, δ, M, _, M1, hs, hm, e1, fun ι1 H1 v l1 m1 r1 => ?_⟩
          cases r1
          refine ⟨⟨a, rfl⟩, ι1, δ, M1, y, _, hs.mono l1, m1, e2, fun ι2 H2 w l2 m2 r2 => ?_⟩
          obtain ⟨p, vs, rfl, h1, r3⟩ := asSeq_rel m2 e4 r2
          have := toStrs_rel r3 e5
          subst this
          exact ⟨a, p, ys, rfl, rfl, h1, hz, k ι2 H2 _ (l1.trans l2) m2 (.str _)⟩
        · cases e3
  · cases e3
/-- d.get(k, x) -/
def fGet2 (x y z : D) (M : Mem) : Option (D × Mem) := (asDict M x).bind fun kvs => (keyD y).map fun key => ((valD kvs key).getD z, M)
def mGet2 (mo ma mb : mE) : mE := fun δ M => (mo δ M).bind fun x => if (asDict x.2 x.1).isSome = true then (ma δ x.2).bind fun y => (mb δ y.2).bind fun z => fGet2 x.1 y.1 z.1 z.2 else none
end Mir

set_option Elab.async false
set_option linter.all false
set_option maxRecDepth 100000
set_option maxHeartbeats 4000000
namespace Mir
open PySem PySem.Spec L2
variable {X : Cx} {a b c e o tg : Expr} {es rest : List Expr} {pos : Pos} {ma mb mc me mo : mE} {K : PySem.W.Frag} {ta tb : mT} {mr : mA} {st : Stmt} {sts : List Stmt} {m1 m2 : mS}

theorem mv (i : Nat) {x : Str} (hN : X.N[i]? = some x := by rfl) (hv : Vis X.env.scope x := by first | exact Or.inl rfl | exact Or.inr (Or.inl rfl) | exact Or.inr (Or.inr rfl)) (hd : (x == ("__debug__" : Str)) = false := by decide)
    (hcd : (x == ("__classdict__" : Str)) = false := by decide) : PE X (.Name x pos) (tM X.K (mVar i)) := me_of_var (pe_var hN hv hd hcd)
/-- a def as its callers see it -/
structure Def (P : Program) (w : World) (K : PySem.W.Frag) (mg : Str → Option Value) (base : Heap) (x : Str) (k : Nat) (ps : List Str) (f : List D → Mem → Option (D × Mem)) : Prop where
  ex : ∃ (a : Addr) (fd : FuncData), FnOk P w K mg base CX0 k a fd ps (spM K ps.length f) ∧ mg x = some (.ref a) ∧ PySem.W.keepIn K (.ref a) = true ∧ Binds K fd ps []
theorem me_def {k j : Nat} {ps : List Str} {ff : List D → Mem → Option (D × Mem)} {x : Str} {p : Pos} (F : Def X.prog X.w X.K X.mg X.base x j ps ff) (hr : Room k X.A) (hjk : j ≤ k) (hg : Gl X x)
    (ha : PA X (e :: es) (tMA X.K mr)) (hl : ∀ δ M r, mr δ M = some r → r.1.length = ps.length)
    (hdb : (x == ("__debug__" : Str)) = false := by decide) (he : starEach (e :: es) X.env = (false, eval e X.env) :: starEach es X.env := by rfl) (hpl : (backTo pos (starEach es X.env)).any (·.1) = false := by rfl) :
    PE X (.Call (.Name x p) (e :: es) [] pos) (tM X.K (mCall ff mr)) := by
  obtain ⟨f, fd, F1, F2, F3, F4⟩ := F.ex
  exact me_call F1 (hr.mono hjk) hg F2 F3 F4 ha hl hdb he hpl
theorem me_def0 {k j : Nat} {ff : List D → Mem → Option (D × Mem)} {x : Str} {p : Pos} (F : Def X.prog X.w X.K X.mg X.base x j [] ff) (hr : Room k X.A) (hjk : j ≤ k) (hg : Gl X x)
    (hdb : (x == ("__debug__" : Str)) = false := by decide) :
    PE X (.Call (.Name x p) [] [] pos) (tM X.K (mCall ff mNil)) := by
  obtain ⟨f, fd, F1, F2, F3, F4⟩ := F.ex
  exact me_call0 F1 (hr.mono hjk) hg F2 F3 F4 hdb
/-- a def as the top has made it -/
structure FF (K : PySem.W.Frag) (mg : Str → Option Value) (x : Str) (sf : Stmt) (ps : List Str) (a : Addr) (fd : FuncData) : Prop where
  fn : Fun K x x sf a fd
  mg : mg x = some (.ref a)
  bi : Binds K fd ps []
theorem def_of {P : Program} {w : World} {mg : Str → Option Value} {base : Heap} {x : Str} {sf : Stmt} {ps : List Str} {a : Addr} {fd : FuncData} {k : Nat} {f : List D → Mem → Option (D × Mem)} (F : FF K mg x sf ps a fd)
    (G : FnOk P w K mg base CX0 k a fd ps (spM K ps.length f)) : Def P w K mg base x k ps f := ⟨⟨a, fd, G, F.mg, F.fn.kp, F.bi⟩⟩
theorem law_sp {f : List D → Mem → Option (D × Mem)} {n : Nat} (hf : ∀ ns : List Int, ns.length ≤ n → ∃ M', f [.rol (ns.map D.int)] [] = some (.bl true, M')) (H : Hp) (a : Addr) (ns : List Int) (hn : ns.length ≤ n) (hO : ∀ xs, H a ≠ some (.lst xs)) (hT : ∀ T ∈ tabsOf K, ∃ ps, H T = some (TabO T ps)) (hS : SqL K H a (ns.map V.int)) (Qx : Hp → Prop) (hQ : ∀ ι' H', Le K [] H ι' H' → Qx H') :
    spM K 1 f [.ref a] H (fun v H' => v = .bl true ∧ Qx H') fun _ _ _ => False := by
  obtain ⟨M', e⟩ := hf ns hn
  have rs : ∀ l : List Int, RelDs K [] H (l.map D.int) (l.map V.int) := fun l => by
    induction l with
    | nil => exact .nil
    | cons x r ih => exact .cons (.int x) ih
  have sf : SqF K H a (ns.map V.int) := by
    rcases hS with (h | ⟨o, h⟩) | h
    · exact absurd h (hO _)
    · exact .inl ⟨o, h⟩
    · exact .inr h
  refine ⟨[], [.rol (ns.map D.int)], [], .bl true, M', rfl, .cons (.rol sf (rs ns)) .nil, ⟨rfl, .nil, fun i a mo e => by simp at e, hT⟩, e, fun ι' H' v l m r => ?_⟩
  cases r
  exact ⟨rfl, hQ ι' H' l⟩
theorem mg_nameV {i : Nat} {x : Str} (hN : X.N.Nodup) (hi : X.N[i]? = some x) (hx : Loc X.env.scope x) {vs : List Nat} (hv : i ∈ vs) (hf : X.fn x = true ∨ X.env.scope.names.lookup x = some .local := by first | exact .inl rfl | exact .inr rfl | assumption) : PG X (.Name x pos) (tMG X.K (gOne i) vs) := mg_one (pg_name hN hi hx hf) hv
end Mir

set_option Elab.async false
set_option linter.all false
set_option maxRecDepth 100000
set_option maxHeartbeats 4000000
namespace Mir
open PySem PySem.Spec L2
variable {X : Cx} {a b c e o tg : Expr} {es rest : List Expr} {pos : Pos} {ma mb mc me mo : mE} {K : PySem.W.Frag} {ta tb : mT} {mr : mA} {st : Stmt} {sts : List Stmt} {m1 m2 : mS}

/-! ### a constant of the module -/
structure Glob (K : PySem.W.Frag) (mg : Str → Option Value) (x : Str) (d : D) : Prop where
  ex : ∃ (v : V) (u : Value), mg x = some u ∧ RelV v u ∧ ∀ ι H, RelD K ι H d v
theorem me_glob {x : Str} {p : Pos} {d : D} (hg : Gl X x) (h : Glob X.K X.mg x d) (hd : (x == ("__debug__" : Str)) = false := by decide) : PE X (.Name x p) (tM X.K (mC d)) := by
  obtain ⟨v, u, h1, h2, h3⟩ := h.ex
  exact me_of_C h3 (pe_glob hg h1 h2 hd)

/-! ### sorted -/
/-! ### dict(d), dict(pairs) -/
/-! ### a dict that is walked: locked meanwhile -/
/-- the dict at the slot j, by its number -/
def dicAt (j : Nat) (δ : DSt) (M : Mem) : Option (Nat × List (Key × D)) := match δ[j]? with
  | some (some d) => asDic M d
  | _ => none
open Classical in
noncomputable def mLockS (j : Nat) (ms : mS) : mS := fun δ M => (dicAt j δ M).bind fun p => (ms δ (M.set p.1 (.dro p.2))).bind fun r => if r.2[p.1]? = some (.dro p.2) then some (r.1, r.2.set p.1 (.dic p.2)) else none
open Classical in
noncomputable def mLockE (j : Nat) (me : mE) : mE := fun δ M => (dicAt j δ M).bind fun p => (me δ (M.set p.1 (.dro p.2))).bind fun r => if r.2[p.1]? = some (.dro p.2) then some (r.1, r.2.set p.1 (.dic p.2)) else none
def kD : Key → D
  | .inl i => .int i
  | .inr x => .str x
/-- the keys of a locked dict -/
def itKeys (M : Mem) : D → Option MI
  | .obj i => match M[i]? with
    | some (.dro kvs) => some ⟨kvs.map fun kv => kD kv.1, []⟩
    | _ => none
  | _ => none
def mKeys (m : mE) : mI := fun δ M => (m δ M).bind fun r => (itKeys r.2 r.1).map fun it => (it, r.2)
def fMin2 : List D → Mem → Option (D × Mem)
  | [.int i, .int j], M => some (.int (if j < i then j else i), M)
  | _, _ => none
theorem min2_m : CallM K (fun xs H Q => ∃ i j, xs = [.int i, .int j] ∧ Q (.int (if j < i then j else i)) H) fMin2 := by
  intro ι H M ds vs d M' Q hm r hf k
  unfold fMin2 at hf
  split at hf
  · cases hf; cases r with | cons r1 r2 => cases r2 with | cons r2 r3 => cases r3; cases r1; cases r2; exact ⟨_, _, rfl, k ι H _ .refl hm (.int _)⟩
  · cases hf
end Mir

set_option Elab.async false
set_option linter.all false
set_option maxRecDepth 100000
set_option maxHeartbeats 4000000
/-! more of dicts: dict(tuple of pairs), == of dicts, pop -/
namespace L2
open PySem PySem.Spec PyProof.Rows
section
variable {prog : Program} {w : World} {A : Around} {E : Value → Shared → Prop}
end
section
variable {X : Cx}
end
end L2
namespace Mir
open PySem PySem.Spec L2
variable {X : Cx} {a b c e o tg : Expr} {es rest : List Expr} {pos : Pos} {ma mb mc me mo : mE} {K : PySem.W.Frag} {ta tb : mT} {mr : mA} {st : Stmt} {sts : List Stmt} {m1 m2 : mS}
/-! ### dict(tuple of pairs), too -/
/-! ### d != {} -/
/-! ### d.pop(k) -/
def dropD (kvs : List (Key × D)) (k : Key) : List (Key × D) := kvs.filter fun kv => decide (kv.1 ≠ k)
theorem RelKs.drop {ι : List Addr} {H : Hp} (k : Key) : ∀ {kvs : List (Key × D)} {kvs' : List (Key × V)}, RelKs K ι H kvs kvs' → RelKs K ι H (dropD kvs k) (dropK kvs' k)
  | [], [], h => h
  | [], _ :: _, h => by have := h.1; simp at this
  | _ :: _, [], h => by have := h.1; simp at this
  | x :: r, y :: r', h => by
    have h1 := h.1
    simp only [List.map_cons, List.cons.injEq] at h1
    have h2 := h.2
    simp only [List.map_cons] at h2
    cases h2 with
    | cons ra rb =>
      have ih := RelKs.drop k (kvs := r) (kvs' := r') ⟨h1.2, rb⟩
      unfold dropD dropK at ih ⊢
      rw [List.filter_cons, List.filter_cons, h1.1]
      split
      · exact ⟨by simp only [List.map_cons, h1.1, ih.1], by simp only [List.map_cons]; exact .cons ra ih.2⟩
      · exact ih
end Mir

set_option Elab.async false
set_option linter.all false
set_option maxRecDepth 100000
set_option maxHeartbeats 4000000
namespace L2
open PySem PySem.Spec PyProof.Rows
section
variable {X : Cx}
/-- the entries of a module's dict of texts -/
def Tab (P : Params) : List DictEntry → List (Str × Str) → Prop
  | [], [] => True
  | e :: es, kv :: r => e.hash = PyData.keyHash P kv.1 ∧ (∃ t, e.key = .str kv.1 t) ∧ (∃ t, e.val = .str kv.2 t) ∧ Tab P es r
  | _, _ => False
theorem tab_dict {P : Program} {w : World} : ∀ {es : List DictEntry} {kvs : List (Str × Str)}, Tab w.params es kvs → ∃ vs : List (Key × Value), vs.map (·.1) = kvs.map (fun kv => Sum.inr kv.1) ∧ Pairs (mixKind P w) es vs ∧ (∀ e ∈ es, ∃ k, (mixKind P w).is k e.key = true ∧ e.hash = (mixKind P w).hash k) ∧
    ∀ k v, kvs.lookup k = some v → ∃ t, valueAt vs (Sum.inr k) = some (.str v t)
  | [], [], _ => ⟨[], rfl, .nil, (fun _ h => by simp at h), (fun _ _ h => by simp at h)⟩
  | e :: es, kv :: r, h => by
    obtain ⟨h1, ⟨t, h2⟩, ⟨t', h3⟩, h4⟩ := h
    obtain ⟨vs, e1, e2, e3, e4⟩ := tab_dict (P := P) h4
    refine ⟨(Sum.inr kv.1, .str kv.2 t') :: vs, by simp [e1], .cons (by rw [h2]; exact mixKind_str P w kv.1 t) h3 e2, fun e' he => ?_, fun k v hk => ?_⟩
    · rcases List.mem_cons.mp he with rfl | he
      · exact ⟨Sum.inr kv.1, by rw [h2]; exact mixKind_str P w kv.1 t, h1⟩
      · exact e3 e' he
    · rw [List.lookup_cons] at hk
      unfold valueAt
      rw [List.find?_cons]
      by_cases ek : kv.1 = k
      · subst ek
        simp at hk
        subst hk
        simp
      · have ne : (k == kv.1) = false := by simp; exact fun z => ek z.symm
        rw [ne] at hk
        simp only at hk
        have : decide ((Sum.inr kv.1 : Key) = Sum.inr k) = false := by simp [ek]
        simp only [this]
        exact e4 k v hk
  | [], _ :: _, h => h.elim
  | _ :: _, [], h => h.elim
structure GDict (K : PySem.W.Frag) (w : World) (mg : Str → Option Value) (x : Str) (tab : List (Str × Str)) : Prop where
  ex : ∃ (a : Addr) (o : Obj) (es : Array DictEntry) (ep : Nat), mg x = some (.ref a) ∧ K.lookup a = some o ∧ o.ExactDict ∧ o.data = .dict es ep ∧ Tab w.params es.toList tab ∧ (tab.map (·.1)).Nodup
theorem nodup_inr : ∀ {l : List Str}, l.Nodup → (l.map (fun k => (Sum.inr k : Key))).Nodup
  | [], _ => .nil
  | x :: r, h => by
    rw [List.nodup_cons] at h
    rw [List.map_cons, List.nodup_cons]
    exact ⟨fun z => by
      obtain ⟨y, hy, e⟩ := List.mem_map.mp z
      cases e
      exact h.1 hy, nodup_inr h.2⟩
theorem GDict.at {x : Str} {tab : List (Str × Str)} (g : GDict X.K X.w X.mg x tab) : ∃ a, X.mg x = some (.ref a) ∧ ∀ (pins : List (Addr × Obj)) (σ : St) (H : Hp) (s : Shared), Inv X pins σ H s →
    ∃ vs : List (Key × Value), s.heap.DictOf (mixKind X.prog X.w) a vs ∧ ∀ k v, tab.lookup k = some v → ∃ t, valueAt vs (Sum.inr k) = some (.str v t) := by
  obtain ⟨a, o, es, ep, h1, h2, h3, h4, h5, h6⟩ := g.ex
  refine ⟨a, h1, fun pins σ H s I => ?_⟩
  obtain ⟨vs, e1, e2, e3, e4⟩ := tab_dict (P := X.prog) h5
  refine ⟨vs, ⟨o, es, ep, I.kIn a o h2, h3, h4, fun e he => e3 e (by simpa using he), e2, ?_⟩, e4⟩
  rw [e1]
  have := nodup_inr h6
  rw [List.map_map] at this
  exact this
end
end L2
namespace Mir
open PySem PySem.Spec L2
variable {X : Cx} {a b c e o tg : Expr} {es rest : List Expr} {pos : Pos} {ma mb mc me mo : mE} {K : PySem.W.Frag} {ta tb : mT} {mr : mA} {st : Stmt} {sts : List Stmt} {m1 m2 : mS}
/-! ### TUPLE.index(e), TUPLE a constant of the module -/
/-! ### DICT[e], DICT a dict of texts of the module -/
def mIxG (tab : List (Str × Str)) (m : mE) : mE := fun δ M => (m δ M).bind fun r => match r.1 with
  | .str z => (tab.lookup z).map fun y => (.str y, r.2)
  | _ => none
end Mir

set_option Elab.async false
set_option linter.all false
set_option maxRecDepth 100000
set_option maxHeartbeats 4000000
/-! zip over two lists, tuples or texts -/
namespace L2
open PySem PySem.Spec PyProof.Rows
section
variable {prog : Program} {w : World} {A : Around} {E : Value → Shared → Prop} {s : Shared}
theorem nextOf_tuple_item {it l : Addr} {i : Nat} {items} {x : Value} {Q : Value → Shared → Prop} (hit : s.heap.IsTupleIter it l i) (hl : s.heap.IsTuple l items) (hx : items[i]? = some x)
    (hQ : ∀ h', h'.IsTupleIter it l (i + 1) → Heap.SameBut it s.heap h' → Q x { s with heap := h' }) :
    wpAny (model prog w) A (Builtin.SmallTypes.nextOf (.ref it)) Q E s := by
  obtain ⟨o, ho, hc, hd⟩ := id hit
  obtain ⟨ol, hol, _, nl, hdl⟩ := hl
  unfold Builtin.SmallTypes.nextOf
  refine wpAny_bind (wpAny_callSpecial?_slot (name := Str.ofString "__next__") hit.typeIs F.slot_tuple_iterator_next
    (wpAny_call_entry F.slot_tuple_iterator_next hit.typeIs F.entry_tuple_iterator_next ?_ (F.args_tuple_iterator_next_1 _)))
  show wpAny _ _ (field (.ref it) 0 >>= _) _ _ s
  refine wpAny_bind (wpAny_field ho hd (x := .ref l) rfl ?_)
  show wpAny _ _ (if (Value.ref l == Value.none) = true then _ else _) _ _ s
  rw [if_neg (show ¬ ((Value.ref l == Value.none) = true) from Bool.false_ne_true)]
  show wpAny _ _ (field (.ref it) 1 >>= _) _ _ s
  refine wpAny_bind (wpAny_field ho hd (x := .int i 0) rfl ?_)
  show wpAny _ _ (seqItems? (.ref l) >>= _) _ _ s
  refine wpAny_bind (wpAny_seqItems hol hdl ?_)
  simp only [Int.toNat_natCast, hx]
  refine wpAny_bind (wpAny_setField ho hd (by simp) (wpAny_pure ⟨x, rfl, wpAny_pure (hQ _ ?_ (Heap.SameBut.update ..))⟩))
  exact ⟨_, Heap.get?_update_self _ ho (Obj.isFreed_of_fields (Obj.data_mapFields hd _)), (Obj.cls_mapFields ..).trans hc, by
    rw [Obj.data_mapFields hd]; simp [rawInt]⟩
theorem nextOf_tuple_end {it l : Addr} {i : Nat} {items} {Q : Value → Shared → Prop} (hh : A.handled = none)
    (hit : s.heap.IsTupleIter it l i) (hl : s.heap.IsTuple l items) (hx : items[i]? = none)
    (hE : ∀ h' e, Heap.ExtBut it s.heap h' → (∃ o, h'.get? e = some o ∧ o.cls = .type "StopIteration") → E (.ref e) { s with heap := h' }) :
    wpAny (model prog w) A (Builtin.SmallTypes.nextOf (.ref it)) Q E s := by
  obtain ⟨o, ho, hc, hd⟩ := id hit
  obtain ⟨ol, hol, _, nl, hdl⟩ := hl
  unfold Builtin.SmallTypes.nextOf
  refine wpAny_bind (wpAny_callSpecial?_slot (name := Str.ofString "__next__") hit.typeIs F.slot_tuple_iterator_next
    (wpAny_call_entry F.slot_tuple_iterator_next hit.typeIs F.entry_tuple_iterator_next ?_ (F.args_tuple_iterator_next_1 _)))
  show wpAny _ _ (field (.ref it) 0 >>= _) _ _ s
  refine wpAny_bind (wpAny_field ho hd (x := .ref l) rfl ?_)
  show wpAny _ _ (if (Value.ref l == Value.none) = true then _ else _) _ _ s
  rw [if_neg (show ¬ ((Value.ref l == Value.none) = true) from Bool.false_ne_true)]
  show wpAny _ _ (field (.ref it) 1 >>= _) _ _ s
  refine wpAny_bind (wpAny_field ho hd (x := .int i 0) rfl ?_)
  show wpAny _ _ (seqItems? (.ref l) >>= _) _ _ s
  refine wpAny_bind (wpAny_seqItems hol hdl ?_)
  simp only [Int.toNat_natCast, hx]
  refine wpAny_bind (wpAny_rule (wpAny_bind (wpAny_setField ho hd (by simp) ?_)))
  show wpAny _ _ (newExc (.type "StopIteration") [] >>= _) _ _ _
  refine wpAny_bind ?_
  simp only [newExc, newTuple]
  refine wpAny_bind (wpAny_newObj_type ?_ (by size_fits))
  refine wpAny_bind (m := firstArgMember _ _) (wpAny_of_eq (a := Value.none) (by first | rfl | (simp only [firstArgMember]; rfl)) ?_)
  refine wpAny_newObj_type ?_ (by size_fits)
  simp only [raiseNew]
  refine wpAny_bind (wpAny_handled ?_)
  first | rw [show A.in1.handled = none from hh] | rw [hh]
  refine wpAny_bind (wpAny_pure (wpAny_throw ?_))
  exact hE _ _ (((Heap.SameBut.update ..).extBut.push _).push _) ⟨_, Heap.get?_push_size _ rfl, rfl⟩
end
/-- an iterator that is drawn from -/
structure Drw (prog : Program) (w : World) (A : Around) (it : Addr) (fp : List Addr) (n : Nat) (P : Nat → Value → Prop) (St : Nat → Heap → Prop) : Prop where
  live : ∀ i h, St i h → ∃ o, h.get? it = some o
  frame : ∀ i h h', St i h → (∀ b ∈ fp, ∀ o, h.get? b = some o → h'.get? b = some o) → St i h'
  item : ∀ i (s : Shared) (Q : Value → Shared → Prop) (E : Value → Shared → Prop), i < n → St i s.heap →
    (∀ x h' tk, P i x → St (i + 1) h' → Heap.SameBut it s.heap h' → Q x { s with heap := h', toks := tk }) → wpAny (model prog w) A (Builtin.SmallTypes.nextOf (.ref it)) Q E s
  done : ∀ i (s : Shared) (Q : Value → Shared → Prop) (E : Value → Shared → Prop), n ≤ i → St i s.heap →
    (∀ h' e, Heap.ExtBut it s.heap h' → (∃ o, h'.get? e = some o ∧ o.cls = .type "StopIteration") → E (.ref e) { s with heap := h' }) → wpAny (model prog w) A (Builtin.SmallTypes.nextOf (.ref it)) Q E s
/-- what is walked -/
inductive Sc where
  | lst (a : Addr) | tup (a : Addr) | str (x : Str)
def isAsc (x : Str) : Bool := x.cps.all (· < 128)
def strTy (x : Str) : String := if isAsc x = true then "str_ascii_iterator" else "str_iterator"
def Sc.St (it : Addr) (t : Tok) : Sc → Nat → Heap → Prop
  | .lst a, i, h => h.IsListIter it a i
  | .tup a, i, h => h.IsTupleIter it a i
  | .str x, i, h => h.IsStrIter it (strTy x) x t i
def Sc.Is (K : PySem.W.Frag) (H : Hp) : Sc → List V → Prop
  | .lst a, xs => SqL K H a xs
  | .tup a, xs => SqT K H a xs
  | .str x, xs => xs = x.cps.toList.map fun c => V.str ⟨#[c]⟩
def Sc.adr : Sc → List Addr
  | .lst a => [a]
  | .tup a => [a]
  | .str _ => []
def Sc.val : Sc → V
  | .lst a => .ref a
  | .tup a => .ref a
  | .str x => .str x
def Sc.obj (t : Tok) : Sc → Obj
  | .lst a => { cls := .type "list_iterator", data := .fields #[.ref a, .int 0 0] }
  | .tup a => { cls := .type "tuple_iterator", data := .fields #[.ref a, .int 0 0] }
  | .str x => { cls := .type (strTy x), data := .fields #[.str x t, .int 0 0] }
theorem Sc.St.keep {it : Addr} {t : Tok} {S : Sc} {i : Nat} {h h' : Heap} (st : S.St it t i h) (k : ∀ o, h.get? it = some o → h'.get? it = some o) : S.St it t i h' := by
  cases S with
  | lst a => exact Heap.IsListIter.at st k
  | tup a => exact Heap.IsTupleIter.at st k
  | str x => obtain ⟨o, ho, r⟩ := (show h.IsStrIter it (strTy x) x t i from st); exact ⟨o, k o ho, r⟩
theorem Sc.St.there {it : Addr} {t : Tok} {S : Sc} {i : Nat} {h : Heap} (st : S.St it t i h) : ∃ o vs, h.get? it = some o ∧ o.data = .fields vs := by
  cases S with
  | lst a => obtain ⟨o, e, _, d⟩ := (show h.IsListIter it a i from st); exact ⟨o, _, e, d⟩
  | tup a => obtain ⟨o, e, _, d⟩ := (show h.IsTupleIter it a i from st); exact ⟨o, _, e, d⟩
  | str x => obtain ⟨o, e, _, d⟩ := (show h.IsStrIter it (strTy x) x t i from st); exact ⟨o, _, e, d⟩
theorem Sc.st0 (S : Sc) (it : Addr) (t : Tok) (h : Heap) (e : h.get? it = some (S.obj t)) : S.St it t 0 h := by
  cases S with
  | lst a => exact ⟨_, e, rfl, rfl⟩
  | tup a => exact ⟨_, e, rfl, rfl⟩
  | str x => exact ⟨_, e, rfl, rfl⟩
section
variable {X : Cx} {pins : List (Addr × Obj)} {σ : L2.St} {H : Hp} {s : Shared}
theorem Sc.inj (I : Inv X pins σ H s) {S : Sc} {xs ys : List V} (h : S.Is X.K H xs) (h' : S.Is X.K H ys) : xs = ys := by
  cases S with
  | lst a => exact I.list_inj h h'
  | tup a => exact I.tuple_inj h h'
  | str x => exact Eq.trans h (Eq.symm h')
theorem Sc.lt (I : Inv X pins σ H s) {S : Sc} {xs : List V} (h : S.Is X.K H xs) : ∀ a ∈ S.adr, a < s.heap.objs.size := by
  intro b hb
  cases S with
  | lst a => cases (List.mem_singleton.mp hb); obtain ⟨_, _, p, _⟩ := I.list h; exact p.lt
  | tup a => cases (List.mem_singleton.mp hb); obtain ⟨_, _, p, _⟩ := I.tuple h; exact p.lt
  | str x => cases hb
theorem Sc.drw (I : Inv X pins σ H s) {A : Around} (hh : A.handled = none) {S : Sc} {xs : List V} (hq : S.Is X.K H xs) (it : Addr) (t : Tok) (hne : ∀ a ∈ S.adr, a ≠ it) :
    ∃ B : Heap → Prop, B s.heap ∧ (∀ h h', B h → (∀ b ∈ S.adr, ∀ o, h.get? b = some o → h'.get? b = some o) → B h') ∧
      Drw X.prog X.w A it (it :: S.adr) xs.length (fun i u => ∃ x, xs[i]? = some x ∧ RelV x u) (fun i h => S.St it t i h ∧ B h) := by
  cases S with
  | lst a =>
    obtain ⟨its, rv, p, _⟩ := I.list hq
    have hl := rv.length
    have ha : a ≠ it := hne a (by simp [Sc.adr])
    refine ⟨fun h => h.IsList a its.toArray, p.isList, fun h h' q k => q.at fun o e => k a (by simp [Sc.adr]) o e, ?_, ?_, ?_, ?_⟩
    · rintro i h ⟨st, _⟩
      obtain ⟨o, _, e, _⟩ := Sc.St.there st
      exact ⟨o, e⟩
    · rintro i h h' ⟨st, q⟩ k
      exact ⟨st.keep (k it (by simp)), q.at fun o e => k a (by simp [Sc.adr]) o e⟩
    · rintro i s' Q E hi ⟨st, q⟩ k
      have hx : xs[i]? = some xs[i] := List.getElem?_eq_getElem hi
      obtain ⟨u, hu, ru⟩ := rv.get hx
      exact wpAny_nextOf_list_item st q (x := u) (by simpa using hu) fun h' st' sb => k u h' s'.toks ⟨_, hx, ru⟩ ⟨st', q.extBut sb.extBut ha⟩ sb
    · rintro i s' Q E hi ⟨st, q⟩ k
      exact wpAny_nextOf_list_end hh st q (by simp; omega) k
  | tup a =>
    obtain ⟨its, rv, p, _⟩ := I.tuple hq
    have hl := rv.length
    have ha : a ≠ it := hne a (by simp [Sc.adr])
    refine ⟨fun h => h.IsTuple a its.toArray, p, fun h h' q k => q.at fun o e => k a (by simp [Sc.adr]) o e, ?_, ?_, ?_, ?_⟩
    · rintro i h ⟨st, _⟩
      obtain ⟨o, _, e, _⟩ := Sc.St.there st
      exact ⟨o, e⟩
    · rintro i h h' ⟨st, q⟩ k
      exact ⟨st.keep (k it (by simp)), q.at fun o e => k a (by simp [Sc.adr]) o e⟩
    · rintro i s' Q E hi ⟨st, q⟩ k
      have hx : xs[i]? = some xs[i] := List.getElem?_eq_getElem hi
      obtain ⟨u, hu, ru⟩ := rv.get hx
      exact nextOf_tuple_item st q (x := u) (by simpa using hu) fun h' st' sb => k u h' s'.toks ⟨_, hx, ru⟩ ⟨st', q.extBut sb.extBut ha⟩ sb
    · rintro i s' Q E hi ⟨st, q⟩ k
      exact nextOf_tuple_end hh st q (by simp; omega) k
  | str x =>
    have hq : xs = x.cps.toList.map fun c => V.str ⟨#[c]⟩ := hq
    have hl : xs.length = x.cps.size := by rw [hq]; simp
    have get : ∀ i c, x.cps[i]? = some c → xs[i]? = some (V.str ⟨#[c]⟩) := fun i c e => by rw [hq, List.getElem?_map, Array.getElem?_toList, e]; rfl
    refine ⟨fun _ => True, trivial, fun _ _ _ _ => trivial, ?_, ?_, ?_, ?_⟩
    · rintro i h ⟨st, _⟩
      obtain ⟨o, _, e, _⟩ := Sc.St.there st
      exact ⟨o, e⟩
    · rintro i h h' ⟨st, _⟩ k
      exact ⟨st.keep (k it (by simp)), trivial⟩
    · rintro i s' Q E hi ⟨st, _⟩ k
      have st : s'.heap.IsStrIter it (strTy x) x t i := st
      have hi' : i < x.cps.size := by omega
      have hx : x.cps[i]? = some x.cps[i] := by simp [hi']
      unfold strTy at st
      split at st
      · rename_i ha
        refine wpAny_nextOf_ascii_item st hx fun h' st' sb => k _ h' (s'.toks + 1) ⟨_, get i _ hx, ⟨_, rfl⟩⟩ ⟨?_, trivial⟩ sb
        show h'.IsStrIter it (strTy x) x t (i + 1)
        unfold strTy
        rw [if_pos ha]
        exact st'
      · rename_i ha
        refine wpAny_nextOf_wide_item st hx fun h' st' sb => k _ h' (s'.toks + 1) ⟨_, get i _ hx, ⟨_, rfl⟩⟩ ⟨?_, trivial⟩ sb
        show h'.IsStrIter it (strTy x) x t (i + 1)
        unfold strTy
        rw [if_neg ha]
        exact st'
    · rintro i s' Q E hi ⟨st, _⟩ k
      have st : s'.heap.IsStrIter it (strTy x) x t i := st
      have hx : x.cps[i]? = none := by simp; omega
      unfold strTy at st
      split at st
      · exact wpAny_nextOf_ascii_end hh st hx k
      · exact wpAny_nextOf_wide_end hh st hx k
/-- iter of it -/
def IterTo (u : Value) (o : Obj) (s : Shared) : Prop := ∀ (prog : Program) (w : World) (A : Around) (Q : Value → Shared → Prop) (E : Value → Shared → Prop), Q (.ref s.heap.objs.size) { s with heap := s.heap.push o } → wpAny (model prog w) A (pyIter u) Q E s
theorem Sc.iter (I : Inv X pins σ H s) {S : Sc} {xs : List V} (hq : S.Is X.K H xs) {u : Value} (r : RelV S.val u) : ∃ t, ∀ s' : Shared, (∀ b o, s.heap.get? b = some o → s'.heap.get? b = some o) → IterTo u (S.obj t) s' := by
  cases S with
  | lst a =>
    cases r
    obtain ⟨its, rv, p, _⟩ := I.list hq
    exact ⟨0, fun s' k prog w A Q E q => wpAny_pyIter_list (p.isList.at fun o e => k _ _ e) q⟩
  | tup a =>
    cases r
    obtain ⟨its, rv, p, _⟩ := I.tuple hq
    exact ⟨0, fun s' k prog w A Q E q => wpAny_pyIter_tuple ((show s.heap.IsTuple a its.toArray from p).at fun o e => k _ _ e) q⟩
  | str x =>
    obtain ⟨t, rfl⟩ := r
    refine ⟨t, fun s' k prog w A Q E q => ?_⟩
    have e : Sc.obj t (.str x) = { cls := .type (strTy x), data := .fields #[.str x t, .int 0 0] } := rfl
    rw [e] at q
    unfold strTy at q
    cases ha : isAsc x with
    | true => rw [ha, if_pos rfl] at q; exact wpAny_pyIter_ascii ha q
    | false => rw [ha, if_neg (by decide)] at q; exact wpAny_pyIter_wide ha q
end
/-! ### zip -/
structure ZipA (z TI TO i1 i2 : Addr) (f1 f2 : List Addr) : Prop where
  TIz : TI ≠ z
  TOz : TO ≠ z
  i1z : i1 ≠ z
  i2z : i2 ≠ z
  TITO : TI ≠ TO
  TIi1 : TI ≠ i1
  TIi2 : TI ≠ i2
  TOi1 : TO ≠ i1
  TOi2 : TO ≠ i2
  i12 : i1 ≠ i2
  f1z : z ∉ f1
  f1TO : TO ∉ f1
  f1i : i2 ∉ f1
  f2z : z ∉ f2
  f2TO : TO ∉ f2
  f2i : i1 ∉ f2
section
variable {prog : Program} {w : World} {A : Around} {E : Value → Shared → Prop} {s : Shared} {z TI TO i1 i2 : Addr} {f1 f2 : List Addr} {n1 n2 k : Nat} {P1 P2 : Nat → Value → Prop} {S1 S2 : Nat → Heap → Prop}
theorem Drw.but {it c : Addr} {fp : List Addr} {n i : Nat} {P : Nat → Value → Prop} {St : Nat → Heap → Prop} {h h' : Heap} (D : Drw prog w A it fp n P St) (st : St i h) (b : Heap.ExtBut c h h') (hc : c ∉ fp) : St i h' :=
  D.frame _ _ _ st fun b' hb o e => b b' o (fun z => hc (z ▸ hb)) e
theorem zipG_item {a b : Value} {Q : Value → Shared → Prop} (D1 : Drw prog w A i1 f1 n1 P1 S1) (D2 : Drw prog w A i2 f2 n2 P2 S2) (D : ZipA z TI TO i1 i2 f1 f2)
    (hz : IsZip s.heap z TI TO .none) (hTI : IsPair s.heap TI (.ref i1) (.ref i2)) (hTO : IsPair s.heap TO a b) (h1 : S1 k s.heap) (h2 : S2 k s.heap) (hk1 : k < n1) (hk2 : k < n2)
    (hQ : ∀ x y h' tk, P1 k x → P2 k y → IsZip h' z TI TO (rawInt s.heap.objs.size) → IsPair h' TO x y → S1 (k + 1) h' → S2 (k + 1) h' → IsPair h' s.heap.objs.size x y → h'.objs.size = s.heap.objs.size + 1 →
      (∀ c o, c ≠ z → c ≠ TO → c ≠ i1 → c ≠ i2 → s.heap.get? c = some o → h'.get? c = some o) → Q (.ref s.heap.objs.size) { s with heap := h', toks := tk }) :
    wpAny (model prog w) A (Builtin.«zip.__next__» ⟨[.ref z], []⟩) (fun fin s' => ∃ v, fin = .done (.ret v) ∧ Q v s') E s := by
  show wpAny _ _ (field (.ref z) 2 >>= _) _ _ _
  refine wpAny_bind (wpAny_field hz rfl (x := .bool false) rfl ?_)
  show wpAny _ _ (field (.ref z) 3 >>= _) _ _ _
  refine wpAny_bind (wpAny_field hz rfl (x := .ref TI) rfl ?_)
  refine wpAny_bind (wpAny_seqItems hTI rfl ?_)
  show wpAny _ _ (Builtin.SmallTypes.ownedTupleIsFree (.ref z) >>= _) _ _ _
  refine wpAny_bind ?_
  unfold Builtin.SmallTypes.ownedTupleIsFree
  refine wpAny_bind (wpAny_field hz rfl (x := .none) rfl (wpAny_pure ?_))
  simp only [if_true]
  refine wpAny_bind (wpAny_rule ?_)
  refine wpAny_bind (wpAny_field hz rfl (x := .ref TO) rfl ?_)
  refine wpAny_bind (wpAny_setField_rec hz (by simp) fun h₁ hz₁ hs₁ => ?_)
  replace hz₁ : IsZip h₁ z TI TO .ellipsis := hz₁
  refine wpAny_bind ?_
  simp only [List.zipIdx_cons, List.zipIdx_nil, List.forIn_cons, List.forIn_nil]
  refine wpAny_bind (wpAny_bind (wpAny_onRaise ?_))
  show wpAny _ _ (Builtin.SmallTypes.nextOf (.ref i1) >>= _) _ _ _
  refine wpAny_bind (D1.item k _ _ _ hk1 (D1.but h1 hs₁.extBut D.f1z) fun x h₂ tk₂ hPx h1₂ hs₂ => wpAny_pure ?_)
  have hTO₂ : IsPair h₂ TO a b := hs₂.extBut _ _ D.TOi1 (hs₁.extBut _ _ D.TOz hTO)
  refine wpAny_bind (wpAny_seqItems hTO₂ rfl ?_)
  refine wpAny_bind (wpAny_updateSeq_pair hTO₂ fun h₃ hTO₃ hs₃ => ?_)
  replace hTO₃ : IsPair h₃ TO x b := hTO₃
  replace hs₃ : Heap.SameBut TO h₂ h₃ := hs₃
  refine wpAny_bind (wpAny_letGo (wpAny_pure ?_))
  refine wpAny_bind (wpAny_bind (wpAny_onRaise ?_))
  show wpAny _ _ (Builtin.SmallTypes.nextOf (.ref i2) >>= _) _ _ _
  refine wpAny_bind (D2.item k _ _ _ hk2 (D2.but (D2.but (D2.but h2 hs₁.extBut D.f2z) hs₂.extBut D.f2i) hs₃.extBut D.f2TO) fun y h₄ tk₄ hPy h2₄ hs₄ => wpAny_pure ?_)
  replace hs₄ : Heap.SameBut i2 h₃ h₄ := hs₄
  have hTO₄ : IsPair h₄ TO x b := hs₄.extBut _ _ D.TOi2 hTO₃
  refine wpAny_bind (wpAny_seqItems hTO₄ rfl ?_)
  refine wpAny_bind (wpAny_updateSeq_pair hTO₄ fun h₅ hTO₅ hs₅ => ?_)
  replace hTO₅ : IsPair h₅ TO x y := hTO₅
  replace hs₅ : Heap.SameBut TO h₄ h₅ := hs₅
  refine wpAny_bind (wpAny_letGo (wpAny_pure (wpAny_pure ?_)))
  refine wpAny_bind (wpAny_seqItems hTO₅ rfl ?_)
  refine wpAny_bind (wpAny_newTuple ?_)
  have hsz : h₅.objs.size = s.heap.objs.size := by rw [hs₅.1, hs₄.1, hs₃.1, hs₂.1, hs₁.1]
  have hz₅ : IsZip h₅ z TI TO .ellipsis := hs₅.extBut _ _ D.TOz.symm (hs₄.extBut _ _ D.i2z.symm (hs₃.extBut _ _ D.TOz.symm (hs₂.extBut _ _ D.i1z.symm hz₁)))
  have hk₅ : ∀ c o, c ≠ z → c ≠ TO → c ≠ i1 → c ≠ i2 → s.heap.get? c = some o → h₅.get? c = some o := fun c o c1 c2 c3 c4 e =>
    hs₅.extBut _ _ c2 (hs₄.extBut _ _ c4 (hs₃.extBut _ _ c2 (hs₂.extBut _ _ c3 (hs₁.extBut _ _ c1 e))))
  have h1₅ : S1 (k + 1) h₅ := D1.but (D1.but (D1.but h1₂ hs₃.extBut D.f1TO) hs₄.extBut D.f1i) hs₅.extBut D.f1TO
  have h2₅ : S2 (k + 1) h₅ := D2.but h2₄ hs₅.extBut D.f2TO
  have hzlt : z < h₅.objs.size := Heap.lt_size hz₅
  show wpAny _ _ (Builtin.SmallTypes.ownedTupleHandOut (.ref z) (.ref h₅.objs.size) >>= _) _ _ _
  refine wpAny_bind ?_
  unfold Builtin.SmallTypes.ownedTupleHandOut
  have hz₆ : IsZip (h₅.push { cls := .type "tuple", data := .seq #[x, y] }) z TI TO .ellipsis := Heap.get?_push_of_some _ hz₅
  refine wpAny_bind (wpAny_setField_rec hz₆ (by simp) fun h₇ hz₇ hs₇ => ?_)
  replace hz₇ : IsZip h₇ z TI TO (rawInt h₅.objs.size) := hz₇
  replace hs₇ : Heap.SameBut z (h₅.push { cls := .type "tuple", data := .seq #[x, y] }) h₇ := hs₇
  refine wpAny_setField_rec hz₇ (by simp) fun h₈ hz₈ hs₈ => ?_
  replace hz₈ : IsZip h₈ z TI TO (rawInt h₅.objs.size) := hz₈
  replace hs₈ : Heap.SameBut z h₇ h₈ := hs₈
  have up : ∀ c o, c ≠ z → h₅.get? c = some o → h₈.get? c = some o := fun c o c1 e => hs₈.extBut _ _ c1 (hs₇.extBut _ _ c1 (Heap.get?_push_of_some _ e))
  have hT₈ : IsPair h₈ h₅.objs.size x y := hs₈.extBut _ _ (Nat.ne_of_gt hzlt) (hs₇.extBut _ _ (Nat.ne_of_gt hzlt) (Heap.get?_push_size _ rfl))
  have hz8 : h₈.objs.size = h₅.objs.size + 1 := by rw [hs₈.1, hs₇.1, Heap.size_push]
  rw [hsz] at hz₈ hT₈ hz8
  refine wpAny_pure ⟨_, rfl, ?_⟩
  show Q (.ref h₅.objs.size) _
  rw [hsz]
  exact hQ x y h₈ tk₄ hPx hPy hz₈ (up _ _ D.TOz hTO₅) (D1.frame _ _ _ h1₅ fun b hb o e => up b o (fun q => D.f1z (q ▸ hb)) e) (D2.frame _ _ _ h2₅ fun b hb o e => up b o (fun q => D.f2z (q ▸ hb)) e) hT₈ hz8
    fun c o c1 c2 c3 c4 e => up c o c1 (hk₅ c o c1 c2 c3 c4 e)
theorem zipG_end {a b : Value} {Q : Fin → Shared → Prop} (D1 : Drw prog w A i1 f1 n1 P1 S1) (D2 : Drw prog w A i2 f2 n2 P2 S2) (D : ZipA z TI TO i1 i2 f1 f2)
    (hz : IsZip s.heap z TI TO .none) (hTI : IsPair s.heap TI (.ref i1) (.ref i2)) (hTO : IsPair s.heap TO a b) (h1 : S1 k s.heap) (h2 : S2 k s.heap) (hend : n1 ≤ k ∨ n2 ≤ k)
    (hE : ∀ h' e tk, (∀ c o, c ≠ z → c ≠ TO → c ≠ i1 → c ≠ i2 → s.heap.get? c = some o → h'.get? c = some o) → (∃ o, h'.get? e = some o ∧ o.cls = .type "StopIteration") → E (.ref e) { s with heap := h', toks := tk }) :
    wpAny (model prog w) A (Builtin.«zip.__next__» ⟨[.ref z], []⟩) Q E s := by
  show wpAny _ _ (field (.ref z) 2 >>= _) _ _ _
  refine wpAny_bind (wpAny_field hz rfl (x := .bool false) rfl ?_)
  show wpAny _ _ (field (.ref z) 3 >>= _) _ _ _
  refine wpAny_bind (wpAny_field hz rfl (x := .ref TI) rfl ?_)
  refine wpAny_bind (wpAny_seqItems hTI rfl ?_)
  show wpAny _ _ (Builtin.SmallTypes.ownedTupleIsFree (.ref z) >>= _) _ _ _
  refine wpAny_bind ?_
  unfold Builtin.SmallTypes.ownedTupleIsFree
  refine wpAny_bind (wpAny_field hz rfl (x := .none) rfl (wpAny_pure ?_))
  simp only [if_true]
  refine wpAny_bind (wpAny_rule ?_)
  refine wpAny_bind (wpAny_field hz rfl (x := .ref TO) rfl ?_)
  refine wpAny_bind (wpAny_setField_rec hz (by simp) fun h₁ hz₁ hs₁ => ?_)
  replace hz₁ : IsZip h₁ z TI TO .ellipsis := hz₁
  refine wpAny_bind ?_
  simp only [List.zipIdx_cons, List.zipIdx_nil, List.forIn_cons, List.forIn_nil]
  refine wpAny_bind (wpAny_bind (wpAny_onRaise ?_))
  show wpAny _ _ (Builtin.SmallTypes.nextOf (.ref i1) >>= _) _ _ _
  by_cases hk : n1 ≤ k
  · refine wpAny_bind (D1.done k _ _ _ hk (D1.but h1 hs₁.extBut D.f1z) fun h₂ e hs₂ he => ?_)
    obtain ⟨oe, hoe, hce⟩ := he
    replace hs₂ : Heap.ExtBut i1 h₁ h₂ := hs₂
    have hz₂ : IsZip h₂ z TI TO .ellipsis := hs₂ _ _ D.i1z.symm hz₁
    have hez : e ≠ z := fun x => by subst x; rw [hz₂] at hoe; cases hoe; simp at hce
    exact wpAny_setField_rec hz₂ (by simp) fun h₃ _ hs₃ => hE h₃ e _ (fun c o c1 _ c3 _ x => hs₃.extBut _ _ c1 (hs₂ _ _ c3 (hs₁.extBut _ _ c1 x))) ⟨oe, hs₃.extBut _ _ hez hoe, hce⟩
  · have hk2 : n2 ≤ k := hend.resolve_left hk
    refine wpAny_bind (D1.item k _ _ _ (Nat.lt_of_not_le hk) (D1.but h1 hs₁.extBut D.f1z) fun x h₂ tk₂ hPx h1₂ hs₂ => wpAny_pure ?_)
    replace hs₂ : Heap.SameBut i1 h₁ h₂ := hs₂
    have hTO₂ : IsPair h₂ TO a b := hs₂.extBut _ _ D.TOi1 (hs₁.extBut _ _ D.TOz hTO)
    refine wpAny_bind (wpAny_seqItems hTO₂ rfl ?_)
    refine wpAny_bind (wpAny_updateSeq_pair hTO₂ fun h₃ hTO₃ hs₃ => ?_)
    replace hs₃ : Heap.SameBut TO h₂ h₃ := hs₃
    refine wpAny_bind (wpAny_letGo (wpAny_pure ?_))
    refine wpAny_bind (wpAny_bind (wpAny_onRaise ?_))
    show wpAny _ _ (Builtin.SmallTypes.nextOf (.ref i2) >>= _) _ _ _
    refine wpAny_bind (D2.done k _ _ _ hk2 (D2.but (D2.but (D2.but h2 hs₁.extBut D.f2z) hs₂.extBut D.f2i) hs₃.extBut D.f2TO) fun h₄ e hs₄ he => ?_)
    obtain ⟨oe, hoe, hce⟩ := he
    replace hs₄ : Heap.ExtBut i2 h₃ h₄ := hs₄
    have hz₄ : IsZip h₄ z TI TO .ellipsis := hs₄ _ _ D.i2z.symm (hs₃.extBut _ _ D.TOz.symm (hs₂.extBut _ _ D.i1z.symm hz₁))
    have hez : e ≠ z := fun x => by subst x; rw [hz₄] at hoe; cases hoe; simp at hce
    exact wpAny_setField_rec hz₄ (by simp) fun h₅ _ hs₅ => hE h₅ e _ (fun c o c1 c2 c3 c4 x => hs₅.extBut _ _ c1 (hs₄ _ _ c4 (hs₃.extBut _ _ c2 (hs₂.extBut _ _ c3 (hs₁.extBut _ _ c1 x))))) ⟨oe, hs₅.extBut _ _ hez hoe, hce⟩
theorem next_zipG_item {a b : Value} {Q : Option Value → Shared → Prop} (D1 : Drw prog w A.in1 i1 f1 n1 P1 S1) (D2 : Drw prog w A.in1 i2 f2 n2 P2 S2) (D : ZipA z TI TO i1 i2 f1 f2)
    (hz : IsZip s.heap z TI TO .none) (hTI : IsPair s.heap TI (.ref i1) (.ref i2)) (hTO : IsPair s.heap TO a b) (h1 : S1 k s.heap) (h2 : S2 k s.heap) (hk1 : k < n1) (hk2 : k < n2)
    (hQ : ∀ x y h' tk, P1 k x → P2 k y → IsZip h' z TI TO (rawInt s.heap.objs.size) → IsPair h' TO x y → S1 (k + 1) h' → S2 (k + 1) h' → IsPair h' s.heap.objs.size x y → h'.objs.size = s.heap.objs.size + 1 →
      (∀ c o, c ≠ z → c ≠ TO → c ≠ i1 → c ≠ i2 → s.heap.get? c = some o → h'.get? c = some o) → Q (some (.ref s.heap.objs.size)) { s with heap := h', toks := tk }) :
    wpAny (model prog w) A (pyNext (.ref z)) Q E s := by
  have hT : s.TypeIs (.ref z) "zip" := ⟨_, hz, rfl⟩
  unfold pyNext
  exact wpAny_bind (wpAny_attempt (wpAny_callSpecial?_slot (name := Str.ofString "__next__") hT F.slot_zip_next
    (wpAny_call_entry F.slot_zip_next hT F.entry_zip_next
      (zipG_item D1 D2 D hz hTI hTO h1 h2 hk1 hk2 fun x y h' tk b1 b2 a1 a2 a3 a4 a5 a6 a7 => wpAny_pure (hQ x y h' tk b1 b2 a1 a2 a3 a4 a5 a6 a7)) (F.args_zip_next_1 _))))
theorem next_zipG_end {a b : Value} {Q : Option Value → Shared → Prop} (D1 : Drw prog w A.in1 i1 f1 n1 P1 S1) (D2 : Drw prog w A.in1 i2 f2 n2 P2 S2) (D : ZipA z TI TO i1 i2 f1 f2)
    (hz : IsZip s.heap z TI TO .none) (hTI : IsPair s.heap TI (.ref i1) (.ref i2)) (hTO : IsPair s.heap TO a b) (h1 : S1 k s.heap) (h2 : S2 k s.heap) (hend : n1 ≤ k ∨ n2 ≤ k)
    (hQ : ∀ h' tk, (∀ c o, c ≠ z → c ≠ TO → c ≠ i1 → c ≠ i2 → s.heap.get? c = some o → h'.get? c = some o) → Q none { s with heap := h', toks := tk }) : wpAny (model prog w) A (pyNext (.ref z)) Q E s := by
  have hT : s.TypeIs (.ref z) "zip" := ⟨_, hz, rfl⟩
  unfold pyNext
  refine wpAny_bind (wpAny_attempt (wpAny_callSpecial?_slot (name := Str.ofString "__next__") hT F.slot_zip_next
    (wpAny_call_entry F.slot_zip_next hT F.entry_zip_next (zipG_end D1 D2 D hz hTI hTO h1 h2 hend fun h' e tk hk he => ?_) (F.args_zip_next_1 _))))
  obtain ⟨o, ho, hc⟩ := he
  refine wpAny_bind (wpAny_isInstance (T := "StopIteration") (b := true) ⟨o, ho, hc⟩ isSubtype_stop ?_)
  exact wpAny_pure (hQ _ _ hk)
end
def zH1 (h : Heap) (o1 : Obj) : Heap := h.push o1
def zH2 (h : Heap) (o1 o2 : Obj) : Heap := (zH1 h o1).push o2
def zH3 (h : Heap) (o1 o2 : Obj) : Heap := (zH2 h o1 o2).push { cls := .type "tuple", data := .seq #[.ref h.objs.size, .ref (zH1 h o1).objs.size] }
def zH4 (h : Heap) (o1 o2 : Obj) : Heap := (zH3 h o1 o2).push { cls := .type "tuple", data := .seq #[.none, .none] }
def zH5 (h : Heap) (o1 o2 : Obj) : Heap := (zH4 h o1 o2).push { cls := .type "zip", data := .fields #[.none, .bool false, .bool false, .ref (zH2 h o1 o2).objs.size, .ref (zH3 h o1 o2).objs.size] }
theorem meets_zipG (u1 u2 : Value) (o1 o2 : Obj) :
    Meets (Builtin.«zip.__new__» ⟨[.type "zip", u1, u2], []⟩) (fun _ R s => IterTo u1 o1 s ∧ IterTo u2 o2 { s with heap := s.heap.push o1 } ∧
      R (.ok (.ret (.ref (zH4 s.heap o1 o2).objs.size))) { s with heap := zH5 s.heap o1 o2 }) :=
  .of_wp fun prog w A R s h => by
    obtain ⟨hp, g, d, tk, os⟩ := s; obtain ⟨hl1, hl2, h⟩ := h
    have hsub := sub_zip
    have hL1 : ∀ (A' : Around) (Q : Value → Shared → Prop) (E : Value → Shared → Prop), Q (.ref hp.objs.size) ⟨hp.push o1, g, d, tk, os⟩ → wpAny (model prog w) A' (pyIter u1) Q E ⟨hp, g, d, tk, os⟩ := fun A' Q E q => hl1 prog w A' Q E q
    have hL2 : ∀ (A' : Around) (Q : Value → Shared → Prop) (E : Value → Shared → Prop), Q (.ref (hp.push o1).objs.size) ⟨(hp.push o1).push o2, g, d, tk, os⟩ → wpAny (model prog w) A' (pyIter u2) Q E ⟨hp.push o1, g, d, tk, os⟩ := fun A' Q E q => hl2 prog w A' Q E q
    wp_walk using hL1 _ _ _, hL2 _ _ _
    exact ⟨_, rfl, h⟩
end L2

set_option Elab.async false
set_option linter.all false
set_option maxRecDepth 100000
set_option maxHeartbeats 4000000
namespace L2
open PySem PySem.Spec PyProof.Rows
section
variable {prog : Program} {w : World} {A : Around} {E : Value → Shared → Prop} {s : Shared}
theorem call_zipG {u1 u2 : Value} {o1 o2 : Obj} {Q : Value → Shared → Prop} (hl1 : IterTo u1 o1 s) (hl2 : IterTo u2 o2 { s with heap := s.heap.push o1 }) (hf1 : o1.isFreed = false) (hf2 : o2.isFreed = false)
    (h : ∀ h', IsZip h' (s.heap.objs.size + 4) (s.heap.objs.size + 2) (s.heap.objs.size + 3) .none → IsPair h' (s.heap.objs.size + 2) (.ref s.heap.objs.size) (.ref (s.heap.objs.size + 1)) →
      IsPair h' (s.heap.objs.size + 3) .none .none → h'.get? s.heap.objs.size = some o1 → h'.get? (s.heap.objs.size + 1) = some o2 → h'.objs.size = s.heap.objs.size + 5 →
      (∀ c o, s.heap.get? c = some o → h'.get? c = some o) → Q (.ref (s.heap.objs.size + 4)) { s with heap := h' }) :
    wpAny (model prog w) A (call (.type "zip") [u1, u2]) Q E s := by
  refine callType_new F.called_zip (by decide) (F.typeCall_zip_2 _ _) (F.newCall_zip_2 _ _) (fun obj => F.args_object_init_3 obj _ _) F.entry_zip_new
    (meets_zipG u1 u2 o1 o2) ⟨hl1, hl2, ?_⟩
  have z1 : (zH1 s.heap o1).objs.size = s.heap.objs.size + 1 := Heap.size_push ..
  have z2 : (zH2 s.heap o1 o2).objs.size = s.heap.objs.size + 2 := by unfold zH2; rw [Heap.size_push, z1]
  have z3 : (zH3 s.heap o1 o2).objs.size = s.heap.objs.size + 3 := by unfold zH3; rw [Heap.size_push, z2]
  have z4 : (zH4 s.heap o1 o2).objs.size = s.heap.objs.size + 4 := by unfold zH4; rw [Heap.size_push, z3]
  have z5 : (zH5 s.heap o1 o2).objs.size = s.heap.objs.size + 5 := by unfold zH5; rw [Heap.size_push, z4]
  have g5 : (zH5 s.heap o1 o2).get? (zH4 s.heap o1 o2).objs.size = some { cls := .type "zip", data := .fields #[.none, .bool false, .bool false, .ref (zH2 s.heap o1 o2).objs.size, .ref (zH3 s.heap o1 o2).objs.size] } := Heap.get?_push_size _ rfl
  have g4 : (zH5 s.heap o1 o2).get? (zH3 s.heap o1 o2).objs.size = some { cls := .type "tuple", data := .seq #[.none, .none] } := Heap.get?_push_of_some _ (Heap.get?_push_size _ rfl)
  have g3 : (zH5 s.heap o1 o2).get? (zH2 s.heap o1 o2).objs.size = some { cls := .type "tuple", data := .seq #[.ref s.heap.objs.size, .ref (zH1 s.heap o1).objs.size] } := Heap.get?_push_of_some _ (Heap.get?_push_of_some _ (Heap.get?_push_size _ rfl))
  have g2 : (zH5 s.heap o1 o2).get? (zH1 s.heap o1).objs.size = some o2 := Heap.get?_push_of_some _ (Heap.get?_push_of_some _ (Heap.get?_push_of_some _ (Heap.get?_push_size _ hf2)))
  have g1 : (zH5 s.heap o1 o2).get? s.heap.objs.size = some o1 := Heap.get?_push_of_some _ (Heap.get?_push_of_some _ (Heap.get?_push_of_some _ (Heap.get?_push_of_some _ (Heap.get?_push_size _ hf1))))
  show _ ∧ _
  rw [z2, z3, z4] at g5
  rw [z1, z2] at g3
  rw [z3] at g4
  rw [z1] at g2
  rw [z4]
  exact ⟨⟨_, g5, rfl⟩, h _ g5 g3 g4 g1 g2 z5 fun c o x =>
    Heap.get?_push_of_some _ (Heap.get?_push_of_some _ (Heap.get?_push_of_some _ (Heap.get?_push_of_some _ (Heap.get?_push_of_some _ x))))⟩
end
theorem Sc.alive (S : Sc) (t : Tok) : (S.obj t).isFreed = false := by cases S <;> rfl
/-- items of both in new pairs -/
def Itz2 (K : PySem.W.Frag) (S1 S2 : Sc) : It :=
  ⟨fun i H => ∃ (xs ys : List V) (x y : V), S1.Is K H xs ∧ S2.Is K H ys ∧ xs[i]? = some x ∧ ys[i]? = some y,
    fun i H v H' => ∃ T x y, v = .ref T ∧ H T = none ∧ H' = upd H T (.tup [x, y]) ∧ (∀ xs, S1.Is K H xs → xs[i]? = some x) ∧ ∀ ys, S2.Is K H ys → ys[i]? = some y,
    fun i H => ∃ xs ys : List V, S1.Is K H xs ∧ S2.Is K H ys ∧ (xs.length ≤ i ∨ ys.length ≤ i)⟩
structure Apart (z TI TO i1 i2 : Addr) (l : List Addr) : Prop where
  TIz : TI ≠ z
  TOz : TO ≠ z
  i1z : i1 ≠ z
  i2z : i2 ≠ z
  TITO : TI ≠ TO
  TIi1 : TI ≠ i1
  TIi2 : TI ≠ i2
  TOi1 : TO ≠ i1
  TOi2 : TO ≠ i2
  i12 : i1 ≠ i2
  lz : z ∉ l
  lTO : TO ∉ l
  l1 : i1 ∉ l
  l2 : i2 ∉ l
theorem Apart.zipA {z TI TO i1 i2 : Addr} {S1 S2 : Sc} (D : Apart z TI TO i1 i2 (S1.adr ++ S2.adr)) : ZipA z TI TO i1 i2 (i1 :: S1.adr) (i2 :: S2.adr) := by
  obtain ⟨a1, a2, a3, a4, a5, a6, a7, a8, a9, a10, b1, b2, b3, b4⟩ := D
  simp only [List.mem_append, not_or] at b1 b2 b3 b4
  refine ⟨a1, a2, a3, a4, a5, a6, a7, a8, a9, a10, ?_, ?_, ?_, ?_, ?_, ?_⟩ <;> simp only [List.mem_cons, not_or]
  · exact ⟨Ne.symm a3, b1.1⟩
  · exact ⟨a8, b2.1⟩
  · exact ⟨Ne.symm a10, b4.1⟩
  · exact ⟨Ne.symm a4, b1.2⟩
  · exact ⟨a9, b2.2⟩
  · exact ⟨a10, b3.2⟩
theorem turn_zipG {P : Program} {w : World} {K : PySem.W.Frag} {elts : List Expr} {kk : Nat} {tpos : Pos} {z TI TO i1 i2 : Addr} {S1 S2 : Sc} {t1 t2 : Tok} (D : Apart z TI TO i1 i2 (S1.adr ++ S2.adr)) :
    Turn P w K (.Tuple elts kk tpos) (Itz2 K S1 S2) [z, TI, TO, i1, i2] z (fun i h => IsZip h z TI TO .none ∧ IsPair h TI (.ref i1) (.ref i2) ∧ (∃ x y, IsPair h TO x y) ∧ S1.St i1 t1 i h ∧ S2.St i2 t2 i h) where
  mem := by simp
  obj := fun i h st c hc => by
    obtain ⟨hz, hTI, ⟨x, y, hTO⟩, h1, h2⟩ := st
    obtain ⟨o1, v1, e1, d1⟩ := h1.there
    obtain ⟨o2, v2, e2, d2⟩ := h2.there
    have e' : c = z ∨ c = TI ∨ c = TO ∨ c = i1 ∨ c = i2 := by simpa using hc
    rcases e' with q | q | q | q | q
    · rw [q]; exact ⟨_, hz, fun v q => nomatch q⟩
    · rw [q]; exact ⟨_, hTI, fun v q => nomatch q⟩
    · rw [q]; exact ⟨_, hTO, fun v q => nomatch q⟩
    · rw [q]; exact ⟨o1, e1, fun v q => by rw [d1] at q; cases q⟩
    · rw [q]; exact ⟨o2, e2, fun v q => by rw [d2] at q; cases q⟩
  keep := fun i h h' st k => by
    obtain ⟨hz, hTI, ⟨x, y, hTO⟩, h1, h2⟩ := st
    exact ⟨k z (by simp) _ hz, k TI (by simp) _ hTI, ⟨x, y, k TO (by simp) _ hTO⟩, h1.keep fun o q => k i1 (by simp) o q, h2.keep fun o q => k i2 (by simp) o q⟩
  item := by
    intro X hP hw hK hc i pins s σ H E I hf st hg
    subst hP hw hK
    obtain ⟨hz, hTI, ⟨x0, y0, hTO⟩, h1, h2⟩ := st
    obtain ⟨xs, ys, x, y, hqx, hqy, hx, hy⟩ := hg
    have n1 : ∀ a ∈ S1.adr, a ≠ i1 := fun a ha e => D.l1 (by rw [← e]; exact List.mem_append_left _ ha)
    have n2 : ∀ a ∈ S2.adr, a ≠ i2 := fun a ha e => D.l2 (by rw [← e]; exact List.mem_append_right _ ha)
    obtain ⟨B1, hB1, kB1, W1⟩ := Sc.drw I (A := X.A.in1) (show X.A.in1.handled = none from I.ok.hd hc) hqx i1 t1 n1
    obtain ⟨B2, hB2, kB2, W2⟩ := Sc.drw I (A := X.A.in1) (show X.A.in1.handled = none from I.ok.hd hc) hqy i2 t2 n2
    have hzl : z < s.heap.objs.size := Heap.lt_size hz
    have lx : i < xs.length := (List.getElem?_eq_some_iff.mp hx).1
    have ly : i < ys.length := (List.getElem?_eq_some_iff.mp hy).1
    refine next_zipG_item W1 W2 D.zipA hz hTI hTO ⟨h1, hB1⟩ ⟨h2, hB2⟩ lx ly fun u u2 h' tk p1 p2 z' TO' h1' h2' hT hsz hk => ?_
    obtain ⟨x', ex, ru⟩ := p1
    obtain ⟨y', ey, ru2⟩ := p2
    rw [hx] at ex; cases ex
    rw [hy] at ey; cases ey
    refine ⟨_, rfl, wpAny_letOwnedTupleGo_zip (s := { s with heap := h', toks := tk }) z' fun h'' z'' sb => ?_⟩
    have hT2 : h''.get? s.heap.objs.size = some { cls := .type "tuple", data := .seq #[u, u2] } := (sb.2 _ (Nat.ne_of_gt hzl)).trans hT
    have new : ObjOk X.prog X.w (upd H s.heap.objs.size (.tup [x, y])) h'' s.heap.objs.size (.tup [x, y]) :=
      ⟨by show 2 ≤ sizeLine; decide, [u, u2], .cons ru (.cons ru2 .nil), ⟨_, hT2, rfl, _, rfl⟩, _, hT2, rfl⟩
    have I1 : Inv X pins σ (upd H s.heap.objs.size (.tup [x, y])) { s with heap := h'', toks := tk } :=
      I.turnedNew (t' := tk) (ch := [z, TI, TO, i1, i2]) (fun c o hb q => (sb.2 c (fun q' => hb (by simp [q']))).trans (hk c o (fun q' => hb (by simp [q'])) (fun q' => hb (by simp [q'])) (fun q' => hb (by simp [q'])) (fun q' => hb (by simp [q'])) q)) hf (Nat.le_refl _) new
    refine ⟨.ref s.heap.objs.size, _, I1, rfl, ⟨_, x, y, rfl, I.hok.fresh (Nat.le_refl _), rfl, fun l hl => by rw [Sc.inj I hl hqx]; exact hx, fun l hl => by rw [Sc.inj I hl hqy]; exact hy⟩, ⟨z'', ?_, ⟨u, u2, ?_⟩, ?_, ?_⟩, fun c hcm => ?_⟩
    · exact (sb.2 _ D.TIz).trans (hk _ _ D.TIz D.TITO D.TIi1 D.TIi2 hTI)
    · exact (sb.2 _ D.TOz).trans TO'
    · exact h1'.1.keep fun o q => (sb.2 _ D.i1z).trans q
    · exact h2'.1.keep fun o q => (sb.2 _ D.i2z).trans q
    · have hlt : c < s.heap.objs.size := by
        have e' : c = z ∨ c = TI ∨ c = TO ∨ c = i1 ∨ c = i2 := by simpa using hcm
        rcases e' with q | q | q | q | q
        · rw [q]; exact hzl
        · rw [q]; exact Heap.lt_size hTI
        · rw [q]; exact Heap.lt_size hTO
        · rw [q]; obtain ⟨_, _, e1, _⟩ := h1.there; exact Heap.lt_size e1
        · rw [q]; obtain ⟨_, _, e2, _⟩ := h2.there; exact Heap.lt_size e2
      rw [upd_ne (Nat.ne_of_lt hlt)]
      exact (hf c hcm).1
  done := by
    intro X hP hw hK hc i pins s σ H E I hf st hg
    subst hP hw hK
    obtain ⟨hz, hTI, ⟨x0, y0, hTO⟩, h1, h2⟩ := st
    obtain ⟨xs, ys, hqx, hqy, hend⟩ := hg
    have n1 : ∀ a ∈ S1.adr, a ≠ i1 := fun a ha e => D.l1 (by rw [← e]; exact List.mem_append_left _ ha)
    have n2 : ∀ a ∈ S2.adr, a ≠ i2 := fun a ha e => D.l2 (by rw [← e]; exact List.mem_append_right _ ha)
    obtain ⟨B1, hB1, kB1, W1⟩ := Sc.drw I (A := X.A.in1) (show X.A.in1.handled = none from I.ok.hd hc) hqx i1 t1 n1
    obtain ⟨B2, hB2, kB2, W2⟩ := Sc.drw I (A := X.A.in1) (show X.A.in1.handled = none from I.ok.hd hc) hqy i2 t2 n2
    exact next_zipG_end W1 W2 D.zipA hz hTI hTO ⟨h1, hB1⟩ ⟨h2, hB2⟩ hend fun h' tk hk => ⟨rfl, I.turnedL (t' := tk) (ch := [z, TI, TO, i1, i2]) (fun c o hb q =>
      hk c o (fun q' => hb (by simp [q'])) (fun q' => hb (by simp [q'])) (fun q' => hb (by simp [q'])) (fun q' => hb (by simp [q'])) q) hf⟩
  self := fun A i s Q E st h => wpAny_pyIter_zip st.1 h
theorem apart_new (n : Nat) (l : List Nat) (h : ∀ a ∈ l, a < n) : @Apart (n + 4 : Nat) (n + 2 : Nat) (n + 3 : Nat) n (n + 1 : Nat) l :=
  ⟨show (n + 2 : Nat) ≠ n + 4 by omega, show (n + 3 : Nat) ≠ n + 4 by omega, show (n : Nat) ≠ n + 4 by omega, show (n + 1 : Nat) ≠ n + 4 by omega, show (n + 2 : Nat) ≠ n + 3 by omega, show (n + 2 : Nat) ≠ n by omega,
    show (n + 2 : Nat) ≠ n + 1 by omega, show (n + 3 : Nat) ≠ n by omega, show (n + 3 : Nat) ≠ n + 1 by omega, show (n : Nat) ≠ n + 1 by omega,
    fun z => absurd (h _ z) (show ¬ (n + 4 : Nat) < n by omega), fun z => absurd (h _ z) (show ¬ (n + 3 : Nat) < n by omega), fun z => absurd (h _ z) (show ¬ (n : Nat) < n by omega), fun z => absurd (h _ z) (show ¬ (n + 1 : Nat) < n by omega)⟩
def iZipG (K : PySem.W.Frag) (ta : TA) : TI := fun σ H R => ta σ H fun vs H1 => ∃ (S1 S2 : Sc) (xs ys : List V), vs = [S1.val, S2.val] ∧ S1.Is K H1 xs ∧ S2.Is K H1 ys ∧ R (Itz2 K S1 S2) H1
theorem pi_zipG {X : Cx} {e e2 : Expr} {ta : TA} {p pos tpos : Pos} {elts : List Expr} {kk : Nat} (hg : Gl X "zip") (hm : X.mg "zip" = none) (ha : PA X [e, e2] ta)
    (hs : starEach [e, e2] X.env = (false, eval e X.env) :: starEach [e2] X.env := by rfl) (hpl : (backTo pos (starEach [e2] X.env)).any (·.1) = false := by rfl) :
    PI X (.Tuple elts kk tpos) (.Call (.Name "zip" p) [e, e2] [] pos) (iZipG X.K ta) := by
  intro pins s σ H R I h
  refine Call_ (ld_blt I hg hm boot_zip5 (PyProof.Rows.callWith_type1 (thn (ha pos pins s σ H _ I h) fun us s1 ⟨vs, H1, I1, r1, q1⟩ => ?_) hs hpl))
  obtain ⟨S1, S2, xs, ys, ex, hqx, hqy, q⟩ := q1
  subst ex
  cases r1 with
  | cons r rr =>
    cases rr with
    | cons r' rr =>
      cases rr
      obtain ⟨t1, it1⟩ := Sc.iter I1 hqx r
      obtain ⟨t2, it2⟩ := Sc.iter I1 hqy r'
      have la := Sc.lt I1 hqx
      have lb := Sc.lt I1 hqy
      refine call_zipG (it1 s1 fun _ _ e => e) (it2 _ fun _ _ e => Heap.get?_push_of_some _ e) (Sc.alive _ _) (Sc.alive _ _) fun h' hz hTI hTO h1 h2 hsz hk => wpAny_pyIter_zip hz ?_
      have I2 : Inv X pins σ H1 { s1 with heap := h' } := I1.kept (t' := s1.toks) hk
      have D : Apart (s1.heap.objs.size + 4) (s1.heap.objs.size + 2) (s1.heap.objs.size + 3) s1.heap.objs.size (s1.heap.objs.size + 1) (S1.adr ++ S2.adr) := apart_new _ _ fun a ha => (List.mem_append.mp ha).elim (la a) (lb a)
      refine ⟨s1.heap.objs.size + 4, [s1.heap.objs.size + 4, s1.heap.objs.size + 2, s1.heap.objs.size + 3, s1.heap.objs.size, s1.heap.objs.size + 1], _, _, H1, rfl, I2, turn_zipG (t1 := t1) (t2 := t2) D, ⟨hz, hTI, ⟨_, _, hTO⟩, Sc.st0 _ _ _ _ h1, Sc.st0 _ _ _ _ h2⟩, fun c hcm => ?_, q⟩
      have e' : c = s1.heap.objs.size + 4 ∨ c = s1.heap.objs.size + 2 ∨ c = s1.heap.objs.size + 3 ∨ c = s1.heap.objs.size ∨ c = s1.heap.objs.size + 1 := by simpa using hcm
      have hle : s1.heap.objs.size ≤ c := by
        rcases e' with z | z | z | z | z
        · rw [z]; exact Nat.le_add_right _ _
        · rw [z]; exact Nat.le_add_right _ _
        · rw [z]; exact Nat.le_add_right _ _
        · rw [z]; exact Nat.le_refl _
        · rw [z]; exact Nat.le_add_right _ _
      exact I1.fpOk hle (I1.hok.fresh hle)
end L2
namespace Mir
open PySem PySem.Spec L2
variable {X : Cx} {a b c e e2 o tg : Expr} {es rest : List Expr} {pos : Pos} {ma mb mc me mo : mE} {K : PySem.W.Frag} {ta tb : mT} {mr : mA} {st : Stmt} {sts : List Stmt} {m1 m2 : mS}
theorem Le.relS {ι ι' : List Addr} {H H' : Hp} (l : Le K ι H ι' H') {ds : List D} {vs : List V} (r : RelDs K ι H ds vs) : RelDs K ι' H' ds vs := r.mono l.lo
theorem itAny_src {ι : List Addr} {H : Hp} {M : Mem} {d : D} {v : V} {it : MI} (hm : RelM K ι H M) (r : RelD K ι H d v) (h : itAny M d = some it) :
    ∃ S : Sc, v = S.val ∧ (∃ xs, S.Is K H xs) ∧ ∀ ι1 H1 M1, Le K ι H ι1 H1 → RelM K ι1 H1 M1 → Guarded M1 it.guard → ∃ xs, S.Is K H1 xs ∧ RelDs K ι1 H1 it.items xs := by
  cases r with
  | @tup a xs vs h1 r1 => cases h; exact ⟨.tup a, rfl, ⟨_, h1⟩, fun ι1 H1 M1 l1 _ _ => ⟨vs, l1.tp _ _ h1, l1.relS r1⟩⟩
  | str x =>
    cases h
    refine ⟨.str x, rfl, ⟨_, rfl⟩, fun ι1 H1 M1 l1 _ _ => ⟨_, rfl, ?_⟩⟩
    have : ∀ l : List Nat, RelDs K ι1 H1 (l.map fun c => D.str ⟨#[c]⟩) (l.map fun c => V.str ⟨#[c]⟩) := fun l => by
      induction l with
      | nil => exact .nil
      | cons c r ih => exact .cons (.str _) ih
    exact this _
  | @obj i a hi =>
    simp only [itAny] at h
    split at h
    · rename_i xs e; cases h
      obtain ⟨p, hp, vs, e1, e2⟩ := hm.at e
      rw [hi] at hp; cases hp
      refine ⟨.lst a, rfl, ⟨vs, .of e1⟩, fun ι1 H1 M1 l1 m1 gd => ?_⟩
      have g1 : M1[i]? = some (.lst xs) := gd (i, .lst xs) (List.mem_singleton.mpr rfl)
      obtain ⟨q, hq, ws, hH, r⟩ := m1.at g1
      rw [l1.ix _ _ hi] at hq
      cases hq
      exact ⟨ws, .of hH, r⟩
    · cases h
  | @rol a xs vs h1 r1 => cases h; exact ⟨.lst a, rfl, ⟨_, h1.sq⟩, fun ι1 H1 M1 l1 _ _ => ⟨vs, (l1.rl _ _ h1).sq, l1.relS r1⟩⟩
  | non => cases h
  | bl _ => cases h
  | int _ => cases h
  | ty _ => cases h
def zipD (xs ys : List D) : List D := (List.zip xs ys).map fun p => D.tup [p.1, p.2]
def mZip (m : mA) : mI := fun δ M => (m δ M).bind fun r => match r.1 with
  | [x, y] => (itAny r.2 x).bind fun i1 => (itAny r.2 y).map fun i2 => (⟨zipD i1.items i2.items, i1.guard ++ i2.guard⟩, r.2)
  | _ => none
theorem itR_zip {ι : List Addr} {H : Hp} {S1 S2 : Sc} {i1 i2 : MI}
    (h1 : ∀ ι1 H1 M1, Le K ι H ι1 H1 → RelM K ι1 H1 M1 → Guarded M1 i1.guard → ∃ xs, S1.Is K H1 xs ∧ RelDs K ι1 H1 i1.items xs)
    (h2 : ∀ ι1 H1 M1, Le K ι H ι1 H1 → RelM K ι1 H1 M1 → Guarded M1 i2.guard → ∃ xs, S2.Is K H1 xs ∧ RelDs K ι1 H1 i2.items xs) :
    ItR K ι H (Itz2 K S1 S2) ⟨zipD i1.items i2.items, i1.guard ++ i2.guard⟩ := by
  intro ι1 H1 M1 l1 hm1 gd i
  obtain ⟨xs, q1, r1⟩ := h1 ι1 H1 M1 l1 hm1 fun p hp => gd p (List.mem_append_left _ hp)
  obtain ⟨ys, q2, r2⟩ := h2 ι1 H1 M1 l1 hm1 fun p hp => gd p (List.mem_append_right _ hp)
  refine ⟨fun d e => ?_, fun hl => ?_⟩
  · have e : (zipD i1.items i2.items)[i]? = some d := e
    unfold zipD at e
    rw [List.getElem?_map] at e
    cases ez : (List.zip i1.items i2.items)[i]? with
    | none => rw [ez] at e; cases e
    | some p =>
      rw [ez] at e
      cases e
      rw [List.getElem?_zip_eq_some] at ez
      obtain ⟨x, hx, rx⟩ := r1.get ez.1
      obtain ⟨y, hy, ry⟩ := r2.get ez.2
      refine ⟨⟨xs, ys, x, y, q1, q2, hx, hy⟩, fun v H2 hyl => ?_⟩
      obtain ⟨T, x', y', rfl, hT, rfl, hx', hy'⟩ := hyl
      have e1 := hx' xs q1
      have e2 := hy' ys q2
      rw [hx] at e1; cases e1
      rw [hy] at e2; cases e2
      exact ⟨ι1, le_new0 hT, hm1.new0 hT, .tup (.of upd_same) ((RelDs.cons rx (.cons ry .nil)).mono (le_new0 hT).lo)⟩
  · have hl : (zipD i1.items i2.items).length ≤ i := hl
    unfold zipD at hl
    rw [List.length_map, List.length_zip] at hl
    refine ⟨xs, ys, q1, q2, ?_⟩
    rw [← r1.length, ← r2.length]
    rcases Nat.le_total i1.items.length i2.items.length with q | q
    · exact .inl (by rwa [Nat.min_eq_left q] at hl)
    · exact .inr (by rwa [Nat.min_eq_right q] at hl)
theorem mi_zip {p tpos : Pos} {elts : List Expr} {kk : Nat} (hg : Gl X "zip") (hm : X.mg "zip" = none) (ha : PA X [e, e2] (tMA X.K mr))
    (hs : starEach [e, e2] X.env = (false, eval e X.env) :: starEach [e2] X.env := by rfl) (hpl : (backTo pos (starEach [e2] X.env)).any (·.1) = false := by rfl) :
    PI X (.Tuple elts kk tpos) (.Call (.Name "zip" p) [e, e2] [] pos) (tMI X.K (mZip mr)) := PI.imp (pi_zipG hg hm ha hs hpl) fun σ H R ⟨ι, δ, M, it, M', hs, hm, he, k⟩ => by
  unfold mZip at he
  cases e1 : mr δ M with
  | none => rw [e1] at he; cases he
  | some r =>
    obtain ⟨ds, M1⟩ := r
    rw [e1] at he
    simp only [Option.bind_some] at he
    split at he
    · rename_i x y
      cases e3 : itAny M1 x with
      | none => rw [e3] at he; cases he
      | some j1 =>
        rw [e3] at he
        simp only [Option.bind_some] at he
        cases e4 : itAny M1 y with
        | none => rw [e4] at he; cases he
        | some j2 =>
          rw [e4] at he
          cases he
          refine ⟨ι, δ, M, _, _, hs, hm, e1, fun ι1 H1 vs l1 m1 r1 => ?_⟩
          cases r1 with
          | cons ra rt =>
            cases rt with
            | cons rb rt =>
              cases rt
              obtain ⟨S1, rfl, ⟨xs, q1⟩, w1⟩ := itAny_src m1 ra e3
              obtain ⟨S2, rfl, ⟨ys, q2⟩, w2⟩ := itAny_src m1 rb e4
              exact ⟨S1, S2, xs, ys, rfl, q1, q2, k ι1 H1 _ l1 m1 (itR_zip w1 w2)⟩
    · cases he
end Mir

set_option Elab.async false
set_option linter.all false
set_option maxRecDepth 100000
set_option maxHeartbeats 4000000
/-! list(reversed(..)); constants of the module -/
namespace L2
open PySem PySem.Spec PyProof.Rows
section
variable {prog : Program} {w : World} {A : Around} {E : Value → Shared → Prop} {s : Shared}
end
section
variable {prog : Program} {w : World} {A : Around} {s : Shared} {R : Result → Shared → Prop}
variable {I : Addr} {fp wr : List Addr} {G : Array GenState → Array GenState → Prop} {n : Nat} {P : Nat → Value → Prop} {St : Nat → Shared → Prop} {T : String}
end
section
variable {prog : Program} {w : World} {A : Around} {E : Value → Shared → Prop} {s : Shared}
variable {I : Addr} {fp wr : List Addr} {G : Array GenState → Array GenState → Prop} {n : Nat} {P : Nat → Value → Prop} {St : Nat → Shared → Prop} {T : String}
end
end L2
namespace L2
open PySem PySem.Spec PyProof.Rows
theorem vals_rev : ∀ {xs : List V} {us : List Value}, Vals xs us → Vals xs.reverse us.reverse := by
  intro xs us r
  induction r with
  | nil => exact .nil
  | cons r1 r2 ih => rw [List.reverse_cons, List.reverse_cons]; exact Vals.append ih (.cons r1 .nil)
theorem bootList : bootBuiltins "list" = some (.type "list") := by decide +kernel
section
variable {X : Cx} {e : Expr} {ta : TA} {p p2 pos pos2 : Pos}
end
end L2
namespace Mir
open PySem PySem.Spec L2
variable {X : Cx} {a b c e e2 o tg : Expr} {es rest : List Expr} {pos : Pos} {ma mb mc me mo : mE} {K : PySem.W.Frag} {ta tb : mT} {mr : mA} {st : Stmt} {sts : List Stmt} {m1 m2 : mS}
/-! ### constants of the module -/
def StrsAre : List Value → List Str → Prop
  | [], [] => True
  | v :: vs, x :: xs => (∃ t, v = .str x t) ∧ StrsAre vs xs
  | _, _ => False
theorem strs_vals : ∀ {vs : List Value} {xs : List Str}, StrsAre vs xs → Vals (xs.map V.str) vs
  | [], [], _ => .nil
  | v :: vs, x :: xs, h => .cons h.1 (strs_vals h.2)
  | [], _ :: _, h => h.elim
  | _ :: _, [], h => h.elim
theorem strs_rel {ι : List Addr} {H : Hp} : ∀ xs : List Str, RelDs K ι H (xs.map D.str) (xs.map V.str)
  | [] => .nil
  | x :: xs => .cons (.str x) (strs_rel xs)
theorem glob_tup {h : Heap} {mg : Str → Option Value} {x : Str} {a : Addr} {its : Array Value} {n : Nat} {sl : Array (Option Value)} {xs : List Str} (X : K.In h) (G : h.Ns mainGlobals mg) (hn : PySem.W.nsIn K mainGlobals x = some (some (.ref a)))
    (hl : K.lookup a = some ⟨.type "tuple", none, .seq its n, sl⟩) (hv : StrsAre its.toList xs) (hz : its.size ≤ sizeLine) : Glob K mg x (.tup (xs.map D.str)) :=
  ⟨.ref a, .ref a, PySem.W.mg_of X G hn, rfl, fun ι H => .tup (vs := xs.map V.str) (.inr ⟨_, its, n, hl, rfl, rfl, rfl, hz, strs_vals hv⟩) (strs_rel xs)⟩
end Mir
namespace Mir
open PySem PySem.Spec L2
variable {X : Cx} {pos : Pos}
/-! ### the display of a dict, in one -/
structure PQ (X : Cx) (pos : Pos) (keys : List (Option Expr)) (values : List Expr) (n : Nat) (m : mP) : Prop where
  ex : ∃ trs, PPs X pos keys values trs ∧ (∀ p, Pairs X.K p trs m) ∧ (keys.all fun x => x.isSome) = true ∧ keys.length = values.length ∧ keys.length = n
theorem pq_nil : PQ X pos [] [] 0 mPNil := ⟨[], pps_nil, fun _ => pairs_nil, rfl, rfl, rfl⟩
theorem pq_cons {k v : Expr} {ks : List (Option Expr)} {vs : List Expr} {mk mv : mE} {n : Nat} {r : mP} (hk : PE X k (tM X.K mk)) (hv : PE X v (tM X.K mv)) (h : PQ X pos ks vs n r) : PQ X pos (some k :: ks) (v :: vs) (n + 1) (mPCons mk mv r) := by
  obtain ⟨trs, h1, h2, h3, h4, h5⟩ := h.ex
  refine ⟨_, pps_cons hk hv h1, fun p => pairs_cons (h2 p), ?_, ?_, ?_⟩
  · simpa using h3
  · simp [h4]
  · simp [h5]
theorem me_dispQ {keys : List (Option Expr)} {values : List Expr} {n : Nat} {m : mP} (h : PQ X pos keys values (n + 1) m) (h4 : n + 1 ≤ 15) : PE X (.Dict keys values pos) (tM X.K (mDisp m)) := by
  obtain ⟨trs, h1, h2, h3, h4', h5⟩ := h.ex
  exact me_disp h1 h2 h3 h4' (fun z => by rw [z] at h5; cases h5) (by rw [h5]; exact h4)
end Mir
namespace Mir
open PySem PySem.Spec L2
/-! ### a long display first in a body: hidden from the elaborator -/
@[irreducible] def Hid (p : Prop) : Prop := p
theorem hid {p : Prop} (h : p) : Hid p := by unfold Hid; exact h
theorem unhid {p : Prop} (h : Hid p) : p := by unfold Hid at h; exact h
section
variable {P : Program} {w : World} {K : PySem.W.Frag} {mg : Str → Option Value} {base : Heap}
theorem fn_okH {x qual : Str} {sf : Stmt} {f : Addr} {fd : FuncData} {N ps : List Str} {k : Nat} {ms : mS} (F : Fun K x qual sf f fd) (S : FnScope N ps (defScope sf))
    (hb : ∀ (cdv : Value) (A : Around) (outer : List Env) (s : Shared) (H : Hp) (E : XK), Room k (A.deeper (PyProof.Rows.envOfC qual (defScope sf) s.heap.objs.size f cdv)) →
      Hid (PSs (cxOf CX0 P w K mg base N qual (defScope sf) f cdv A outer s H E).nox (defBody sf) (tMS K ms))) : FnOk P w K mg base CX0 (k + 1) f fd ps (spM K ps.length (fnM N.length ms)) :=
  fn_ok F S fun cdv A outer s H E hr => unhid (hb cdv A outer s H E hr)
end
section
variable {X : Cx} {pos spos py : Pos} {st : Stmt} {sts : List Stmt} {m1 m2 : mS}
theorem hs_cons (h1 : Hid (PS X st (tMS X.K m1))) (h2 : PSs X sts (tMS X.K m2)) : Hid (PSs X (st :: sts) (tMS X.K (mSeq m1 m2))) := hid (ms_cons (unhid h1) h2)
theorem hs_setD {i n : Nat} {y : Str} {keys : List (Option Expr)} {values : List Expr} {m : mP} (hN : X.N.Nodup) (hi : X.N[i]? = some y) (hx : Loc X.env.scope y) (h : PQ X pos keys values (n + 1) m) (h4 : n + 1 ≤ 15)
    (hf : X.fn y = true ∨ X.env.scope.names.lookup y = some .local := by first | exact .inl rfl | exact .inr rfl | assumption) :
    Hid (PS X (.Assign [.Name y py] (.Dict keys values pos) spos) (tMS X.K (mAsg i (mDisp m)))) := hid (ms_set (ps_set (i := i) hN hi hx (me_dispQ h h4) rfl hf))
end
end Mir

set_option Elab.async false
set_option linter.all false
set_option maxRecDepth 100000
set_option maxHeartbeats 4000000
/-! max(xs, default=d); text * number; list(range(n)); list.index -/
namespace L2
open PySem PySem.Spec PyProof.Rows
section
variable {prog : Program} {w : World} {A : Around} {R : Result → Shared → Prop} {I : Addr} {fp wr : List Addr} {n : Nat} {P : Nat → Value → Prop} {St : Nat → Heap → Prop} {kw : List (Str × Value)}
end
section
variable {prog : Program} {w : World} {A : Around} {E : Value → Shared → Prop} {s : Shared}
end
section
variable {X : Cx} {e ev : Expr} {te tv : TE} {p pos kp : Pos}
end
end L2
namespace Mir
open PySem PySem.Spec L2
variable {X : Cx} {a b c e e2 ev o tg : Expr} {es rest : List Expr} {pos : Pos} {ma mb mc me mo mv : mE} {K : PySem.W.Frag} {ta tb : mT} {mr : mA} {st : Stmt} {sts : List Stmt} {m1 m2 : mS}
end Mir
namespace L2
open PySem PySem.Spec PyProof.Rows
end L2
namespace Mir
open PySem PySem.Spec L2
variable {X : Cx} {a b c e e2 ev o tg : Expr} {es rest : List Expr} {pos : Pos} {ma mb mc me mo mv : mE} {K : PySem.W.Frag} {ta tb : mT} {mr : mA} {st : Stmt} {sts : List Stmt} {m1 m2 : mS}
/-! ### list.index -/
end Mir
namespace L2
open PySem PySem.Spec PyProof.Rows
section
variable {X : Cx} {e : Expr} {ta : TA} {p p2 pos pos2 : Pos}
def tListRng (ta : TA) : TE := fun σ H Q => ta σ H fun vs H1 => ∃ n : Nat, vs = [.int (n : Nat)] ∧ n ≤ 2 ^ 20 ∧ ∀ l, H1 l = none → Q (.ref l) (upd H1 l (.lst ((List.range n).map fun i : Nat => V.int (i : Nat))))
theorem ints_vals : ∀ {us : List Value} {n i : Nat}, us.length = n → (∀ (j : Nat) (v : Value), us[j]? = some v → ∃ t, v = .int ((i + j : Nat) : Int) t) → Vals ((List.range' i n).map fun i : Nat => V.int (i : Nat)) us
  | [], n, i, h, _ => by subst h; exact .nil
  | u :: us, n, i, h, g => by
    subst h
    rw [List.length_cons, List.range'_succ, List.map_cons]
    refine .cons ?_ (ints_vals (i := i + 1) rfl fun j v e => ?_)
    · obtain ⟨t, e⟩ := g 0 u rfl
      exact ⟨t, by rw [e]; simp⟩
    · obtain ⟨t, e⟩ := g (j + 1) v (by simpa using e)
      exact ⟨t, by rw [e, show i + (j + 1) = i + 1 + j by omega]⟩
theorem pe_list_rng (hc : X.calm = true) (hgL : Gl X "list") (hmL : X.mg "list" = none) (hgR : Gl X "range") (hmR : X.mg "range" = none) (ha : PA X [e] ta) (hs2 : starEach [e] X.env = [(false, eval e X.env)] := by rfl)
    (hs : starEach [.Call (.Name "range" p2) [e] [] pos2] X.env = [(false, eval (.Call (.Name "range" p2) [e] [] pos2) X.env)] := by rfl) :
    PE X (.Call (.Name "list" p) [.Call (.Name "range" p2) [e] [] pos2] [] pos) (tListRng ta) := by
  intro pins s σ H Q I h
  refine wpAny_Call_Name_kw (ld_blt I hgL hmL bootList ?_)
  refine PyProof.Rows.callWith_type1 ?_ hs rfl
  rw [hs]
  show wpAny _ _ (spliced ((false, eval (.Call (.Name "range" p2) [e] [] pos2) X.env) :: backTo pos [])) _ _ s
  refine Calls.spliced_cons (Call_ (ld_blt I hgR hmR boot_range (PyProof.Rows.callWith_type1 (thn (ha pos2 pins s σ H _ I h) fun us s1 ⟨vs, H1, I1, r1, q1⟩ => ?_) hs2 rfl)))
  obtain ⟨n, ex, hn, q⟩ := q1
  subst ex
  cases r1 with
  | cons r rr =>
    cases rr
    obtain ⟨t, rfl⟩ := r
    refine call_range_1 ?_
    refine Calls.spliced_nil ?_
    have h20 : (2 : Nat) ^ 20 = 1048576 := by decide
    refine call_list_range (n := n) (I1.ok.hd hc) (IsRange.new ..) (small_one (by omega) (by omega) (by omega) (by omega)) (by rw [rangeSize_one]; split <;> omega) (by omega) fun h' tk acc c' hk hS hacc => ?_
    obtain ⟨hz, hg⟩ := hacc
    have hr : Vals ((List.range n).map fun i : Nat => V.int (i : Nat)) acc.toList := by
      rw [List.range_eq_range']
      refine ints_vals (by simpa using hz) fun j v e => ?_
      obtain ⟨t', e'⟩ := hg j v (by simpa using e)
      exact ⟨t', by rw [e']; simp⟩
    have keep : ∀ b o, s1.heap.get? b = some o → h'.get? b = some o := fun b o e => hk b o (Heap.get?_push_of_some _ e)
    have hle : ∀ o : Obj, s1.heap.objs.size ≤ (s1.heap.push o).objs.size := fun o => by rw [Heap.size_push]; exact Nat.le_succ _
    exact ⟨.ref _, _, I1.laid (t' := tk) keep (hle _) (show ObjOk X.prog X.w _ h' _ (.lst ((List.range n).map fun i : Nat => V.int (i : Nat))) from ⟨by rw [List.length_map, List.length_range, sizeLine_eq]; omega, acc.toList, c', hr, hS⟩), rfl, q _ (I1.hok.fresh (hle _))⟩
end
end L2
namespace Mir
open PySem PySem.Spec L2
variable {X : Cx} {e : Expr} {pos : Pos} {mr : mA}
def fListRng : List D → Mem → Option (D × Mem)
  | [.int n], M => if 0 ≤ n ∧ n ≤ 2 ^ 20 then some (.obj M.length, M ++ [.lst ((List.range n.toNat).map fun i : Nat => D.int (i : Nat))]) else none
  | _, _ => none
theorem me_list_range {p p2 pos2 : Pos} (hgL : Gl X "list") (hgR : Gl X "range") (hmL : X.mg "list" = none) (hmR : X.mg "range" = none) (ha : PA X [e] (tMA X.K mr)) (hc : X.calm = true := by rfl) (hs2 : starEach [e] X.env = [(false, eval e X.env)] := by rfl)
    (hs : starEach [.Call (.Name "range" p2) [e] [] pos2] X.env = [(false, eval (.Call (.Name "range" p2) [e] [] pos2) X.env)] := by rfl) :
    PE X (.Call (.Name "list" p) [.Call (.Name "range" p2) [e] [] pos2] [] pos) (tM X.K (mCall fListRng mr)) := PE.imp (pe_list_rng hc hgL hmL hgR hmR ha hs2 hs) fun σ H Q ⟨ι, δ, M, d, M', hs, hm, he, k⟩ => by
  unfold mCall at he
  cases e1 : mr δ M with
  | none => rw [e1] at he; cases he
  | some r =>
    obtain ⟨ds, M1⟩ := r
    rw [e1] at he
    simp only [Option.bind_some] at he
    unfold fListRng at he
    split at he
    · rename_i n
      split at he
      · rename_i hn
        cases he
        refine ⟨ι, δ, M, _, _, hs, hm, e1, fun ι1 H1 vs l1 m1 r1 => ?_⟩
        cases r1 with
        | cons ra rt =>
          cases rt
          cases ra
          have hn2 : (n.toNat : Int) ≤ 2 ^ 20 := by omega
          refine ⟨n.toNat, by rw [Int.toNat_of_nonneg hn.1], by exact_mod_cast hn2, got_lst m1 ?_ fun ι2 H2 v l2 m2 r3 => k ι2 H2 v (l1.trans l2) m2 r3⟩
          have : ∀ l : List Nat, RelDs X.K ι1 H1 (l.map fun i : Nat => D.int (i : Nat)) (l.map fun i : Nat => V.int (i : Nat)) := fun l => by
            induction l with
            | nil => exact .nil
            | cons a r ih => exact .cons (.int _) ih
          exact this _
      · cases he
    · cases he
end Mir

set_option Elab.async false
set_option linter.all false
set_option maxRecDepth 100000
set_option maxHeartbeats 4000000
/-! enumerate over a list, a tuple or a text -/
namespace L2
open PySem PySem.Spec PyProof.Rows
theorem meets_enumG (u : Value) (o : Obj) :
    Meets (Builtin.«enumerate.__new__» ⟨[.type "enumerate", u], []⟩) (fun _ R s => IterTo u o s ∧
      R (.ok (.ret (.ref (s.heap.push o).objs.size))) { s with heap := (s.heap.push o).push { cls := .type "enumerate", data := .fields #[.none, .bool false, .ref s.heap.objs.size, rawInt 0, .none, .none] } }) :=
  .of_wp fun prog w A R s h => by
    obtain ⟨hp, g, d, tk, os⟩ := s; obtain ⟨hl1, h⟩ := h
    have hsub := sub_enumerate
    have hL1 : ∀ (A' : Around) (Q : Value → Shared → Prop) (E : Value → Shared → Prop), Q (.ref hp.objs.size) ⟨hp.push o, g, d, tk, os⟩ → wpAny (model prog w) A' (pyIter u) Q E ⟨hp, g, d, tk, os⟩ := fun A' Q E q => hl1 prog w A' Q E q
    wp_walk
    refine wpAny_stack_any fun st => wpAny_pure ?_
    split
    · rename_i c _ _ _ _ _
      cases (c == Value.type "enumerate")
      · wp_walk using hL1 _ _ _
        exact ⟨_, rfl, h⟩
      · wp_walk using hL1 _ _ _
        exact ⟨_, rfl, h⟩
    · wp_walk using hL1 _ _ _
      exact ⟨_, rfl, h⟩
section
variable {prog : Program} {w : World} {A : Around} {E : Value → Shared → Prop} {s : Shared}
theorem call_enumG {u : Value} {o : Obj} {Q : Value → Shared → Prop} (hL : IterTo u o s) (hf : o.isFreed = false)
    (h : ∀ h', IsEnum h' (s.heap.objs.size + 1) s.heap.objs.size 0 .none → h'.get? s.heap.objs.size = some o → h'.objs.size = s.heap.objs.size + 2 →
      (∀ b o, s.heap.get? b = some o → h'.get? b = some o) → Q (.ref (s.heap.objs.size + 1)) { s with heap := h' }) :
    wpAny (model prog w) A (call (.type "enumerate") [u]) Q E s := by
  refine callType_new F.called_enumerate (by decide) (F.typeCall_enumerate_1 _) (F.newCall_enumerate_1 _) (fun obj => F.args_object_init_2 obj _) F.entry_enumerate_new
    (meets_enumG u o) ⟨hL, ?_⟩
  have hz : (s.heap.push o).objs.size = s.heap.objs.size + 1 := Heap.size_push ..
  show _ ∧ _
  rw [hz]
  have he : IsEnum ((s.heap.push o).push { cls := .type "enumerate", data := .fields #[.none, .bool false, .ref s.heap.objs.size, rawInt 0, .none, .none] }) (s.heap.objs.size + 1) s.heap.objs.size 0 .none := by
    have := Heap.get?_push_size (s.heap.push o) (o := { cls := .type "enumerate", data := .fields #[.none, .bool false, .ref s.heap.objs.size, rawInt 0, .none, .none] }) rfl
    rw [hz] at this; exact this
  exact ⟨⟨_, he, rfl⟩, h _ he (Heap.get?_push_of_some _ (Heap.get?_push_size _ hf)) (by rw [Heap.size_push, hz]) fun b o x => Heap.get?_push_of_some _ (Heap.get?_push_of_some _ x)⟩
theorem Drw.draws {it : Addr} {fp : List Addr} {n : Nat} {P : Nat → Value → Prop} {St : Nat → Heap → Prop} (D : Drw prog w A it fp n P St) : Draws prog w A it fp n P St := ⟨D.live, D.frame, D.item, fun s Q E st h => D.done n s Q E (Nat.le_refl _) st h⟩
theorem next_enumG_end {e it : Addr} {fp : List Addr} {n k : Nat} {P : Nat → Value → Prop} {St : Nat → Heap → Prop} {i : Int} {old : Value} {Q : Option Value → Shared → Prop}
    (D : Drw prog w A.in1 it fp n P St) (he : IsEnum s.heap e it i old) (hst : St k s.heap) (hk : n ≤ k) (hQ : ∀ h', Heap.ExtBut it s.heap h' → Q none { s with heap := h' }) : wpAny (model prog w) A (pyNext (.ref e)) Q E s := by
  have hT : s.TypeIs (.ref e) "enumerate" := ⟨_, he, rfl⟩
  unfold pyNext
  refine wpAny_bind (wpAny_attempt (wpAny_callSpecial?_slot (name := Str.ofString "__next__") hT F.slot_enumerate_next
    (wpAny_call_entry F.slot_enumerate_next hT F.entry_enumerate_next ?_ (F.args_enumerate_next_1 _))))
  show wpAny _ _ (field (.ref e) 2 >>= _) _ _ _
  refine wpAny_bind (wpAny_field he rfl (x := .ref it) rfl ?_)
  refine wpAny_bind (D.done k _ _ _ hk hst fun h' x he' hx' => ?_)
  obtain ⟨o, ho, hc⟩ := hx'
  refine wpAny_bind (wpAny_isInstance (T := "StopIteration") (b := true) ⟨o, ho, hc⟩ isSubtype_stop ?_)
  exact wpAny_pure (hQ _ he')
end
def Ite2 (K : PySem.W.Frag) (S : Sc) : It :=
  ⟨fun i H => ∃ (xs : List V) (x : V), S.Is K H xs ∧ xs[i]? = some x, fun i H v H' => ∃ T x, v = .ref T ∧ H T = none ∧ H' = upd H T (.tup [.int (i : Nat), x]) ∧ ∀ xs, S.Is K H xs → xs[i]? = some x, fun i H => ∃ xs : List V, S.Is K H xs ∧ xs.length ≤ i⟩
theorem turn_enumG {P : Program} {w : World} {K : PySem.W.Frag} {elts : List Expr} {kk : Nat} {tpos : Pos} {e it : Addr} {S : Sc} {t : Tok} (hei : e ≠ it) (he1 : e ∉ S.adr) (hi1 : it ∉ S.adr) :
    Turn P w K (.Tuple elts kk tpos) (Ite2 K S) [e, it] e (fun i h => (∃ old, IsEnum h e it ((i : Nat) : Int) old) ∧ S.St it t i h) where
  mem := by simp
  obj := fun i h st b hb => by
    obtain ⟨⟨old, he⟩, st⟩ := st
    obtain ⟨o, v, ho, hd⟩ := st.there
    have e' : b = e ∨ b = it := by simpa using hb
    rcases e' with z | z
    · rw [z]; exact ⟨_, he, fun v q => nomatch q⟩
    · rw [z]; exact ⟨o, ho, fun v q => by rw [hd] at q; cases q⟩
  keep := fun i h h' st k => let ⟨⟨old, he⟩, st⟩ := st; ⟨⟨old, k e (by simp) _ he⟩, st.keep fun o q => k it (by simp) o q⟩
  item := by
    intro X hP hw hK hc i pins s σ H E I hf st hg
    subst hP hw hK
    obtain ⟨⟨old, he⟩, st⟩ := st
    obtain ⟨xs, x, hq, hx⟩ := hg
    have n1 : ∀ a ∈ S.adr, a ≠ it := fun a ha z => hi1 (z ▸ ha)
    obtain ⟨B, hB, kB, W⟩ := Sc.drw I (A := X.A.in1) (show X.A.in1.handled = none from I.ok.hd hc) hq it t n1
    have lx : i < xs.length := (List.getElem?_eq_some_iff.mp hx).1
    have hel : e < s.heap.objs.size := Heap.lt_size he
    have hil : it < s.heap.objs.size := by obtain ⟨_, _, q, _⟩ := st.there; exact Heap.lt_size q
    refine wpAny_pyNext_enum_itemD W.draws he ⟨st, hB⟩ lx hei (by simp [hei, he1]) fun u h' tk pu ho hit' hT hsz hk => ?_
    obtain ⟨x', ex, ru⟩ := pu
    rw [hx] at ex; cases ex
    refine ⟨_, rfl, wpAny_letOwnedTupleGo_enum (s := { s with heap := h', toks := tk + 1 }) ho fun h'' he' sb => ?_⟩
    have hT2 : h''.get? s.heap.objs.size = some { cls := .type "tuple", data := .seq #[.int i tk, u] } := (sb.2 _ (Nat.ne_of_gt hel)).trans hT
    have new : ObjOk X.prog X.w (upd H s.heap.objs.size (.tup [.int (i : Nat), x])) h'' s.heap.objs.size (.tup [.int (i : Nat), x]) :=
      ⟨by show 2 ≤ sizeLine; decide, [.int i tk, u], .cons ⟨_, rfl⟩ (.cons ru .nil), ⟨_, hT2, rfl, _, rfl⟩, _, hT2, rfl⟩
    have I1 : Inv X pins σ (upd H s.heap.objs.size (.tup [.int (i : Nat), x])) { s with heap := h'', toks := tk + 1 } :=
      I.turnedNew (t' := tk + 1) (ch := [e, it]) (fun b ob hb q => (sb.2 b (fun z => hb (by simp [z]))).trans (hk b ob (fun z => hb (by simp [z])) (fun z => hb (by simp [z])) q)) hf (Nat.le_refl _) new
    refine ⟨.ref s.heap.objs.size, _, I1, rfl, ⟨_, x, rfl, I.hok.fresh (Nat.le_refl _), rfl, fun ys hy => by rw [Sc.inj I hy hq]; exact hx⟩, ⟨⟨u, ?_⟩, hit'.1.keep fun o q => (sb.2 it (Ne.symm hei)).trans q⟩, fun b hb => ?_⟩
    · have e1 : ((i + 1 : Nat) : Int) = (i : Int) + 1 := by omega
      rw [e1]; exact he'
    · have hb' : b < s.heap.objs.size := by
        have e' : b = e ∨ b = it := by simpa using hb
        rcases e' with z | z
        · rw [z]; exact hel
        · rw [z]; exact hil
      rw [upd_ne (Nat.ne_of_lt hb')]
      exact (hf b hb).1
  done := by
    intro X hP hw hK hc i pins s σ H E I hf st hg
    subst hP hw hK
    obtain ⟨⟨old, he⟩, st⟩ := st
    obtain ⟨xs, hq, hx⟩ := hg
    have n1 : ∀ a ∈ S.adr, a ≠ it := fun a ha z => hi1 (z ▸ ha)
    obtain ⟨B, hB, kB, W⟩ := Sc.drw I (A := X.A.in1) (show X.A.in1.handled = none from I.ok.hd hc) hq it t n1
    obtain ⟨f0, f1, f2, f3, f4, f5⟩ := hf it (by simp)
    exact next_enumG_end W he ⟨st, hB⟩ hx fun h' eb => ⟨rfl, I.turned (t' := s.toks) (fun b o hb q => eb b o hb q) f0 f1 f3 f4 f5⟩
  self := fun A i s Q E st h => let ⟨⟨_, he⟩, _⟩ := st; wpAny_pyIter_enum he h
def iEnumG (K : PySem.W.Frag) (ta : TA) : TI := fun σ H R => ta σ H fun vs H1 => ∃ (S : Sc) (xs : List V), vs = [S.val] ∧ S.Is K H1 xs ∧ R (Ite2 K S) H1
theorem pi_enumG {X : Cx} {e : Expr} {ta : TA} {p pos tpos : Pos} {elts : List Expr} {kk : Nat} (hg : Gl X "enumerate") (hm : X.mg "enumerate" = none) (ha : PA X [e] ta) (hs : starEach [e] X.env = [(false, eval e X.env)] := by rfl) :
    PI X (.Tuple elts kk tpos) (.Call (.Name "enumerate" p) [e] [] pos) (iEnumG X.K ta) := by
  intro pins s σ H R I h
  refine Call_ (ld_blt I hg hm boot_enumerate (PyProof.Rows.callWith_type1 (thn (ha pos pins s σ H _ I h) fun us s1 ⟨vs, H1, I1, r1, q1⟩ => ?_) hs rfl))
  obtain ⟨S, xs, ex, hq, q⟩ := q1
  subst ex
  cases r1 with
  | cons r rr =>
    cases rr
    obtain ⟨t, it1⟩ := Sc.iter I1 hq r
    have la := Sc.lt I1 hq
    refine call_enumG (it1 s1 fun _ _ e => e) (Sc.alive _ _) fun h' he hit hsz hk => wpAny_pyIter_enum he ?_
    have I2 : Inv X pins σ H1 { s1 with heap := h' } := I1.kept (t' := s1.toks) hk
    refine ⟨s1.heap.objs.size + 1, [s1.heap.objs.size + 1, s1.heap.objs.size], _, _, H1, rfl, I2, turn_enumG (t := t) (e := s1.heap.objs.size + 1) (it := s1.heap.objs.size) (Nat.succ_ne_self _) (fun z => absurd (la _ z) (Nat.not_lt.mpr (Nat.le_succ _))) (fun z => absurd (la _ z) (Nat.lt_irrefl _)), ⟨⟨.none, he⟩, Sc.st0 _ _ _ _ hit⟩, fun b hb => ?_, q⟩
    have e' : b = s1.heap.objs.size + 1 ∨ b = s1.heap.objs.size := by simpa using hb
    have hle : s1.heap.objs.size ≤ b := by
      rcases e' with z | z
      · rw [z]; exact Nat.le_add_right _ _
      · rw [z]; exact Nat.le_refl _
    exact I1.fpOk hle (I1.hok.fresh hle)
end L2
namespace Mir
open PySem PySem.Spec L2
variable {X : Cx} {a b c e e2 ev o tg : Expr} {es rest : List Expr} {pos : Pos} {ma mb mc me mo mv : mE} {K : PySem.W.Frag} {ta tb : mT} {mr : mA} {st : Stmt} {sts : List Stmt} {m1 m2 : mS}
def enumD (xs : List D) : List D := xs.mapIdx fun i d => D.tup [.int (i : Nat), d]
def mEnumerate (m : mA) : mI := fun δ M => (m δ M).bind fun r => match r.1 with
  | [x] => (itAny r.2 x).map fun i1 => (⟨enumD i1.items, i1.guard⟩, r.2)
  | _ => none
theorem itR_enum {ι : List Addr} {H : Hp} {S : Sc} {i1 : MI} (h1 : ∀ ι1 H1 M1, Le K ι H ι1 H1 → RelM K ι1 H1 M1 → Guarded M1 i1.guard → ∃ xs, S.Is K H1 xs ∧ RelDs K ι1 H1 i1.items xs) :
    ItR K ι H (Ite2 K S) ⟨enumD i1.items, i1.guard⟩ := by
  intro ι1 H1 M1 l1 hm1 gd i
  obtain ⟨xs, q1, r1⟩ := h1 ι1 H1 M1 l1 hm1 gd
  refine ⟨fun d e => ?_, fun hl => ?_⟩
  · have e : (enumD i1.items)[i]? = some d := e
    unfold enumD at e
    rw [List.getElem?_mapIdx] at e
    cases ez : i1.items[i]? with
    | none => rw [ez] at e; cases e
    | some p =>
      rw [ez] at e
      cases e
      obtain ⟨x, hx, rx⟩ := r1.get ez
      refine ⟨⟨xs, x, q1, hx⟩, fun v H2 hyl => ?_⟩
      obtain ⟨T, x', rfl, hT, rfl, hx'⟩ := hyl
      have e1 := hx' xs q1
      rw [hx] at e1; cases e1
      exact ⟨ι1, le_new0 hT, hm1.new0 hT, .tup (.of upd_same) ((RelDs.cons (.int _) (.cons rx .nil)).mono (le_new0 hT).lo)⟩
  · have hl : (enumD i1.items).length ≤ i := hl
    unfold enumD at hl
    rw [List.length_mapIdx] at hl
    exact ⟨xs, q1, by rw [← r1.length]; exact hl⟩
theorem mi_enumerate {p tpos : Pos} {elts : List Expr} {kk : Nat} (hg : Gl X "enumerate") (hm : X.mg "enumerate" = none) (ha : PA X [e] (tMA X.K mr)) (hs : starEach [e] X.env = [(false, eval e X.env)] := by rfl) :
    PI X (.Tuple elts kk tpos) (.Call (.Name "enumerate" p) [e] [] pos) (tMI X.K (mEnumerate mr)) := PI.imp (pi_enumG hg hm ha hs) fun σ H R ⟨ι, δ, M, it, M', hs, hm, he, k⟩ => by
  unfold mEnumerate at he
  cases e1 : mr δ M with
  | none => rw [e1] at he; cases he
  | some r =>
    obtain ⟨ds, M1⟩ := r
    rw [e1] at he
    simp only [Option.bind_some] at he
    split at he
    · rename_i x
      cases e3 : itAny M1 x with
      | none => rw [e3] at he; cases he
      | some j1 =>
        rw [e3] at he
        cases he
        refine ⟨ι, δ, M, _, _, hs, hm, e1, fun ι1 H1 vs l1 m1 r1 => ?_⟩
        cases r1 with
        | cons ra rt =>
          cases rt
          obtain ⟨S1, rfl, ⟨xs, q1⟩, w1⟩ := itAny_src m1 ra e3
          exact ⟨S1, xs, rfl, q1, k ι1 H1 _ l1 m1 (itR_enum w1)⟩
    · cases he
/-! ### max, min of a list of whole numbers -/
end Mir
namespace Mir
open PySem PySem.Spec L2
variable {K : PySem.W.Frag}
/-! ### list.extend(list) -/
end Mir

set_option Elab.async false
set_option linter.all false
set_option maxRecDepth 100000
set_option maxHeartbeats 4000000
/-! list.remove, of texts or of whole numbers -/
namespace L2
open PySem PySem.Spec PyProof.Rows
def remV (y z : V) : Option Bool := match y, z with
  | .str a, .str b => some (b == a)
  | .int a, .int b => some (b == a)
  | _, _ => none
def remU (y : V) (u : Value) : Bool := match y, u with
  | .str a, .str b _ => b == a
  | .int a, .int b _ => b == a
  | _, _ => false
theorem remU_of {y z : V} {u : Value} {b : Bool} (h : remV y z = some b) (r : RelV z u) : remU y u = b := by
  cases y <;> cases z <;> simp only [remV, reduceCtorEq, Option.some.injEq] at h
  · obtain ⟨t, rfl⟩ := r; exact h
  · obtain ⟨t, rfl⟩ := r; exact h
theorem remU_gives {y z : V} {u w : Value} {b : Bool} (h : remV y z = some b) (r : RelV z u) (ry : RelV y w) : MeetsSeq.EqGives u w b := by
  cases y <;> cases z <;> simp only [remV, reduceCtorEq, Option.some.injEq] at h
  · obtain ⟨t, rfl⟩ := r; obtain ⟨t', rfl⟩ := ry; subst h; exact MeetsSeq.EqGives.int _ _ _ _
  · obtain ⟨t, rfl⟩ := r; obtain ⟨t', rfl⟩ := ry; subst h; exact eqGives_str _ _ _ _
def rRemove : V → List V → Hp → VK → Prop := fun x vs H Q => ∃ l xs y j z, x = .ref l ∧ vs = [y] ∧ H l = some (.lst xs) ∧ (∀ z ∈ xs, (remV y z).isSome = true) ∧ xs[j]? = some z ∧ remV y z = some true ∧ (∀ (m : Nat) z, m < j → xs[m]? = some z → remV y z = some false) ∧ Q .non (upd H l (.lst (xs.eraseIdx j)))
section
variable {X : Cx}
theorem Vals.getV : ∀ {xs : List V} {us : List Value} {i : Nat} {u : Value}, Vals xs us → us[i]? = some u → ∃ x, xs[i]? = some x ∧ RelV x u
  | _, _, _, _, .nil, e => by simp at e
  | _, _, 0, _, .cons r _, e => by simp at e; subst e; exact ⟨_, rfl, r⟩
  | _, _, i + 1, x, .cons _ t, e => by
    obtain ⟨d, h1, h2⟩ := Vals.getV (i := i) (u := x) t (by simpa using e)
    exact ⟨d, by simpa using h1, h2⟩
theorem mt_remove : MtM X "list.remove" rRemove := by
  intro pins s σ H x vs v us Q I rx rv h
  obtain ⟨l, xs, y, j, z, rfl, rfl, hH, hall, hz, hzj, hno, q⟩ := h
  cases rx
  obtain ⟨uy, rfl, ry⟩ := rv.one
  obtain ⟨zz, its, n, r, hl, e⟩ := I.lstM hH
  obtain ⟨w, hw, rw'⟩ := r.get hz
  obtain ⟨hjl, hje⟩ := List.getElem?_eq_some_iff.mp hw
  have hj : j < its.toArray.size := by simpa using hjl
  refine call_meets F.slot_list_remove ⟨_, e, rfl⟩ F.entry_list_remove (F.args_list_remove_2 _ _)
    (MeetsSeq.list_remove l its.toArray n uy (remU y) (fun u hu => ?_) j hj ?_ (fun m hm hmj => ?_) (by rw [List.size_toArray]; omega)) ⟨e, ?_⟩
  · obtain ⟨i, hi⟩ := List.mem_iff_getElem?.mp (show u ∈ its by simpa using hu)
    obtain ⟨z', hz', rz'⟩ := Vals.getV r hi
    have := hall z' (List.mem_of_getElem? hz')
    obtain ⟨b, hb⟩ := Option.isSome_iff_exists.mp this
    rw [remU_of hb rz']
    exact remU_gives hb rz' ry
  · have e1 : its.toArray[j] = w := by simpa using hje
    rw [e1]; exact remU_of hzj rw'
  · have hml : m < its.length := by simpa using hm
    obtain ⟨z', hz', rz'⟩ := Vals.getV r (List.getElem?_eq_getElem hml)
    have e1 : its.toArray[m] = its[m] := by simp
    rw [e1]; exact remU_of (hno m z' hmj hz') rz'
  · refine ⟨.non, _, I.lset (its' := its.eraseIdx j) hH e ?_ (r.eraseIdx j) ?_, rfl, q⟩
    · show its.toArray.eraseIdxIfInBounds j = (its.eraseIdx j).toArray
      rw [List.eraseIdxIfInBounds_toArray]
    · have := len_erase xs j
      omega
end
end L2
namespace Mir
open PySem PySem.Spec L2
variable {K : PySem.W.Frag}
def remD (y z : D) : Option Bool := match y, z with
  | .str a, .str b => some (b == a)
  | .int a, .int b => some (b == a)
  | _, _ => none
theorem remD_rel {ι : List Addr} {H : Hp} {y z : D} {vy vz : V} (ry : RelD K ι H y vy) (rz : RelD K ι H z vz) {b : Bool} (h : remD y z = some b) : remV vy vz = some b := by
  unfold remD at h
  split at h
  · cases ry; cases rz; exact h
  · cases ry; cases rz; exact h
  · cases h
def fRemove (x : D) (ds : List D) (M : Mem) : Option (D × Mem) := match ds with
  | [y] => (asLst M x).bind fun p => if p.2.all (fun z => (remD y z).isSome) = true then (p.2.findIdx? fun z => remD y z == some true).map fun j => (.non, M.set p.1 (.lst (p.2.eraseIdx j))) else none
  | _ => none
theorem remove_m : MtMM K rRemove fRemove := by
  intro ι H M x ds vx vs d M' Q hm rx r hf k
  unfold fRemove at hf
  split at hf
  · rename_i y
    cases e : asLst M x with
    | none => rw [e] at hf; cases hf
    | some p =>
      obtain ⟨i, xs⟩ := p
      rw [e] at hf
      simp only [Option.bind_some] at hf
      split at hf
      · rename_i hb
        cases e0 : xs.findIdx? (fun z => remD y z == some true) with
        | none => rw [e0] at hf; cases hf
        | some j =>
          rw [e0] at hf
          cases hf
          obtain ⟨hlt, hit, hno⟩ := List.findIdx?_eq_some_iff_getElem.mp e0
          obtain ⟨_, _, q, ws, rfl, hi, h1, r1⟩ := asLst_rel hm e rx
          cases r with
          | cons ry r3 =>
            cases r3
            obtain ⟨v, ev, rv⟩ := r1.get (List.getElem?_eq_getElem hlt)
            refine ⟨q, ws, _, j, v, rfl, rfl, h1, fun z hz => ?_, ev, remD_rel ry rv (by simpa using hit), fun m z hmj hz => ?_, got_set (xs := xs) hm hi h1 (r1.eraseIdx j) .non k⟩
            · obtain ⟨m, hm'⟩ := List.mem_iff_getElem?.mp hz
              obtain ⟨dz, hdz, rz⟩ := r1.getV hm'
              have := List.all_eq_true.mp hb dz (List.mem_of_getElem? hdz)
              obtain ⟨b, hb'⟩ := Option.isSome_iff_exists.mp this
              rw [remD_rel ry rz hb']; rfl
            · obtain ⟨dz, hdz, rz⟩ := r1.getV hz
              have h2 := List.all_eq_true.mp hb dz (List.mem_of_getElem? hdz)
              obtain ⟨b, hb'⟩ := Option.isSome_iff_exists.mp h2
              have h3 := hno m hmj
              obtain ⟨hml, hme⟩ := List.getElem?_eq_some_iff.mp hdz
              rw [hme, hb'] at h3
              have : b = false := by cases b <;> simp_all
              subst this
              exact remD_rel ry rz hb'
      · cases hf
  · cases hf
/-- a text in a text -/
def hasT (b a : Str) : Bool := !(Builtin.Str.occurrences b a 0 b.length 1).isEmpty
theorem op_inS {X : Cx} : OpR X (compareOp .In) (fun x y H Q => ∃ a b, x = .str a ∧ y = .str b ∧ Q (.bl (hasT b a)) H) := by
  intro pins s σ H x y v u Q I rx ry h
  obtain ⟨a, b, rfl, rfl, q⟩ := h
  obtain ⟨t, rfl⟩ := rx
  obtain ⟨t', rfl⟩ := ry
  exact PyProof.Rows.in_str ⟨.bl _, H, I, rfl, q⟩
def inE (x y : D) (M : Mem) : Option (D × Mem) := match x, y with
  | .str a, .str b => some (.bl (hasT b a), M)
  | x, y => inD x y M
theorem inE_m : OpM K (fun x y H Q => (rIn K false x y H Q ∨ ∃ a o, y = .ref a ∧ DGet H a x o ∧ Q (.bl o.isSome) H) ∨ ∃ a b, x = .str a ∧ y = .str b ∧ Q (.bl (hasT b a)) H) inE := by
  intro ι H M x y vx vy d M' Q hm rx ry hf k
  unfold inE at hf
  split at hf
  · cases hf
    cases rx
    cases ry
    exact .inr ⟨_, _, rfl, rfl, k ι H _ .refl hm (.bl _)⟩
  · exact .inl (in_m ι H M _ _ _ _ _ _ Q hm rx ry hf k)
section
variable {X : Cx} {a b : Expr} {pos : Pos} {ma mb : mE}
theorem mt_inE (hu : X.A.units + 1 < cLine) (ha : PE X a (tM X.K ma)) (hb : PE X b (tM X.K mb)) (hm : behindInMarks .In b = false) : PT X (.Compare a [.In] [b] pos) (tMT X.K (mB (mBin inE ma mb))) := mt_cmp ((op_in_seq.or (op_inD hu)).or op_inS) inE_m ha hb hm
end
section
variable {X : Cx} {a b : Expr} {pos : Pos} {ma mb : mE}
end
end Mir

set_option Elab.async false
set_option linter.all false
set_option maxRecDepth 100000
set_option maxHeartbeats 4000000
/-! sorted of pairs of whole numbers; a def that calls itself -/
namespace Mir
open PySem PySem.Spec L2
variable {X : Cx} {K : PySem.W.Frag}
abbrev II := Int × Int
abbrev AP := Addr × II
theorem fn_none {P : Program} {w : World} {mg : Str → Option Value} {base : Heap} {CX : CXT} {k n : Nat} {a : Addr} {fd : FuncData} {ps : List Str} : FnOk P w K mg base CX k a fd ps (spM K n fun _ _ => none) :=
  ⟨fun _ _ _ _ h => by obtain ⟨_, _, _, _, _, _, _, _, e, _⟩ := h; exact absurd e (by simp), fun _ _ _ _ _ _ _ _ _ _ _ _ _ h => by obtain ⟨_, _, _, _, _, _, _, _, e, _⟩ := h; exact absurd e (by simp)⟩
end Mir

set_option Elab.async false
set_option linter.all false
set_option maxRecDepth 100000
set_option maxHeartbeats 4000000
/-! sorted(d.items()) of whole numbers -/
namespace L2
open PySem PySem.Spec PyProof.Rows
end L2
namespace Mir
open PySem PySem.Spec L2
variable {X : Cx} {K : PySem.W.Frag} {e : Expr} {td : TE} {pos p apos cpos : Pos}
end Mir

set_option Elab.async false
set_option linter.all false
set_option maxRecDepth 100000
set_option maxHeartbeats 4000000
/-! Generator expressions in all(..), any(..) -/
namespace L2
open PySem PySem.Spec PyProof.Rows
/-! how many generators there are never falls -/
/-! ### the frame of a generator -/
theorem Room.gen {k : Nat} {A : Around} {elt : Expr} {gs : List Comprehension} {sc : Scope} {ps : Pos} {it acc : Value} {ce : Env} (r : Room (k + 1) A) :
    Room k (A.in1.in1.over (.compLoop (.GeneratorExp elt gs sc ps) 0 it acc ce) []) := by
  refine ⟨?_, ?_, ?_⟩
  · exact r.hd
  · have := r.dp
    show A.depth + 0 + 1 + 3 * k + 5 < _
    omega
  · have := r.un
    show A.units + 1 + 1 + 0 + 3 + 16 * k + 200 < _
    omega
structure GenOk (N : List Str) (sc scope : Scope) (own : List (Str × Nat)) : Prop where
  blk : BlkOk N sc scope own
  nocell : ∀ y ∈ scope.names, y.2 ≠ .cell
  dot : scope.names.lookup (".0" : Str) = some NameKind.local
  co : scope.isCoroutine = false
/-- the context of a generator's frame -/
abbrev Cx.gen (X : Cx) (A : Around) (s : Shared) (H : Hp) (cenv : Env) (fp : List Addr) : Cx :=
  { X with A := A, s_0 := s, H_0 := H, env := cenv, outer := X.stack, stack := cenv :: X.stack, ex := fp, fn := fun _ => false, pn := [], xe := fun _ _ => False }
section
variable {X : Cx} {pins : List (Addr × Obj)} {σ : St} {H : Hp} {s : Shared}
theorem Inv.same {s' : Shared} (I : Inv X pins σ H s) (hh : s'.heap = s.heap) (ho : s'.os = s.os) (hg : AllBare s'.gens) : Inv X pins σ H s' :=
  ⟨I.ok, ho.trans I.os, hg, by rw [hh]; exact I.base, by rw [hh]; exact I.loc, by rw [hh]; exact I.cell, I.free, I.freeC, by rw [hh]; exact I.pin, by rw [hh]; exact I.hok, I.len⟩
end

/-! ### its run: what is left of the walk, up to the next yield -/
section
variable {P : Program} {w : World} {X' : Cx} {A : Around} {elt tg iter : Expr} {ifs : List Expr} {scope : Scope} {pos : Pos} {it : Addr} {fp : List Addr} {tn : Nat → Heap → Prop} {J : It} {pz : List (Addr × Obj)} {σ : St} {vs : List Nat} {g : TG} {tt : TT} {te : TE} {W : Nat → Nat → Hp → Prop} {k0 : Bool} {Q : VK}
end

/-! ### the table of a code object -/
/-- the code object that runs, with its table -/
structure CodeAt (base : Heap) (code : Value) (P : Addr) : Prop where
  ex : ∃ (c : Addr) (o : Obj) (vs : Array Value) (file : Str) (tf : Tok) (flags : Int) (tg : Tok) (inF : Bool) (text : Int) (tt : Tok), code = .ref c ∧ base.get? c = some o ∧ o.data = .fields vs ∧ vs.getD 11 .none = .ref P ∧ vs.getD 18 .none = .str file tf ∧
    vs.getD 7 .none = .int flags tg ∧ vs.getD 9 .none = .bool inF ∧ vs.getD 10 .none = .int text tt
end L2

set_option Elab.async false
set_option linter.all false
set_option maxRecDepth 100000
set_option maxHeartbeats 4000000
namespace L2
open PySem PySem.Spec PyProof.Rows
section
variable {X' : Cx} {A : Around} {σw : St} {Q : VK} {a : Addr} {g : Nat} {ob : Obj}
end
end L2

set_option Elab.async false
set_option linter.all false
set_option maxRecDepth 100000
set_option maxHeartbeats 4000000
namespace L2
open PySem PySem.Spec PyProof.Rows
/-- the name __builtins__ of the module -/
structure BltAt (base : Heap) (mg : Str → Option Value) : Prop where
  ex : ∃ (bm : Addr) (ob : Obj), mg "__builtins__" = some (.ref bm) ∧ bm ≠ builtinsNs ∧ base.get? bm = some ob ∧ ob.cls = .type "module" ∧ ob.dict = some builtinsNs ∧ ob.data = .plain
section
variable {X : Cx}
end
end L2

set_option Elab.async false
set_option linter.all false
set_option maxRecDepth 100000
set_option maxHeartbeats 4000000
namespace Mir
open PySem PySem.Spec L2
variable {X : Cx} {a b c e o tg : Expr} {es rest : List Expr} {pos : Pos} {ma mb mc me mo : mE} {K : PySem.W.Frag} {ta tb : mT} {mr : mA} {st : Stmt} {sts : List Stmt} {m1 m2 : mS}
open Classical in
noncomputable def genM (k0 : Bool) (gd : List (Nat × MO)) (g : mG) (tt : mT) (te : mE) (δ : DSt) : List D → Mem → Option (Bool × Mem)
  | [], M => if Guarded M gd then some (k0, M) else none
  | d :: r, M => if Guarded M gd then (g d δ).bind fun δ1 => (tt δ1 M).bind fun t => if t.1 = true then (te δ1 t.2).bind fun y => match y.1 with
      | .bl kk => if kk = k0 then genM k0 gd g tt te δ r y.2 else some (!k0, y.2)
      | _ => none
    else genM k0 gd g tt te δ r t.2 else none
/-- all(..), any(..) over a generator expression -/
noncomputable def mGen (k0 : Bool) (mi : mI) (g : mG) (tt : mT) (te : mE) (vs : List Nat) : mE := fun δ M => (mi δ M).bind fun r => (genM k0 r.1.guard g tt te (wipeD δ vs) r.1.items r.2).map fun q => (.bl q.1, q.2)
/-- the code that runs, its table told by the written part -/
structure CodeT (K : PySem.W.Frag) (base : Heap) (code : Value) : Prop where
  ex : ∃ T, T ∈ tabsOf K ∧ CodeAt base code T
/-! ### the names of a generator, checked -/
/-! ### the written part without the tables, which it tells of in its last entry -/
/-- T: the tables' addresses and what stands in them -/
def keepT (T : List (Addr × Array Value)) (p : Addr × Obj) : Bool := !(T.any fun t => t.1 == p.1)
def cutK (K : PySem.W.Frag) (T : List (Addr × Array Value)) : PySem.W.Frag :=
  (K.filter (keepT T)) ++ [(mainGlobals, ⟨.none, none, .fields (T.map fun t => Value.ref t.1).toArray, #[]⟩)]
theorem tabsOf_cut {K : PySem.W.Frag} {T : List (Addr × Array Value)} : tabsOf (cutK K T) = T.map (·.1) := by
  unfold tabsOf cutK
  rw [List.getLast?_append]
  simp only [List.getLast?_singleton, Option.some_or]
  induction T with
  | nil => rfl
  | cons t r ih => simpa using ih
theorem lookup_filter {T : List (Addr × Array Value)} {a : Addr} (h : (T.any fun t => t.1 == a) = false) : ∀ {K : PySem.W.Frag}, (K.filter (keepT T)).lookup a = K.lookup a
  | [] => rfl
  | (b, o) :: r => by
    have ih := lookup_filter h (K := r)
    by_cases hb : a = b
    · subst hb
      rw [List.filter_cons_of_pos (by unfold keepT; rw [h]; rfl)]
      simp [List.lookup_cons]
    · by_cases hc : keepT T (b, o) = true
      · rw [List.filter_cons_of_pos hc]
        have e : (a == b) = false := by simpa using hb
        simp only [List.lookup_cons, e]; exact ih
      · rw [List.filter_cons_of_neg hc]
        have e : (a == b) = false := by simpa using hb
        simp only [List.lookup_cons, e]; exact ih
theorem lookup_none {T : List (Addr × Array Value)} {a : Addr} (h : (T.any fun t => t.1 == a) = true) : ∀ {K : PySem.W.Frag}, (K.filter (keepT T)).lookup a = none
  | [] => rfl
  | (b, o) :: r => by
    have ih := lookup_none h (K := r)
    by_cases hc : keepT T (b, o) = true
    · rw [List.filter_cons_of_pos hc]
      have hb : a ≠ b := fun z => by subst z; unfold keepT at hc; rw [h] at hc; cases hc
      have e : (a == b) = false := by simpa using hb
      simp only [List.lookup_cons, e]; exact ih
    · rw [List.filter_cons_of_neg hc]; exact ih
/-- where a table lies the written part tells nothing else -/
def TabsIn (K : PySem.W.Frag) (T : List (Addr × Array Value)) : Prop := ∀ t ∈ T, ∀ o, K.lookup t.1 = some o → o = { cls := .none, data := .fields t.2 }
theorem cut_get {K : PySem.W.Frag} {T : List (Addr × Array Value)} (hT : TabsIn K T) {a : Addr} {o : Obj} (e : K.lookup a = some o) (n : ∀ ps, o ≠ { cls := .none, data := .fields ps }) : (cutK K T).lookup a = some o := by
  have h : (T.any fun t => t.1 == a) = false := by
    cases z : (T.any fun t => t.1 == a) with
    | false => rfl
    | true =>
      obtain ⟨t, ht, q⟩ := List.any_eq_true.mp z
      have q : t.1 = a := by simpa using q
      exact absurd (hT t ht o (by rw [q]; exact e)) (n _)
  unfold cutK
  rw [List.lookup_append, lookup_filter h, e]; rfl
end Mir

set_option Elab.async false
set_option linter.all false
set_option maxRecDepth 100000
set_option maxHeartbeats 4000000
namespace Mir
open PySem PySem.Spec L2
section
variable {K : PySem.W.Frag} {T : List (Addr × Array Value)}
theorem cut_ns (hT : TabsIn K T) {ns : Addr} {x : Str} {r : Option Value} (h : PySem.W.nsIn K ns x = some r) : PySem.W.nsIn (cutK K T) ns x = some r := by
  unfold PySem.W.nsIn at h
  split at h
  · rename_i oc od es n sl q
    have q' := cut_get hT q (by intro ps z; cases z)
    unfold PySem.W.nsIn
    rw [q']
    exact h
  · cases h
theorem cut_fn (hT : TabsIn K T) {a : Addr} {oc : Value} {od : Option Addr} {fd : FuncData} {sl : Array (Option Value)} (h : K.lookup a = some ⟨oc, od, .func fd, sl⟩) : (cutK K T).lookup a = some ⟨oc, od, .func fd, sl⟩ := cut_get hT h (by intro ps z; cases z)
theorem cut_keep (hT : TabsIn K T) {a : Addr} {oc : Value} {od : Option Addr} {fd : FuncData} {sl : Array (Option Value)} (h : K.lookup a = some ⟨oc, od, .func fd, sl⟩) : PySem.W.keepIn (cutK K T) (.ref a) = true := by
  unfold PySem.W.keepIn
  simp only [cut_fn hT h]
theorem cut_code (hT : TabsIn K T) (hE : ∀ t ∈ T, t.2 = #[]) {cd : Value} {q : Str} (h : PySem.W.codeIn K cd q = true) : PySem.W.codeIn (cutK K T) cd q = true := by
  unfold PySem.W.codeIn at h
  split at h
  · rename_i c
    split at h
    · rename_i oc od vs sl e
      split at h
      · rename_i v0 n t r hv
        have hz : (T.any fun t => t.1 == c) = false := by
          cases z : (T.any fun t => t.1 == c) with
          | false => rfl
          | true =>
            obtain ⟨t', ht, e'⟩ := List.any_eq_true.mp z
            have e' : t'.1 = c := by simpa using e'
            have h1 := hT t' ht _ (by rw [e']; exact e)
            rw [hE t' ht] at h1
            cases h1
            cases hv
        unfold PySem.W.codeIn
        have : (cutK K T).lookup c = some ⟨oc, od, .fields vs, sl⟩ := by
          unfold cutK
          rw [List.lookup_append, lookup_filter hz, e]; rfl
        simp only [this, hv]
        exact h
      · cases h
    · cases h
  · cases h
end
theorem lookN_mem {α : Type} : ∀ {l : List (Addr × α)} {a : Addr} {b : α}, l.lookup a = some b → (a, b) ∈ l
  | (k, v) :: r, a, b, h => by
    by_cases e : a = k
    · subst e
      simp only [List.lookup_cons, beq_self_eq_true] at h
      cases h; exact List.mem_cons_self
    · have e' : (a == k) = false := by simpa using e
      simp only [List.lookup_cons, e'] at h
      exact List.mem_cons_of_mem _ (lookN_mem h)
theorem lookN_none {α : Type} : ∀ {l : List (Addr × α)} {a : Addr}, l.lookup a = none → ∀ t ∈ l, t.1 ≠ a
  | (k, v) :: r, a, h, t, ht => by
    by_cases e : a = k
    · subst e
      simp only [List.lookup_cons, beq_self_eq_true] at h
      cases h
    · have e' : (a == k) = false := by simpa using e
      simp only [List.lookup_cons, e'] at h
      rcases List.mem_cons.mp ht with rfl | ht
      · exact fun z => e z.symm
      · exact lookN_none h t ht


/-- the code of each of these defs, with its table -/
def Codes (gn : List Str) (K : PySem.W.Frag) (mg : Str → Option Value) (base : Heap) : Prop := ∀ x ∈ gn, ∀ (a : Addr) (oc : Value) (od : Option Addr) (fd : FuncData) (sl : Array (Option Value)), mg x = some (.ref a) → K.lookup a = some ⟨oc, od, .func fd, sl⟩ → CodeT K base fd.code
/-! ### the law's call, from a heap in which the script and the tables are tracked -/
theorem law_callT {P : Program} {w : World} {K : PySem.W.Frag} {T : List (Addr × Array Value)} {mg mb : Str → Option Value} {k : Nat} {fa a : Addr} {fd : FuncData} {x : Str} {f : List D → Mem → Option (D × Mem)} {s₁ : Shared} {vs : List Value} {ns : List Int} (hT : TabsIn K T) (gn : List Str)
    (hTab : ∀ t ∈ T, t.2 = #[] ∧ ∃ c, s₁.heap.IsCode c t.1 #[] ∧ s₁.heap.TableAt c t.1 #[]) (hGn : ∀ x ∈ gn, ∃ a o fd c P, mg x = some (.ref a) ∧ s₁.heap.get? a = some o ∧ o.data = .func fd ∧ fd.code = .ref c ∧ s₁.heap.IsCode c P #[] ∧ s₁.heap.TableAt c P #[] ∧ (P, #[]) ∈ T)
    (hbm : ∃ bm ob, mg "__builtins__" = some (.ref bm) ∧ bm ≠ builtinsNs ∧ s₁.heap.get? bm = some ob ∧ ob.cls = .type "module" ∧ ob.dict = some builtinsNs ∧ ob.data = .plain)
    (KX : K.In s₁.heap) (hns : s₁.heap.Ns mainGlobals mg) (hb : s₁.heap.Ns builtinsNs mb) (hbb : ∀ x : Str, x ≠ "__name__" → mb x = bootBuiltins x) (hlim : s₁.heap.NoLimit) (hg : s₁.gens = #[]) {x0 : Str} {r0 : Option Value} (hog : PySem.W.nsIn K mainGlobals x0 = some r0)
    (ha : s₁.heap.get? a = some { cls := .type "list", data := .seq vs.toArray }) (hi : PyProof.Rows.IntsAre vs ns) (hl : ns.length ≤ 63) (hr : Room k callerA)
    (F : ∀ base : Heap, (cutK K T).In base → base.Ns mainGlobals mg → BltAt base mg → Codes gn (cutK K T) mg base → FnOk P w (cutK K T) mg base CX0 k fa fd [x] (spM (cutK K T) 1 f)) (hbind : ∀ (s : Shared) (u : Value), BindsTo s fd ⟨[u], []⟩ [(x, u)])
    (hf : ∀ ns : List Int, ns.length ≤ 63 → ∃ M', f [.rol (ns.map D.int)] [] = some (.bl true, M')) :
    codeAny (model P w) callerA (.call (.ref fa) ⟨[.ref a], []⟩) (fun r s' => r = .ok (.ret (.bool true)) ∧ OldK s₁.heap s'.heap ∧ s'.os = s₁.os ∧ PyProof.Rows.AllBare s'.gens) s₁ := by
  have rv := vals_ints hi
  have lenV := hi.length
  have hsz : ns.length ≤ sizeLine := Nat.le_trans hl (by decide)
  have tabAt : ∀ t ∈ T, s₁.heap.get? t.1 = some { cls := .none, data := .fields t.2 } := fun t ht => by
    obtain ⟨e, c, _, h2⟩ := hTab t ht
    rw [e]; exact h2.2
  have aT : ∀ t ∈ T, t.1 ≠ a := fun t ht z => by
    have := tabAt t ht
    rw [z, ha] at this
    cases this
  have inBack : ∀ {b : Addr} {o : Obj}, (cutK K T).lookup b = some o → K.lookup b = some o ∧ T.lookup b = none := fun {b o} e => by
    have hne : ∀ {n : Addr}, T.lookup n ≠ none → n ≠ mainGlobals := fun {n} z q => by
      subst q
      cases z' : T.lookup mainGlobals with
      | none => exact z z'
      | some ps =>
        unfold PySem.W.nsIn at hog
        split at hog
        · rename_i q'
          have h1 := hT _ (lookN_mem z') _ q'
          cases h1
        · cases hog
    have any_iff : ∀ n, (T.any fun t => t.1 == n) = true ↔ T.lookup n ≠ none := fun n => by
      constructor
      · intro z q
        obtain ⟨t, ht, e⟩ := List.any_eq_true.mp z
        exact lookN_none q t ht (by simpa using e)
      · intro z
        cases z' : T.lookup n with
        | none => exact absurd z' z
        | some ps => exact List.any_eq_true.mpr ⟨_, lookN_mem z', by simp⟩
    cases q : T.lookup b with
    | some ps =>
      have hb1 := hne (n := b) (by rw [q]; simp)
      have hb2 : (b == mainGlobals) = false := by simpa using hb1
      unfold cutK at e
      rw [List.lookup_append, lookup_none ((any_iff b).mpr (by rw [q]; simp))] at e
      simp [List.lookup_cons, hb2] at e
    | none =>
      have z : (T.any fun t => t.1 == b) = false := by
        cases z : (T.any fun t => t.1 == b) with
        | false => rfl
        | true => exact absurd q ((any_iff b).mp z)
      unfold cutK at e
      rw [List.lookup_append, lookup_filter z] at e
      cases q2 : K.lookup b with
      | some o' => rw [q2] at e; simp at e; subst e; exact ⟨rfl, rfl⟩
      | none =>
        exfalso
        rw [q2] at e
        by_cases hb1 : b = mainGlobals
        · subst hb1
          unfold PySem.W.nsIn at hog
          rw [q2] at hog
          cases hog
        · have hb2 : (b == mainGlobals) = false := by simpa using hb1
          simp [List.lookup_cons, hb2] at e
  have core : ∀ S : Option HO, (∀ xs, S ≠ some (.lst xs)) → (S = none ∨ S = some (.frz { cls := .type "list", data := .seq vs.toArray } (.lst (ns.map V.int)))) → (S ≠ none → K.lookup a = none) →
      (∀ H : Hp, H a = S → SqL (cutK K T) H a (ns.map V.int)) →
      codeAny (model P w) callerA (.call (.ref fa) ⟨[.ref a], []⟩) (fun r s' => r = .ok (.ret (.bool true)) ∧ OldK s₁.heap s'.heap ∧ s'.os = s₁.os ∧ PyProof.Rows.AllBare s'.gens) s₁ := by
    intro S hS1 hS2 hS3 hS4
    generalize hH : (fun b => match T.lookup b with
      | some ps => some (TabO b ps)
      | none => if b = a then S else none : Hp) = H
    have Ht : ∀ {b : Addr} {ps : Array Value}, T.lookup b = some ps → H b = some (TabO b ps) := fun {b ps} e => by rw [← hH]; simp only [e]
    have Ha : T.lookup a = none := by
      cases q : T.lookup a with
      | none => rfl
      | some ps => exact absurd rfl (aT _ (lookN_mem q))
    have HS : H a = S := by rw [← hH]; simp only [Ha, if_true]
    have Hn : ∀ {b : Addr}, T.lookup b = none → b ≠ a → H b = none := fun {b} e n => by rw [← hH]; simp only [e, if_neg n]
    have hok : HOk P w H s₁.heap := fun b u z => by
      cases q : T.lookup b with
      | some ps =>
        rw [Ht q] at z
        cases z
        have h1 := tabAt _ (lookN_mem q)
        have h2 : TriplesOk ps.toList := by rw [show ps = #[] from (hTab _ (lookN_mem q)).1]; trivial
        exact ⟨⟨#[], by simpa using h1, by simpa using h2⟩, ⟨_, h1⟩, fun h1 h2 ⟨more, e1, e2⟩ k => ⟨more, k _ e1, e2⟩⟩
      | none =>
        by_cases hb1 : b = a
        · subst hb1
          rw [HS] at z
          rcases hS2 with e | e
          · rw [e] at z; cases z
          · rw [e] at z; cases z
            exact ⟨ha, by rw [List.length_map]; exact hsz, vs, _, rv, ha⟩
        · rw [Hn q hb1] at z; cases z
    have dictN : ∀ {b : Addr} {o : Obj} {es : Array DictEntry} {ep : Nat}, s₁.heap.get? b = some o → o.data = .dict es ep → H b = none := fun {b o es ep} e d => by
      cases q : T.lookup b with
      | some ps =>
        have h1 := tabAt _ (lookN_mem q)
        rw [e] at h1
        cases h1
        cases d
      | none =>
        refine Hn q fun z => ?_
        subst z
        rw [ha] at e
        cases e
        cases d
    have nsK : ∀ {b : Addr} {m : Str → Option Value}, s₁.heap.Ns b m → (hidT s₁.heap H).Ns b m := fun {b m} ⟨o, es, ep, e, d, r⟩ => ⟨o, es, ep, hidT_get e (dictN e d), d, r⟩
    have hKb : (cutK K T).In (hidT s₁.heap H) := fun b o e => by
      obtain ⟨e1, e2⟩ := inBack e
      refine hidT_get (KX b o e1) ?_
      by_cases hb1 : b = a
      · subst hb1
        rw [HS]
        rcases hS2 with z | z
        · exact z
        · rw [hS3 (by rw [z]; simp)] at e1; cases e1
      · exact Hn e2 hb1
    have hM : Mod (cutK K T) mg (hidT s₁.heap H) := ⟨hKb, nsK hns, ⟨mb, nsK hb, hbb⟩, let ⟨mc, h1, h2⟩ := hlim; ⟨mc, nsK h1, h2⟩⟩
    have e0 : Env0 P w (cutK K T) mg (hidT s₁.heap H) callerA [] s₁ H := ⟨rfl, hM, fun b o e => of_hidT e, Nat.le_of_eq (hidT_size _ _), trivial, fun b hb => absurd (show b ∈ ([] : List Addr) from hb) (by simp), hok, .of_eq hg⟩
    have objN : ∀ {b : Addr} {o : Obj} {n : String}, s₁.heap.get? b = some o → o.cls = .type n → n ≠ "list" → H b = none := fun {b o n} e d hn => by
      cases q : T.lookup b with
      | some ps =>
        have h1 := tabAt _ (lookN_mem q)
        rw [e] at h1
        cases h1
        cases d
      | none =>
        refine Hn q fun z => ?_
        subst z
        rw [ha] at e
        cases e
        cases d
        exact hn rfl
    have hB : BltAt (hidT s₁.heap H) mg := by
      obtain ⟨bm, ob, h1, h2, h3, h4, h5, h6⟩ := hbm
      exact ⟨bm, ob, h1, h2, hidT_get h3 (objN h3 h4 (by decide)), h4, h5, h6⟩
    have hCs : Codes gn (cutK K T) mg (hidT s₁.heap H) := fun x hx a' oc od fd' sl h1 h2 => by
      obtain ⟨a2, o, fd2, c, P', e1, e2, e3, e4, hc, ht, hm⟩ := hGn x hx
      rw [e1] at h1
      cases h1
      have h3 := KX _ _ (inBack h2).1
      rw [e2] at h3
      cases h3
      cases e3
      rw [e4]
      obtain ⟨o', vs', file, tf, flags, tg, inF, text, tt, op, f1, f2, f3, f4, f5, f6, f7, _⟩ := hc
      obtain ⟨⟨o2, vs2, g1, g2, _⟩, _⟩ := ht
      rw [f1] at g1
      cases g1
      exact ⟨P', by rw [tabsOf_cut]; exact List.mem_map.mpr ⟨_, hm, rfl⟩, ⟨c, o', vs', file, tf, flags, tg, inF, text, tt, rfl, hidT_get f1 (objN f1 g2 (by decide)), f2, f3, f4, f5, f6, f7⟩⟩
    have sp := law_sp (K := cutK K T) hf H a ns hl (by rw [HS]; exact hS1) (fun t ht => by
      rw [tabsOf_cut] at ht
      obtain ⟨p, hp, rfl⟩ := List.mem_map.mp ht
      cases q : T.lookup p.1 with
      | none => exact absurd rfl (lookN_none q p hp)
      | some ps => exact ⟨ps, Ht q⟩) (hS4 H HS) (fun H' => ∀ b φ, H b = some (HO.ext φ) → H' b = some (HO.ext φ)) fun ι' H' l => l.tb
    refine codeAny_mono ((F _ hKb (nsK hns) hB hCs).run callerA [] s₁ H ⟨[.ref a], []⟩ [.ref a] [.ref a] _ _ hr e0 (hbind s₁ (.ref a)) (.cons rfl .nil) sp) fun r s' h => ?_
    cases r with
    | error e => exact False.elim h
    | ok fl =>
      cases fl with
      | next => exact False.elim h
      | brk => exact False.elim h
      | cont => exact False.elim h
      | ret u =>
        obtain ⟨v, H', os, bare, un, hok', r', rfl, hx⟩ := h
        obtain rfl : u = Value.bool true := r'
        have kept : ∀ b o, s₁.heap.get? b = some o → T.lookup b = none → s'.heap.get? b = some o := fun b o e q => by
          by_cases hb1 : b = a
          · subst hb1
            rcases hS2 with z | z
            · exact un.keep b o e (HS.trans z) (by simp [frs]) (by simp)
            · have z2 := un.frzs b _ _ (HS.trans z)
              obtain ⟨e2, _⟩ := hok' b _ z2
              rw [ha] at e; cases e
              exact e2
          · exact un.keep b o e (Hn q hb1) (by simp [frs]) (by simp)
        have grown : ∀ b ps, T.lookup b = some ps → ∃ more, s'.heap.get? b = some { cls := .none, data := .fields (ps ++ more) } := fun b ps q => by
          obtain ⟨⟨more, e, _⟩, _⟩ := hok' b _ (hx b _ (Ht q))
          exact ⟨more, e⟩
        refine ⟨rfl, ⟨fun b o e => ?_, fun b o e => ?_⟩, os, bare⟩
        · cases q : T.lookup b with
          | none => exact .inl (kept b o e q)
          | some ps =>
            obtain ⟨more, e2⟩ := grown b ps q
            have h1 := tabAt _ (lookN_mem q)
            rw [e] at h1; cases h1
            obtain ⟨_, c, _, hc2⟩ := hTab _ (lookN_mem q)
            exact .inr (.inl ⟨hc2.isCodeTable, rfl, ps, more, rfl, e2⟩)
        · cases q : T.lookup b with
          | none => exact ⟨o, kept b o e q⟩
          | some ps => obtain ⟨more, e2⟩ := grown b ps q; exact ⟨_, e2⟩
  cases hk : K.lookup a with
  | some o =>
    have e := KX a o hk
    rw [ha] at e
    cases e
    have hk' := cut_get hT hk (by intro ps z; cases z)
    exact core none (fun _ z => by cases z) (.inl rfl) (fun z => absurd rfl z) fun H _ => .inr ⟨_, vs.toArray, _, hk', rfl, rfl, rfl, by rw [List.size_toArray, lenV]; exact hsz, by simpa using rv⟩
  | none =>
    exact core (some (.frz { cls := .type "list", data := .seq vs.toArray } (.lst (ns.map V.int)))) (fun _ z => by cases z) (.inr rfl) (fun _ => hk) fun H e => .inl (.inr ⟨_, e⟩)
theorem tabs_of {mg : Str → Option Value} {h : Heap} : ∀ (gn : List Str), (∀ x ∈ gn, ∃ a o fd c P, mg x = some (.ref a) ∧ h.get? a = some o ∧ o.data = .func fd ∧ fd.code = .ref c ∧ h.IsCode c P #[] ∧ h.TableAt c P #[]) →
    ∃ T : List (Addr × Array Value), (∀ t ∈ T, t.2 = #[] ∧ ∃ c, h.IsCode c t.1 #[] ∧ h.TableAt c t.1 #[]) ∧ ∀ x ∈ gn, ∃ a o fd c P, mg x = some (.ref a) ∧ h.get? a = some o ∧ o.data = .func fd ∧ fd.code = .ref c ∧ h.IsCode c P #[] ∧ h.TableAt c P #[] ∧ (P, #[]) ∈ T
  | [], _ => ⟨[], fun _ h => (by cases h), fun _ h => (by cases h)⟩
  | x :: r, hx => by
    obtain ⟨T, h1, h2⟩ := tabs_of r fun y hy => hx y (List.mem_cons_of_mem _ hy)
    obtain ⟨a, o, fd, c, P, e1, e2, e3, e4, e5, e6⟩ := hx x List.mem_cons_self
    refine ⟨(P, #[]) :: T, fun t ht => ?_, fun y hy => ?_⟩
    · rcases List.mem_cons.mp ht with rfl | ht
      · exact ⟨rfl, c, e5, e6⟩
      · exact h1 t ht
    · rcases List.mem_cons.mp hy with rfl | hy
      · exact ⟨a, o, fd, c, P, e1, e2, e3, e4, e5, e6, List.mem_cons_self⟩
      · obtain ⟨a, o, fd, c, P, e1, e2, e3, e4, e5, e6, e7⟩ := h2 y hy
        exact ⟨a, o, fd, c, P, e1, e2, e3, e4, e5, e6, List.mem_cons_of_mem _ e7⟩
theorem law_walkT {l : PySem.W.OpenLaw} {q : Program} {loose : List Str} {XP : (Str → Option Value) → Heap → Prop} {YP : World → Heap → Prop} {d : DefRec} {K : Params → PySem.W.Frag} {k : Nat} {x : Str} {f : List D → Mem → Option (D × Mem)} (gn : List Str)
    (hn : l.most = some 63) (hdf : d.params.defaults = []) (hr : Room k callerA) (hq : (gn.all fun x => (PyProof.Rows.recsOf q).any fun r => r.name == x) = true) (hY : ∀ (w : World) (h : Heap), YP w h → (K w.params).In h)
    (F : ∀ (w : World) (mg : Str → Option Value) (fa : Addr) (h : Heap) (T : List (Addr × Array Value)), (K w.params).In h → h.Ns mainGlobals mg → mg d.name = some (.ref fa) → TabsIn (K w.params) T → (∀ t ∈ T, t.2 = #[]) →
      ∃ fd : FuncData, (∃ x0 r0, PySem.W.nsIn (K w.params) mainGlobals x0 = some r0) ∧ (∀ (s : Shared) (u : Value), BindsTo s fd ⟨[u], []⟩ [(x, u)]) ∧
        ∀ base : Heap, (cutK (K w.params) T).In base → base.Ns mainGlobals mg → BltAt base mg → Codes gn (cutK (K w.params) T) mg base → FnOk l.prog w (cutK (K w.params) T) mg base CX0 k fa fd [x] (spM (cutK (K w.params) T) 1 f))
    (hf : ∀ ns : List Int, ns.length ≤ 63 → ∃ M', f [.rol (ns.map D.int)] [] = some (.bl true, M')) :
    PySem.W.WalkO q loose XP YP l.row.toRowW d [] (fun f vs => PySem.call f vs) := by
  refine Att.attach_call hn hdf fun w s₀ s₁ mg mb fa o pm cd doc a vs ns G Y ho hd hcd hmg hobj hints hlen hg => ?_
  have KX := hY w _ Y
  obtain ⟨T, hTab, hGn⟩ := tabs_of (mg := mg) (h := s₁.heap) gn fun x hx => by
    have h1 := List.all_eq_true.mp hq x hx
    obtain ⟨r, hr, e⟩ := List.any_eq_true.mp h1
    have e : r.name = x := by simpa using e
    subst e
    exact G.T.tab r hr
  have hT : TabsIn (K w.params) T := fun t ht o e => by
    obtain ⟨e1, c, _, e2⟩ := hTab t ht
    have h1 := KX _ _ e
    rw [e2.2] at h1
    cases h1
    rw [e1]
  obtain ⟨fd, ⟨x0, r0, hx0⟩, hb, hF⟩ := F w mg fa _ T KX G.T.g hmg hT fun t ht => (hTab t ht).1
  exact law_callT hT gn hTab hGn G.T.bmain KX G.T.g G.T.b G.T.builtins G.T.nolimit hg hx0 hobj hints hlen hr hF hb hf
end Mir

set_option Elab.async false
set_option linter.all false
set_option maxRecDepth 100000
set_option maxHeartbeats 4000000
namespace Mir
open PySem PySem.Spec L2
section
variable {P : Program} {w : World} {K : PySem.W.Frag} {mg : Str → Option Value} {base : Heap}
end

theorem cut_back {K : PySem.W.Frag} {T : List (Addr × Array Value)} (hT : TabsIn K T) {x0 : Str} {r0 : Option Value} (hog : PySem.W.nsIn K mainGlobals x0 = some r0) {b : Addr} {o : Obj} (e : (cutK K T).lookup b = some o) : K.lookup b = some o := by
  have any_iff : ∀ n, (T.any fun t => t.1 == n) = true → ∃ ps, T.lookup n = some ps := fun n z => by
    obtain ⟨t, ht, e⟩ := List.any_eq_true.mp z
    cases q : T.lookup n with
    | none => exact absurd (by simpa using e) (lookN_none q t ht)
    | some ps => exact ⟨ps, rfl⟩
  cases z : (T.any fun t => t.1 == b) with
  | true =>
    obtain ⟨ps, q⟩ := any_iff b z
    have hb1 : b ≠ mainGlobals := fun q' => by
      subst q'
      unfold PySem.W.nsIn at hog
      split at hog
      · rename_i q'
        have h1 := hT _ (lookN_mem q) _ q'
        cases h1
      · cases hog
    have hb2 : (b == mainGlobals) = false := by simpa using hb1
    unfold cutK at e
    rw [List.lookup_append, lookup_none z] at e
    simp [List.lookup_cons, hb2] at e
  | false =>
    unfold cutK at e
    rw [List.lookup_append, lookup_filter z] at e
    cases q2 : K.lookup b with
    | some o' => rw [q2] at e; simp at e; subst e; rfl
    | none =>
      exfalso
      rw [q2] at e
      by_cases hb1 : b = mainGlobals
      · subst hb1
        unfold PySem.W.nsIn at hog
        rw [q2] at hog
        cases hog
      · have hb2 : (b == mainGlobals) = false := by simpa using hb1
        simp [List.lookup_cons, hb2] at e
theorem cut_in {K : PySem.W.Frag} {T : List (Addr × Array Value)} {h : Heap} (hT : TabsIn K T) {x0 : Str} {r0 : Option Value} (hog : PySem.W.nsIn K mainGlobals x0 = some r0) (X : K.In h) : (cutK K T).In h := fun b o e => X b o (cut_back hT hog e)
end Mir

set_option Elab.async false
set_option linter.all false
set_option maxRecDepth 100000
set_option maxHeartbeats 4000000
namespace HT
open PySem PySem.Spec PyProof.Rows
section
variable {prog : Program} {w : World} {A : Around} {E : Value → Shared → Prop} {s : Shared}
theorem rev_places (n : Nat) : Builtin.Slice.slicePlaces ((n : Int) - 1) (-1) (-1) = n := by
  unfold Builtin.Slice.slicePlaces
  rw [if_neg (by decide)]
  split
  · have : ((n : Int) - 1 - -1 - 1) / (- -1) + 1 = n := by
      rw [show (- -1 : Int) = 1 from rfl, Int.ediv_one]; omega
    rw [this]; rfl
  · have : n = 0 := by omega
    subst this; rfl
theorem rev_pick (xs : List Value) : ((List.range xs.length).filterMap fun (m : Nat) => xs.toArray[(((xs.length : Int) - 1) + (m : Int) * (-1)).toNat]?) = xs.reverse := by
  apply List.ext_getElem?
  intro i
  have key : ∀ (l : List Nat), (∀ m ∈ l, m < xs.length) → l.filterMap (fun (m : Nat) => xs.toArray[(((xs.length : Int) - 1) + (m : Int) * (-1)).toNat]?) = l.map fun m => xs.getD (xs.length - 1 - m) .none := by
    intro l
    induction l with
    | nil => intro _; rfl
    | cons m r ih =>
      intro h
      have hm := h m List.mem_cons_self
      have e : (((xs.length : Int) - 1) + (m : Int) * (-1)).toNat = xs.length - 1 - m := by omega
      have hlt : xs.length - 1 - m < xs.length := by omega
      have e2 : xs.toArray[(((xs.length : Int) - 1) + (m : Int) * (-1)).toNat]? = some (xs.getD (xs.length - 1 - m) .none) := by
        rw [e]
        simp [hlt]
      rw [List.filterMap_cons, List.map_cons, ← ih fun k hk => h k (List.mem_cons_of_mem _ hk)]
      simp only [e2]
  rw [key _ (fun m hm => List.mem_range.mp hm)]
  rw [List.getElem?_map]
  by_cases hi : i < xs.length
  · rw [List.getElem?_reverse hi]
    have hlt : xs.length - 1 - i < xs.length := by omega
    simp [hi, hlt]
  · rw [List.getElem?_eq_none (by simpa using hi), List.getElem?_eq_none (by simpa using hi)]; rfl
theorem revApplied {sl : Addr} {n : Nat} {t : Tok} {Q : Int × Int × Nat → Shared → Prop} (hs : s.heap.IsSliceOf sl .none .none (.int (-1) t)) (h : Q ((n : Int) - 1, -1, n) s) : wpAny (model prog w) A (Builtin.Slice.sliceApplied (.ref sl) (pure (n : Int))) Q E s := by
  obtain ⟨os, hos, hcs, hds⟩ := id hs
  unfold Builtin.Slice.sliceApplied Builtin.Slice.sliceFields
  refine wpAny_bind (wpAny_bind (wpAny_field hos hds (x := .none) rfl (wpAny_bind (wpAny_field hos hds (x := .none) rfl (wpAny_bind (wpAny_field hos hds (x := .int (-1) t) rfl (wpAny_pure ?_)))))))
  refine wpAny_bind (slicePart_int ?_)
  show wpAny _ _ (if ((-1 : Int) == 0) = true then _ else _) _ _ s
  rw [if_neg (by decide)]
  refine wpAny_bind (slicePart_none (wpAny_bind (slicePart_none (wpAny_bind (wpAny_pure ?_)))))
  show wpAny _ _ (pure ((n : Int) - 1, (-1 : Int), Builtin.Slice.slicePlaces ((n : Int) - 1) (-1) (-1))) _ _ s
  rw [rev_places]
  exact wpAny_pure h
theorem getItem_tuple_rev {t sl : Addr} {items : List Value} {tk : Tok} {Q : Value → Shared → Prop} (ht : IsTup s.heap t items.toArray) (hs : s.heap.IsSliceOf sl .none .none (.int (-1) tk))
    (h : Q (.ref s.heap.objs.size) { s with heap := s.heap.push { cls := .type "tuple", data := .seq items.reverse.toArray } }) (hsz : items.length ≤ sizeLine) : wpAny (model prog w) A (getItem (.ref t) (.ref sl)) Q E s := by
  have htake : sizeOk (.seq items.reverse.toArray) := by
    show items.reverse.toArray.size ≤ sizeLine
    rw [List.size_toArray, List.length_reverse]; exact hsz
  obtain ⟨os, hos, hcs, hds⟩ := id hs
  have hTs : s.TypeIs (.ref sl) "slice" := ⟨os, hos, hcs⟩
  have hn : items.toArray.size = items.length := by rw [List.size_toArray]
  unfold getItem
  try with_reducible refine wpAny_holding ?_
  first | refine wpAny_bind (wpAny_pure ?_) | skip
  refine wpAny_bind (wpAny_sequenceKey ht.typeIs (by decide) ?_)
  refine wpAny_bind (wpAny_callSpecial?_slot (name := Str.ofString "__getitem__") ht.typeIs PyProof.Rows.slot_tuple_getitem (wpAny_call_entry PyProof.Rows.slot_tuple_getitem ht.typeIs entry_tuple_getitem ?_ (args_tuple_getitem _ _)))
  show wpAny _ _ (Builtin.Tuple.tupleItemsOf (.ref t) >>= _) _ _ s
  refine wpAny_bind (tupleItemsOf_ ht ?_)
  refine wpAny_bind (wpAny_typeOf hTs ?_); rw [if_pos (by decide)]
  refine wpAny_bind (revApplied (n := items.toArray.size) hs ?_)
  have hno : ¬ ((((items.toArray.size : Int) - 1) == 0 && (-1 : Int) == 1 && items.toArray.size == items.toArray.size) = true) := by
    intro q
    rw [Bool.and_eq_true, Bool.and_eq_true] at q
    exact absurd q.1.2 (by decide)
  show wpAny _ _ (if ((((items.toArray.size : Int) - 1)) == 0 && (-1 : Int) == 1 && items.toArray.size == items.toArray.size) = true then _ else _) _ _ s
  rw [if_neg hno, hn, rev_pick]
  first
    | exact wpAny_bind (m := Builtin.Tuple.tupleExact _) (wpAny_newObj_type (wpAny_pure ⟨_, rfl, wpAny_pure h⟩) htake)
    | exact wpAny_bind (wpAny_bind (m := Builtin.Tuple.tupleExact _) (wpAny_newObj_type (wpAny_pure ⟨_, rfl, wpAny_pure h⟩) htake))

theorem getItem_tuple_whole {t sl : Addr} {items : Array Value} {vl vu : Value} {lo hi : Option Int} {Q : Value → Shared → Prop} (ht : IsTup s.heap t items) (hs : s.heap.IsSliceOf sl vl vu .none) (pl : IsPart vl lo) (pu : IsPart vu hi)
    (hw : sIx items.size 0 lo = 0 ∧ sIx items.size items.size hi = items.size) (h : Q (.ref t) s) : wpAny (model prog w) A (getItem (.ref t) (.ref sl)) Q E s := by
  obtain ⟨os, hos, hcs, hds⟩ := id hs
  have hTs : s.TypeIs (.ref sl) "slice" := ⟨os, hos, hcs⟩
  unfold getItem
  try with_reducible refine wpAny_holding ?_
  first | refine wpAny_bind (wpAny_pure ?_) | skip
  refine wpAny_bind (wpAny_sequenceKey ht.typeIs (by decide) ?_)
  refine wpAny_bind (wpAny_callSpecial?_slot (name := Str.ofString "__getitem__") ht.typeIs PyProof.Rows.slot_tuple_getitem (wpAny_call_entry PyProof.Rows.slot_tuple_getitem ht.typeIs entry_tuple_getitem ?_ (args_tuple_getitem _ _)))
  show wpAny _ _ (Builtin.Tuple.tupleItemsOf (.ref t) >>= _) _ _ s
  refine wpAny_bind (tupleItemsOf_ ht ?_)
  refine wpAny_bind (wpAny_typeOf hTs ?_); rw [if_pos (by decide)]
  refine wpAny_bind (sliceApplied_gen hs pl pu ?_)
  rw [hw.1, hw.2]
  have hyes : ((((0 : Nat) : Int) == 0 && (1 : Int) == 1 && (items.size - 0) == items.size) = true) := by simp
  show wpAny _ _ (if (((0 : Nat) : Int) == 0 && (1 : Int) == 1 && (items.size - 0) == items.size) = true then _ else _) _ _ s
  rw [if_pos hyes]
  refine wpAny_bind (wpAny_bind (wpAny_typeOf ht.typeIs (wpAny_pure ?_)))
  rw [if_pos (by decide)]
  first
    | exact wpAny_bind (wpAny_rule (wpAny_pure ⟨_, rfl, wpAny_pure h⟩))
    | exact wpAny_bind (wpAny_rule (wpAny_bind (wpAny_pure (wpAny_pure ⟨_, rfl, wpAny_pure h⟩))))
    | exact wpAny_rule (wpAny_pure ⟨_, rfl, wpAny_pure h⟩)
end
end HT

namespace L2
open PySem PySem.Spec PyProof.Rows
section
variable {X : Cx} {e : Expr} {te : TE} {pos p2 p3 p4 : Pos}
theorem pick_rev (its : List Value) : slicePick its.toArray none none (some (-1)) = its.reverse.toArray := by
  unfold slicePick
  congr 1
  have hb : sliceBounds none none (some (-1)) its.toArray.size = ((its.length : Int) - 1, -1, -1) := by rw [List.size_toArray]; rfl
  rw [hb]
  have hr : sliceRange ((its.length : Int) - 1) (-1) (-1) = (List.range its.length).map fun (k : Nat) => (((its.length : Int) - 1) + (-1) * (k : Int)).toNat := by
    unfold sliceRange
    have hc : (if (-1 : Int) > 0 then (if ((its.length : Int) - 1) < -1 then (-1 - ((its.length : Int) - 1) + -1 - 1) / -1 else 0) else (if ((its.length : Int) - 1) > -1 then (((its.length : Int) - 1) - -1 - -1 - 1) / (- -1) else 0)) = (its.length : Int) := by
      rw [if_neg (by decide)]
      split
      · rw [show (- -1 : Int) = 1 from rfl, Int.ediv_one]; omega
      · omega
    rw [hc]; rfl
  show (sliceRange ((its.length : Int) - 1) (-1) (-1)).filterMap _ = _
  rw [hr, List.filterMap_map, ← HT.rev_pick its]
  congr 1
  funext m
  have e : ((its.length : Int) - 1 + -1 * (m : Int)) = (its.length : Int) - 1 + (m : Int) * -1 := by omega
  show its.toArray[((its.length : Int) - 1 + -1 * (m : Int)).toNat]? = _
  rw [e]
/-- xs[::-1] of a list or a tuple -/
def rRev (K : PySem.W.Frag) : V → Hp → VK → Prop := fun x H Q => (∃ a xs, x = .ref a ∧ SqL K H a xs ∧ ∀ p, H p = none → Q (.ref p) (upd H p (.lst xs.reverse))) ∨ ∃ a xs, x = .ref a ∧ SqT K H a xs ∧ ∀ p, H p = none → Q (.ref p) (upd H p (.tup xs.reverse))
theorem pe_rev (he : PE X e te) : PE X (.Subscript e (.Slice none none (some (.UnaryOp .USub (.Constant (.int 1) 0 p4) p3)) p2) pos) (fun σ H Q => te σ H fun x H1 => rRev X.K x H1 Q) := by
  intro pins s σ H Q I h
  refine Subscript_ (thn (he pins s σ H _ I h) fun v s1 ⟨x, H1, I1, r1, q1⟩ => ?_)
  refine wpAny_Slice ?_
  rw [evalPart_none]; refine wpAny_pure ?_
  refine wpAny_pure ?_
  refine thn (po_some (pe_un un_neg pe_int) pins s1 σ H1 (fun o H2 => o = some (-1) ∧ H2 = H1) I1 ⟨1, rfl, -1, rfl, rfl, rfl⟩) fun vs s2 ⟨o, H2, I2, ps, ho, hH⟩ => ?_
  subst ho hH
  cases ps with
  | int i t =>
  have I4 : Inv X pins σ H2 { s2 with heap := s2.heap.push { cls := .type "slice", data := .fields #[.none, .none, .int (-1) t] } } := I2.kept (t' := s2.toks) fun b ob q => Heap.get?_push_of_some _ q
  have hs : (s2.heap.push { cls := .type "slice", data := .fields #[.none, .none, .int (-1) t] }).IsSliceOf s2.heap.objs.size .none .none (.int (-1) t) := Heap.IsSliceOf.new ..
  show wpAny (model X.prog X.w) X.A (subscriptTail e (.Slice none none (some (.UnaryOp .USub (.Constant (.int 1) 0 p4) p3)) p2) v (.ref s2.heap.objs.size)) (EP X pins σ Q) X.xe { s2 with heap := s2.heap.push { cls := .type "slice", data := .fields #[.none, .none, .int (-1) t] } }
  rcases q1 with ⟨a, xs, rfl, hx, q⟩ | ⟨a, xs, rfl, hx, q⟩
  · cases r1
    obtain ⟨its, r, ht, hz⟩ := I4.list hx
    refine tail_any (ops := [.ref a, .ref s2.heap.objs.size]) ht.isList.typeIs slot_list_getitem.lookup ?_ (by with_unfolding_all rfl)
    refine wpAny_getItem_list_slice ht.isList hs .none .none (.int (-1) t) (by simp) ?_ (by rw [List.size_toArray, ← r.length]; exact hz)
    rw [pick_rev]
    refine ⟨.ref _, _, I4.laid (t' := s2.toks) (o := .lst xs.reverse) (fun b ob q => Heap.get?_push_of_some _ q) (Nat.le_refl _) ?_, rfl, q _ (I4.hok.fresh (Nat.le_refl _))⟩
    exact ⟨by rw [List.length_reverse]; exact hz, _, 0, vals_rev r, Heap.get?_push_size _ rfl⟩
  · cases r1
    obtain ⟨its, r, ht, hz⟩ := I4.tuple hx
    refine tail_any (ops := [.ref a, .ref s2.heap.objs.size]) ht.typeIs PyProof.Rows.slot_tuple_getitem.lookup ?_ (by with_unfolding_all rfl)
    refine HT.getItem_tuple_rev ht hs ?_ (by rw [← r.length]; exact hz)
    refine ⟨.ref _, _, I4.laid (t' := s2.toks) (o := .tup xs.reverse) (fun b ob q => Heap.get?_push_of_some _ q) (Nat.le_refl _) ?_, rfl, q _ (I4.hok.fresh (Nat.le_refl _))⟩
    exact ⟨by rw [List.length_reverse]; exact hz, _, vals_rev r, IsTup.new _ _, _, Heap.get?_push_size _ rfl, rfl⟩
end

section
variable {X : Cx} {pos p2 : Pos}
/-- t[lo:hi] of a tuple, the whole one too -/
def rSlT2 (K : PySem.W.Frag) : V → Option Int → Option Int → Hp → VK → Prop := fun x lo hi H Q => ∃ a xs, x = .ref a ∧ SqT K H a xs ∧ (HT.sIx xs.length 0 lo = 0 ∧ HT.sIx xs.length xs.length hi = xs.length) ∧ Q x H
theorem sl_tup2 : SlR X (rSlT2 X.K) := by
  intro pins s σ H x v vl vu lo hi sl Q I rx hs pl pu h
  obtain ⟨a, xs, rfl, hx, hw, q⟩ := h
  cases rx
  obtain ⟨its, r, ht, hz⟩ := I.tuple hx
  have hlen : its.toArray.size = xs.length := by rw [List.size_toArray]; exact r.length.symm
  refine ⟨"tuple", _, PyProof.Rows.slot_tuple_getitem.lookup, ht.typeIs, ?_⟩
  exact HT.getItem_tuple_whole ht hs pl pu (by rw [hlen]; exact hw) ⟨.ref a, H, I, rfl, q⟩
end
end L2
namespace L2
open PySem PySem.Spec PyProof.Rows
section
variable {X : Cx}
end
end L2
namespace Mir
open PySem PySem.Spec L2
variable {X : Cx} {e : Expr} {pos p2 p3 p4 : Pos} {me : mE} {K : PySem.W.Frag}
def slD2 (x : D) (lo hi : Option Int) (M : Mem) : Option (D × Mem) := match x with
  | .str z => if z.length ≤ sizeLine then some (.str (cutS z lo hi), M) else none
  | .tup xs => some (.tup (cutD xs lo hi), M)
  | x => match asList M x with
    | some xs => some (.obj M.length, M ++ [.lst (cutD xs lo hi)])
    | none => none
theorem cut_whole {xs : List D} {lo hi : Option Int} (h : HT.sIx xs.length 0 lo = 0 ∧ HT.sIx xs.length xs.length hi = xs.length) : cutD xs lo hi = xs := by
  unfold cutD
  rw [h.1, h.2]; simp
def mSl2 (me : mE) (ml mh : mO) : mE := fun δ M => (me δ M).bind fun r => (ml δ r.2).bind fun q => (mh δ q.2).bind fun z => slD2 r.1 q.1 z.1 z.2
theorem me_slice2 {lo hi : Option Expr} {ml mh : mO} (he : PE X e (tM X.K me)) (hl : PO X lo (tMO X.K ml)) (hh : PO X hi (tMO X.K mh)) : PE X (.Subscript e (.Slice lo hi none p2) pos) (tM X.K (mSl2 me ml mh)) :=
  PE.imp (pe_slice (SlR.or sl_any sl_tup2) he hl hh) fun σ H Q ⟨ι, δ, M, d, M', hs, hm, he, k⟩ => by
    unfold mSl2 at he
    cases e1 : me δ M with
    | none => rw [e1] at he; cases he
    | some r =>
      rw [e1] at he
      cases e2 : ml δ r.2 with
      | none => simp only [e2, Option.bind_some, Option.bind_none] at he; cases he
      | some q =>
        cases e3 : mh δ q.2 with
        | none => simp only [e2, e3, Option.bind_some, Option.bind_none] at he; cases he
        | some z =>
          simp only [e2, e3, Option.bind_some] at he
          refine ⟨ι, δ, M, r.1, r.2, hs, hm, e1, fun ι1 H1 v l1 m1 r1 => ⟨ι1, δ, r.2, q.1, q.2, hs.mono l1, m1, e2, fun ι2 H2 l2 m2 => ⟨ι2, δ, q.2, z.1, z.2, hs.mono (l1.trans l2), m2, e3, fun ι3 H3 l3 m3 => ?_⟩⟩⟩
          have r1 := r1.mono (l2.trans l3).lo
          have l13 := (l1.trans l2).trans l3
          have k : Got X.K ι3 H3 M' d Q := fun ι4 H4 v l4 m4 r4 => k ι4 H4 v (l13.trans l4) m4 r4
          unfold slD2 at he
          split at he
          · rename_i y ey; split at he
            · rename_i hz; cases he
              rw [ey] at r1
              cases r1
              exact .inl (.inr (.inr ⟨y, rfl, hz, k ι3 H3 _ .refl m3 (.str _)⟩))
            · cases he
          · rename_i xs ey; cases he
            rw [ey] at r1
            cases r1 with
            | @tup p _ vs h1 r2 =>
              have hlen := r2.length
              by_cases hz : HT.sIx xs.length 0 q.1 = 0 ∧ HT.sIx xs.length xs.length z.1 = xs.length
              · refine .inr ⟨_, _, rfl, h1, by rw [← hlen]; exact hz, ?_⟩
                rw [cut_whole hz] at k
                exact k ι3 H3 _ .refl m3 (.tup h1 r2)
              · exact .inl (.inr (.inl ⟨_, _, rfl, h1, by rw [← hlen]; exact hz, got_tup m3 (cut_rel r2 _ _) k⟩))
          · split at he
            · rename_i xs ex; cases he
              obtain ⟨p, vs, rfl, h1, r2⟩ := asList_rel m3 ex r1
              exact .inl (.inl ⟨p, vs, rfl, h1, got_lst m3 (cut_rel r2 _ _) k⟩)
            · cases he
/-- xs[::-1] -/
def revD (x : D) (M : Mem) : Option (D × Mem) := match x with
  | .tup xs => some (.tup xs.reverse, M)
  | x => match asList M x with
    | some xs => some (.obj M.length, M ++ [.lst xs.reverse])
    | none => none
def mRev (me : mE) : mE := fun δ M => (me δ M).bind fun r => revD r.1 r.2
theorem me_rev (he : PE X e (tM X.K me)) : PE X (.Subscript e (.Slice none none (some (.UnaryOp .USub (.Constant (.int 1) 0 p4) p3)) p2) pos) (tM X.K (mRev me)) :=
  PE.imp (pe_rev he) fun σ H Q ⟨ι, δ, M, d, M', hs, hm, he, k⟩ => by
    unfold mRev at he
    cases e1 : me δ M with
    | none => rw [e1] at he; cases he
    | some r =>
      rw [e1] at he
      simp only [Option.bind_some] at he
      refine ⟨ι, δ, M, r.1, r.2, hs, hm, e1, fun ι1 H1 v l1 m1 r1 => ?_⟩
      have k : Got X.K ι1 H1 M' d Q := fun ι4 H4 v l4 m4 r4 => k ι4 H4 v (l1.trans l4) m4 r4
      unfold revD at he
      split at he
      · rename_i xs ey; cases he
        rw [ey] at r1
        cases r1 with
        | @tup p _ vs h1 r2 => exact .inr ⟨_, _, rfl, h1, got_tup m1 r2.reverse k⟩
      · split at he
        · rename_i xs ex; cases he
          obtain ⟨p, vs, rfl, h1, r2⟩ := asList_rel m1 ex r1
          exact .inl ⟨p, vs, rfl, h1, got_lst m1 r2.reverse k⟩
        · cases he
/-- is, is not, between truths -/
def isBD (neg : Bool) (x y : D) (M : Mem) : Option (D × Mem) := match x, y with
  | .bl a, .bl b => some (.bl (if neg = true then !(a == b) else a == b), M)
  | _, _ => none
section
variable {a b : Expr} {ma mb : mE}
end
end Mir

/-! ### k in D, k not in D, D a dict of texts of the module -/
namespace L2
open PySem PySem.Spec
section
variable {X : Cx}
theorem tab_some : ∀ {tab : List (Str × Str)} {vs : List (Key × Value)} {k : Str}, vs.map (·.1) = tab.map (fun kv => (Sum.inr kv.1 : Key)) → (valueAt vs (Sum.inr k)).isSome = (tab.lookup k).isSome
  | [], [], k, _ => rfl
  | [], _ :: _, _, h => by cases h
  | _ :: _, [], _, h => by cases h
  | kv :: r, v :: vs, k, h => by
    simp only [List.map_cons, List.cons.injEq] at h
    obtain ⟨h1, h2⟩ := h
    have ih := tab_some (k := k) h2
    unfold valueAt at ih ⊢
    rw [List.find?_cons, List.lookup_cons, h1]
    by_cases ek : k = kv.1
    · subst ek; simp
    · have e1 : (k == kv.1) = false := by simpa using ek
      have e2 : decide ((Sum.inr kv.1 : Key) = Sum.inr k) = false := decide_eq_false (fun z => by cases z; exact ek rfl)
      rw [e1]
      simp only [e2]
      exact ih
theorem GDict.has {x : Str} {tab : List (Str × Str)} (g : GDict X.K X.w X.mg x tab) : ∃ a, X.mg x = some (.ref a) ∧ ∀ (pins : List (Addr × Obj)) (σ : St) (H : Hp) (s : Shared), Inv X pins σ H s →
    ∃ vs : List (Key × Value), s.heap.DictOf (mixKind X.prog X.w) a vs ∧ ∀ k, (valueAt vs (Sum.inr k)).isSome = (tab.lookup k).isSome := by
  obtain ⟨a, o, es, ep, h1, h2, h3, h4, h5, h6⟩ := g.ex
  refine ⟨a, h1, fun pins σ H s I => ?_⟩
  obtain ⟨vs, e1, e2, e3, e4⟩ := tab_dict (P := X.prog) h5
  refine ⟨vs, ⟨o, es, ep, I.kIn a o h2, h3, h4, fun e he => e3 e (by simpa using he), e2, ?_⟩, fun k => tab_some e1⟩
  rw [e1]
  have := nodup_inr h6
  rw [List.map_map] at this
  exact this
end
end L2
namespace Mir
open PySem PySem.Spec L2
variable {X : Cx} {a : Expr} {pos : Pos} {ma : mE}
end Mir

namespace Mir
open PySem PySem.Spec L2
variable {K : PySem.W.Frag}
section
variable {X : Cx} {a b : Expr} {pos : Pos} {ma mb : mE}
end
end Mir

set_option Elab.async false
set_option linter.all false
set_option maxRecDepth 100000
set_option maxHeartbeats 4000000
namespace HT
open PySem PySem.Spec PyProof.Rows
section
variable {prog : Program} {w : World} {A : Around} {E : Value → Shared → Prop} {s : Shared}
end
end HT
namespace L2
open PySem PySem.Spec PyProof.Rows
variable {X : Cx}
end L2
namespace Mir
open PySem L2
variable {X : Cx} {K : PySem.W.Frag}
variable {a b : Expr} {ma mb : mE} {pos : Pos}
end Mir

set_option Elab.async false
set_option linter.all false
set_option maxRecDepth 100000
set_option maxHeartbeats 4000000
/-! tuple(range(n)) -/
namespace L2
open PySem PySem.Spec PyProof.Rows
section
variable {prog : Program} {w : World} {A : Around} {E : Value → Shared → Prop} {s : Shared}
end
section
variable {prog : Program} {w : World} {A : Around} {E : Value → Shared → Prop} {s : Shared}
end
section
variable {X : Cx} {e : Expr} {ta : TA} {p p2 pos pos2 : Pos}
end
end L2
namespace Mir
open PySem PySem.Spec L2
variable {X : Cx} {e : Expr} {pos : Pos} {mr : mA}
/-! a, b = c, d with plain local names -/
end Mir

set_option Elab.async false
set_option linter.all false
set_option maxRecDepth 100000
set_option maxHeartbeats 4000000
/-! str of a whole number -/
namespace Mir
open PySem PySem.Spec L2
variable {K : PySem.W.Frag}
end Mir

set_option Elab.async false
set_option linter.all false
set_option maxRecDepth 100000
set_option maxHeartbeats 4000000
namespace Mir
open PySem PySem.Spec L2
section
variable {X : Cx} {e : Expr} {es : List Expr} {pos : Pos} {mr : mA} {st : Stmt}
/-! what is never run -/
def mNo : mE := fun _ _ => none
theorem me_no : PE X e (tM X.K mNo) := by
  intro pins s σ H Q I h
  obtain ⟨ι, δ, M, d, M', hs, hm, he, k⟩ := h
  cases he
end
section
variable {P : Program} {w : World} {K : PySem.W.Frag} {mg : Str → Option Value} {base : Heap}
/-! a def whose last parameter is None where it isn't given -/
structure FunD (K : PySem.W.Frag) (x qual : Str) (st : Stmt) (f : Addr) (fd : FuncData) : Prop where
  ex : ∃ (oc : Value) (od : Option Addr) (dV kV doc pm : Value) (an : Option Addr) (cdv ct : Value) (osl : Array (Option Value)),
    fd = PySem.W.fnOf x qual (defArgs st) (defBody st) (defScope st) dV kV doc pm an cdv ct ∧ K.lookup f = some ⟨oc, od, .func fd, osl⟩ ∧ PySem.W.codeIn K cdv qual = true
  kp : PySem.W.keepIn K (.ref f) = true
/-- a def as its callers see it, with the last parameter or without -/
structure DefD (P : Program) (w : World) (K : PySem.W.Frag) (mg : Str → Option Value) (base : Heap) (x : Str) (k : Nat) (ps : List Str) (f : List D → Mem → Option (D × Mem)) : Prop where
  ex : ∃ (a : Addr) (fd : FuncData), FnOk P w K mg base CX0 k a fd ps (spM K ps.length f) ∧ mg x = some (.ref a) ∧ PySem.W.keepIn K (.ref a) = true ∧ Binds K fd ps [] ∧ Binds K fd ps [.none]
theorem DefD.def {x : Str} {k : Nat} {ps : List Str} {f : List D → Mem → Option (D × Mem)} (h : DefD P w K mg base x k ps f) : Def P w K mg base x k ps f := by
  obtain ⟨a, fd, h1, h2, h3, h4, _⟩ := h.ex
  exact ⟨⟨a, fd, h1, h2, h3, h4⟩⟩
end
section
variable {X : Cx} {e : Expr} {es : List Expr} {pos : Pos} {mr : mA}
end
section
variable {P : Program} {w : World} {K : PySem.W.Frag} {mg : Str → Option Value} {base : Heap}
/-- as the top has made it -/
structure FFD (K : PySem.W.Frag) (mg : Str → Option Value) (x : Str) (sf : Stmt) (ps : List Str) (a : Addr) (fd : FuncData) : Prop where
  fn : FunD K x x sf a fd
  mg : mg x = some (.ref a)
  bi : Binds K fd ps []
  bn : Binds K fd ps [.none]
end
/-! a tuple of whole numbers and texts in a dict that is empty -/
section
variable {X : Cx} {a b : Expr} {pos : Pos} {ma mb : mE} {K : PySem.W.Frag}
end
end Mir

set_option Elab.async false
set_option linter.all false
set_option maxRecDepth 100000
set_option maxHeartbeats 4000000
namespace Mir
open PySem PySem.Spec L2
/-! ### dicts whose keys are tuples of whole numbers and texts -/
section
variable {X : Cx} {a b o e f : Expr} {es : List Expr} {pos : Pos} {ma mb mo mv : mE} {mr : mA} {K : PySem.W.Frag} {st : Stmt}
end
end Mir

set_option Elab.async false
set_option linter.all false
set_option maxRecDepth 100000
set_option maxHeartbeats 4000000
/-! sorted of triples of whole numbers -/
namespace Mir
open PySem PySem.Spec L2
variable {X : Cx} {K : PySem.W.Frag}
end Mir

set_option Elab.async false
set_option linter.all false
set_option maxRecDepth 100000
set_option maxHeartbeats 4000000
namespace HT
open PySem PySem.Spec PyProof.Rows
section
end
end HT
namespace L2
open PySem PySem.Spec PyProof.Rows
variable {X : Cx}
end L2
namespace Mir
open PySem L2
variable {X : Cx} {K : PySem.W.Frag}
variable {a b : Expr} {ma mb : mE} {pos : Pos}
end Mir

set_option Elab.async false
set_option linter.all false
set_option maxRecDepth 100000
set_option maxHeartbeats 4000000
namespace Mir
open PySem PySem.Spec L2
variable {X : Cx} {st : Stmt} {mp mo1 mi1 mo2 mi2 : mE}
/-! o[i], p[j] = v, w -/
end Mir

set_option Elab.async false
set_option linter.all false
set_option maxRecDepth 100000
set_option maxHeartbeats 4000000
/-! max(xs, default=d) of a tuple, too -/
namespace L2
open PySem PySem.Spec PyProof.Rows
section
variable {prog : Program} {w : World} {A : Around} {E : Value → Shared → Prop} {s : Shared} {l : Addr} {xs : Array (Int × Tok)}
end
section
variable {prog : Program} {w : World} {A : Around} {E : Value → Shared → Prop} {s : Shared}
end
section
variable {X : Cx} {e ev : Expr} {te tv : TE} {p pos kp : Pos}
end
end L2
namespace Mir
open PySem PySem.Spec L2
variable {X : Cx} {a b c e e2 ev o tg : Expr} {es rest : List Expr} {pos : Pos} {ma mb mc me mo mv : mE} {K : PySem.W.Frag} {ta tb : mT} {mr : mA} {st : Stmt} {sts : List Stmt} {m1 m2 : mS}
end Mir

set_option Elab.async false
set_option linter.all false
set_option maxRecDepth 100000
set_option maxHeartbeats 4000000
/-! range with a step -/
namespace Mir
open PySem PySem.Spec L2
variable {X : Cx} {tg a b c : Expr} {K : PySem.W.Frag} {mr : mA}
end Mir

set_option Elab.async false
set_option linter.all false
set_option maxRecDepth 100000
set_option maxHeartbeats 4000000
/-! dict comprehensions whose keys are tuples -/
namespace L2
open PySem PySem.Spec PyProof.Rows
section
variable {X : Cx} {pins : List (Addr × Obj)} {σ : St} {H : Hp} {s : Shared}
end
section
variable {X : Cx}
end
end L2

namespace Mir
open PySem PySem.Spec L2
variable {X : Cx}
end Mir

/-! (..) in d, the dict's keys tuples -/
namespace Mir
open PySem PySem.Spec L2
section
variable {X : Cx} {a b : Expr} {pos : Pos} {ma mb : mE} {K : PySem.W.Frag}
end
end Mir

set_option Elab.async false
set_option linter.all false
set_option maxRecDepth 100000
set_option maxHeartbeats 4000000
/-! x < y, the two whole numbers, texts, or tuples of whole numbers -/
namespace Mir
open PySem PySem.Spec L2
variable {X : Cx} {a b : Expr} {pos : Pos} {ma mb : mE} {K : PySem.W.Frag}
/-! not x as a value, x of any kind -/
end Mir

set_option Elab.async false
set_option linter.all false
set_option maxRecDepth 100000
set_option maxHeartbeats 4000000
/-! sorted of four whole numbers each: of whole numbers -/
namespace Mir
open PySem PySem.Spec L2
variable {X : Cx} {K : PySem.W.Frag}
end Mir

set_option Elab.async false
set_option linter.all false
set_option maxRecDepth 100000
set_option maxHeartbeats 4000000
/-! dict comprehensions whose keys are whole numbers or texts -/
namespace L2
open PySem PySem.Spec PyProof.Rows
section
variable {X : Cx} {pins : List (Addr × Obj)} {σ : St} {H : Hp} {s : Shared}
end
section
variable {X : Cx}
end
end L2

namespace Mir
open PySem PySem.Spec L2
variable {X : Cx}
end Mir

set_option Elab.async false
set_option linter.all false
set_option maxRecDepth 100000
set_option maxHeartbeats 4000000
/-! list.count of flat items; str.upper -/
namespace L2
open PySem PySem.Spec PyProof.Rows
section
variable {X : Cx}
end
end L2
namespace Mir
open PySem PySem.Spec L2
section
variable {X : Cx} {K : PySem.W.Frag} {o : Expr} {mo : mE}
end
end Mir

set_option Elab.async false
set_option linter.all false
set_option maxRecDepth 100000
set_option maxHeartbeats 4000000
/-! xs == [], xs != [], t == (): told by the lengths, whatever lies in them -/
namespace L2
open PySem PySem.Spec PyProof.Rows
section
variable {X : Cx}
end
end L2
namespace Mir
open PySem PySem.Spec L2
section
variable {X : Cx} {K : PySem.W.Frag} {a b : Expr} {pos : Pos} {ma mb : mE}
end
end Mir

set_option Elab.async false
set_option linter.all false
set_option maxRecDepth 100000
set_option maxHeartbeats 4000000
/-! a sign that is not in a text -/
namespace Mir
open PySem PySem.Spec L2
variable {X : Cx} {K : PySem.W.Frag} {a b : Expr} {pos : Pos} {ma mb : mE}
end Mir

set_option Elab.async false
set_option linter.all false
set_option maxRecDepth 100000
set_option maxHeartbeats 4000000
/-! dicts with tuple keys: walked (locked meanwhile), d[i, j, k], and stores whose key is a variable that holds a tuple -/
namespace L2
open PySem PySem.Spec PyProof.Rows Mir
variable {X : Cx}
end L2
namespace Mir
open PySem PySem.Spec L2
variable {X : Cx} {a b e tg : Expr} {es : List Expr} {pos p : Pos} {ma mb me mo mk mv : mE} {mr : mA} {K : PySem.W.Frag} {st : Stmt}
/-! ### a dict that is walked: locked meanwhile -/
/-! ### a store whose key is a variable that holds a tuple: in a def whose parameter it is -/
/-- the i-th parameter is a tuple of the heap -/
def spK (K : PySem.W.Frag) (n i : Nat) (f : List D → Mem → Option (D × Mem)) : Sp := fun vs H Q _ => ∃ ι ds M d M' b ws kd, ds.length = n ∧ RelDs K ι H ds vs ∧ RelM K ι H M ∧ f ds M = some (d, M') ∧ Got K ι H M' d Q ∧
  vs[i]? = some (.ref b) ∧ H b = some (.tup ws) ∧ b ∉ ι ∧ ds[i]? = some (.tup kd) ∧ RelDs K ι H kd ws
section
variable {P : Program} {w : World} {mg : Str → Option Value} {base : Heap}
end
structure DefK (P : Program) (w : World) (K : PySem.W.Frag) (mg : Str → Option Value) (base : Heap) (x : Str) (k : Nat) (ps : List Str) (f : List D → Mem → Option (D × Mem)) : Prop where
  ex : ∃ (a : Addr) (fd : FuncData), FnOk P w K mg base CX0 k a fd ps (spK K 3 1 f) ∧ mg x = some (.ref a) ∧ PySem.W.keepIn K (.ref a) = true ∧ Binds K fd ps []
end Mir

set_option Elab.async false
set_option linter.all false
set_option maxRecDepth 100000
set_option maxHeartbeats 4000000
/-! key = (..); d[key] = e, one behind the other -/
namespace Mir
open PySem PySem.Spec L2
variable {X : Cx} {mo mv : mE} {mr : mA} {K : PySem.W.Frag} {st1 st2 : Stmt}
end Mir

set_option Elab.async false
set_option linter.all false
set_option maxRecDepth 100000
set_option maxHeartbeats 4000000
/-! name = {k: v for ..} on one line, the name a local -/
namespace L2
open PySem PySem.Spec PyProof.Rows
variable {X : Cx}
end L2
namespace Mir
open PySem PySem.Spec L2
variable {X : Cx}
end Mir

set_option Elab.async false
set_option linter.all false
set_option maxRecDepth 100000
set_option maxHeartbeats 4000000
namespace Mir
open PySem PySem.Spec L2
/-- a def of the module that is told loosely (it has a default): its code with its table -/
structure LooseTab (K : PySem.W.Frag) (h : Heap) (x : Str) : Prop where
  mk :: (ex : ∃ a o fd c P oc vs file tf flags tg inF text tt, PySem.W.nsIn K mainGlobals x = some (some (.ref a)) ∧ K.lookup a = some o ∧ o.data = .func fd ∧ fd.code = .ref c ∧ K.lookup c = some oc ∧ oc.cls = .type "code" ∧ oc.data = .fields vs ∧ vs[11]? = some (.ref P) ∧
    vs.getD 11 .none = .ref P ∧ vs.getD 18 .none = .str file tf ∧ vs.getD 7 .none = .int flags tg ∧ vs.getD 9 .none = .bool inF ∧ vs.getD 10 .none = .int text tt ∧ h.get? P = some ⟨.none, none, .fields #[], #[]⟩)
end Mir

set_option Elab.async false
set_option linter.all false
set_option maxRecDepth 100000
set_option maxHeartbeats 4000000
/-! list(zip(xs, ys)), tuple(zip(xs, ys)) of two lists of whole numbers, alike long -/
namespace L2
open PySem PySem.Spec PyProof.Rows
/-- a zip whose tuple has been handed out -/
abbrev IsZipB (h : Heap) (z TI TO q : Addr) (b : Bool) : Prop :=
  h.get? z = some { cls := .type "zip", dict := none, data := .fields #[rawInt q, .bool b, .bool false, .ref TI, .ref TO], slots := #[] }
section
variable {prog : Program} {w : World} {A : Around} {E : Value → Shared → Prop} {s : Shared} {z TI TO i1 i2 q : Addr} {f1 f2 : List Addr} {n1 n2 k : Nat} {P1 P2 : Nat → Value → Prop} {S1 S2 : Nat → Heap → Prop} {bb : Bool}
end
section
variable {prog : Program} {w : World} {A : Around} {s : Shared} {z TI TO i1 i2 S base : Addr} {f1 f2 : List Addr} {n : Nat} {P1 P2 : Nat → Value → Prop} {S1 S2 : Nat → Heap → Prop}
structure ZSt (z TI TO i1 i2 base : Addr) (S1 S2 : Nat → Heap → Prop) (i : Nat) (h : Heap) : Prop where
  ti : IsPair h TI (.ref i1) (.ref i2)
  s1 : S1 i h
  s2 : S2 i h
  big : base ≤ h.objs.size
  way : (i = 0 ∧ IsZip h z TI TO .none ∧ ∃ a b, IsPair h TO a b) ∨ ∃ q bb oq, base ≤ q ∧ h.get? q = some oq ∧ IsZipB h z TI TO q bb
structure ZMade (base : Addr) (P1 P2 : Nat → Value → Prop) (i : Nat) (acc : Array Value) (h : Heap) : Prop where
  size : acc.size = i
  at' : ∀ j v, acc[j]? = some v → ∃ q x y, v = .ref q ∧ base ≤ q ∧ P1 j x ∧ P2 j y ∧ IsPair h q x y
structure ZApart (z TI TO i1 i2 S base : Addr) (f1 f2 : List Addr) : Prop where
  zip : ZipA z TI TO i1 i2 f1 f2
  Sz : S ≠ z
  STI : S ≠ TI
  STO : S ≠ TO
  Si1 : S ≠ i1
  Si2 : S ≠ i2
  Sf1 : S ∉ f1
  Sf2 : S ∉ f2
  zb : z < base
  TOb : TO < base
  i1b : i1 < base
  i2b : i2 < base
  Sb : S < base
end
section
variable {prog : Program} {w : World} {A : Around} {s : Shared} {z TI TO i1 i2 S base : Addr} {f1 f2 : List Addr} {n : Nat} {P1 P2 : Nat → Value → Prop} {S1 S2 : Nat → Heap → Prop}
theorem ZSt.start (hTI : IsPair s.heap TI (.ref i1) (.ref i2)) {h : Heap} (st : ZSt z TI TO i1 i2 base S1 S2 0 s.heap) (hz : IsZip s.heap z TI TO .none) : True := trivial
end
section
variable {prog : Program} {w : World} {A : Around} {E : Value → Shared → Prop} {s : Shared}
end
end L2
namespace Mir
open PySem PySem.Spec L2
variable {X : Cx} {e e2 : Expr} {ta : TA} {p p2 pos pos2 : Pos} {mr : mA} {pins : List (Addr × Obj)} {σ : St} {H1 : Hp} {s1 : Shared}
end Mir

set_option Elab.async false
set_option linter.all false
set_option maxRecDepth 100000
set_option maxHeartbeats 4000000
/-! xs += ys of lists; n += m; str of a text; whole numbers of the module -/
namespace L2
open PySem PySem.Spec PyProof.Rows
theorem iadd_fills : fillsInplaceSlot (.type "list") "add" (Operator.Add == .Add) = pure false := by
  unfold fillsInplaceSlot
  show (typeLookup (.type "list") (dunderI "add") >>= fun fi => pure (fi.isSome && !isSeqSlot fi)) = pure false
  rw [F.slot_list_iadd.lookup]; rfl
theorem iadd_slot : seqSlot? (.type "list") (dunderI "add") = pure (some (.builtin "list.__iadd__")) := by
  unfold seqSlot?
  rw [F.slot_list_iadd.lookup]; rfl
section
variable {X : Cx} {pos : Pos}
def ipL : TIp := fun x y H Q => ∃ l b xs zs, x = .ref l ∧ y = .ref b ∧ H l = some (.lst xs) ∧ H b = some (.lst zs) ∧ xs.length + zs.length ≤ sizeLine ∧ Q (.ref l) (upd H l (.lst (xs ++ zs)))
theorem ip_addL : PIp X .Add ipL := by
  intro pins s σ H x y v u Q I r1 r2 h
  obtain ⟨l, b, xs, zs, rfl, rfl, hH, hB, hz, q⟩ := h
  cases r1; cases r2
  obtain ⟨z, its, n, r, hl, e⟩ := I.lstM hH
  obtain ⟨z2, its2, n2, r2, hl2, e2⟩ := I.lstM hB
  have hsz : its.toArray.size + its2.toArray.size ≤ sizeLine := by rw [List.size_toArray, List.size_toArray]; omega
  have hlong : ¬ (!its.toArray.isEmpty && Builtin.List.listTooLong (its.toArray.size + its2.toArray.size)) = true := by
    rw [notLongL hsz, Bool.and_false]
    exact Bool.false_ne_true
  have ta : s.TypeIs (.ref l) "list" := ⟨_, e, rfl⟩
  have tb : s.TypeIs (.ref b) "list" := ⟨_, e2, rfl⟩
  unfold inplaceOp
  refine wpAny_holding ?_
  refine wpAny_bind (wpAny_typeOf ta (wpAny_bind (wpAny_of_eq iadd_fills ?_)))
  show wpAny _ _ (if false = true then _ else _) _ _ s
  rw [if_neg Bool.false_ne_true]
  refine wpAny_bind (wpAny_binaryOp1_none (nm := "add") ta tb noFill_list_add ?_)
  refine wpAny_bind (wpAny_of_eq iadd_slot ?_)
  refine wpAny_bind (wpAny_rule ?_)
  refine call_meets F.slot_list_iadd ⟨_, e, rfl⟩ F.entry_list_iadd (F.args_list_iadd_2 _ _)
    (AutoSeq1.list___iadd___list_list_0 l its.toArray n b its2.toArray n2 hlong (by rw [List.size_toArray]; omega) (by omega)) ⟨e, e2, ?_⟩
  refine ⟨.ref l, _, I.lset (its' := its ++ its2) hH e (by simp) (r.append r2) ?_, rfl, q⟩
  rw [List.length_append]
  omega
end
end L2
namespace L2
open PySem PySem.Spec PyProof.Rows
theorem call_str_any {X : Cx} : CallR X (.type "str") (fun xs H Q => (∃ i, xs = [.int i] ∧ i.natAbs.log2 < 1920 ∧ Q (.str (toString i)) H) ∨ ∃ x, xs = [.str x] ∧ Q (.str x) H) := CallR.or call_str_int (by
  intro pins s σ H xs us Q I r h
  obtain ⟨x, rfl, q⟩ := h
  obtain ⟨u, rfl, t, rfl⟩ := vals1 r
  exact PySem.P.str_of_str ⟨.str _, H, I, ⟨_, rfl⟩, q⟩)
end L2
namespace Mir
open PySem PySem.Spec L2
variable {X : Cx} {K : PySem.W.Frag} {e : Expr} {me : mE} {pos pos' : Pos} {op : Operator}
def fStrA : List D → Mem → Option (D × Mem)
  | [.int i], M => if i.natAbs.log2 < 1920 then some (.str (toString i), M) else none
  | [.str x], M => some (.str x, M)
  | _, _ => none
theorem strA_m : CallM K (fun xs H Q => (∃ i, xs = [.int i] ∧ i.natAbs.log2 < 1920 ∧ Q (.str (toString i)) H) ∨ ∃ x, xs = [.str x] ∧ Q (.str x) H) fStrA := by
  intro ι H M ds vs d M' Q hm r hf k
  unfold fStrA at hf
  split at hf
  · split at hf
    · rename_i h
      cases hf
      cases r with
      | cons ra rt =>
        cases rt
        cases ra
        exact .inl ⟨_, rfl, h, k ι H _ .refl hm (.str _)⟩
    · cases hf
  · cases hf
    cases r with
    | cons ra rt =>
      cases rt
      cases ra
      exact .inr ⟨_, rfl, k ι H _ .refl hm (.str _)⟩
  · cases hf
/-- a whole number of the module -/
theorem glob_int {h : Heap} {mg : Str → Option Value} {x : Str} {i : Int} {t : Tok} (X : K.In h) (G : h.Ns mainGlobals mg) (hn : PySem.W.nsIn K mainGlobals x = some (some (.int i t))) : Glob K mg x (.int i) :=
  ⟨.int i, .int i t, PySem.W.mg_of X G hn, ⟨t, rfl⟩, fun ι H => .int i⟩
end Mir
namespace Mir
open PySem PySem.Spec L2
variable {X : Cx} {K : PySem.W.Frag} {e : Expr} {me : mE} {pos pos' : Pos}
/-- x += e, of two whole numbers or two lists -/
def augI (x y : D) (M : Mem) : Option (D × Mem) := match x, y with
  | .int i, .int j => some (.int (i + j), M)
  | .obj a, y => (asLst M (.obj a)).bind fun p => (asLst M y).bind fun q => if p.2.length + q.2.length ≤ sizeLine then some (.obj a, M.set p.1 (.lst (p.2 ++ q.2))) else none
  | _, _ => none
def mAug (i : Nat) (me : mE) : mS := fun δ M => (δ[i]?.join).bind fun x => (me δ M).bind fun y => (augI x y.1 y.2).map fun z => (.nx (δ.set i (some z.1)), z.2)
theorem ip_or {op : Operator} {t1 t2 : TIp} (h1 : PIp X op t1) (h2 : PIp X op t2) : PIp X op fun x y H Q => t1 x y H Q ∨ t2 x y H Q := fun pins s σ H x y v u Q I r1 r2 h =>
  h.elim (h1 pins s σ H x y v u Q I r1 r2) (h2 pins s σ H x y v u Q I r1 r2)
theorem ms_aug {i : Nat} {st : Stmt} (h : PS X st (tAug i (tM X.K me) fun x y H Q => ipI (fun i j => i + j) x y H Q ∨ ipL x y H Q)) : PS X st (tMS X.K (mAug i me)) := PS.imp h fun E σ H ⟨ι, δ, M, f, M', hs, hm, he, k⟩ => by
  unfold mAug at he
  cases e0 : δ[i]? with
  | none => rw [e0] at he; cases he
  | some ox =>
    cases ox with
    | none => rw [e0] at he; cases he
    | some x =>
      rw [e0] at he
      simp only [Option.join_some, Option.bind_some] at he
      cases e1 : me δ M with
      | none => rw [e1] at he; cases he
      | some y =>
        obtain ⟨y, M1⟩ := y
        rw [e1] at he
        simp only [Option.bind_some] at he
        cases e2 : augI x y M1 with
        | none => rw [e2] at he; cases he
        | some z =>
          obtain ⟨z, M2⟩ := z
          rw [e2] at he
          cases he
          obtain ⟨vx, hx, rx⟩ := hs.2 i x e0
          refine ⟨vx, hx, ι, δ, M, y, M1, hs, hm, e1, fun ι1 H1 vy l1 m1 ry => ?_⟩
          have rx1 := rx.mono l1.lo
          unfold augI at e2
          split at e2
          · cases e2
            cases rx1; cases ry
            exact .inl ⟨_, _, rfl, rfl, k ι1 H1 l1 m1 _ ((hs.mono l1.lo).set (.int _) i)⟩
          · rename_i a
            cases ea : asLst M1 (.obj a) with
            | none => rw [ea] at e2; cases e2
            | some p =>
              obtain ⟨ia, xs⟩ := p
              rw [ea] at e2
              simp only [Option.bind_some] at e2
              cases eb : asLst M1 y with
              | none => rw [eb] at e2; cases e2
              | some q =>
                obtain ⟨ib, zs⟩ := q
                rw [eb] at e2
                simp only [Option.bind_some] at e2
                split at e2
                · rename_i hl
                  cases e2
                  obtain ⟨_, _, p1, ws, rfl, hi, hp, r1⟩ := asLst_rel m1 ea rx1
                  obtain ⟨_, _, p2, us, rfl, hj, hp2, r2⟩ := asLst_rel m1 eb ry
                  exact .inr ⟨p1, p2, ws, us, rfl, rfl, hp, hp2, by rw [← r1.length, ← r2.length]; exact hl, got_set (Q := fun v H => E.nx (σ.set i (some v)) H) (xs := xs) m1 hi hp (r1.append r2) rx1 fun ι2 H2 v l2 m2 r3 => k ι2 H2 (l1.trans l2) m2 _ ((hs.mono (l1.trans l2).lo).set r3 i)⟩
                · cases e2
          · cases e2
end Mir
namespace Mir
open PySem PySem.Spec L2
variable {X : Cx} {K : PySem.W.Frag}
/-- for a, (b, c) in .. -/
def gNest (i : Nat) (js : List Nat) : mG := fun d δ => match d with
  | .tup [x, .tup ys] => if ys.length = js.length then some (setAll (δ.set i (some x)) js ys) else none
  | _ => none
theorem mg_nest {tg : Expr} {i : Nat} {js : List Nat} (h : PG X tg (gTup X.K 2 (gCons (gName i) (gCons (gTup X.K js.length (gNames js)) gNil)))) {vs : List Nat} (hi : i ∈ vs) (hj : ∀ j ∈ js, j ∈ vs) : PG X tg (tMG X.K (gNest i js) vs) := PG.imp h fun v σ H Q ⟨ι, δ, d, δ', hs, r, e, k⟩ => by
  unfold gNest at e
  split at e
  · rename_i x ys
    split at e
    · rename_i hl; cases e
      cases r with
      | tup h1 r1 =>
        cases r1 with
        | cons rx rt =>
          cases rt with
          | cons ry rt =>
            cases rt
            cases ry with
            | tup h2 r2 =>
              have hl' := r2.length.symm.trans hl
              refine ⟨_, _, rfl, h1, rfl, _, _, rfl, ?_⟩
              refine ⟨_, _, rfl, _, _, rfl, h2, hl', ?_⟩
              refine gNames_of hl' ⟨rfl, k _ (setAll_rel (hs.set rx i) r2) ?_⟩
              rw [wipe_setAll hj, wipe_set hi]
    · cases e
  · cases e
end Mir

set_option Elab.async false
set_option linter.all false
set_option maxRecDepth 100000
set_option maxHeartbeats 4000000
/-! reckoning with mirrors: what they come to -/
namespace Mir
open PySem L2
def Ok {α : Type} (o : Option (α × Mem)) (Q : α → Mem → Prop) : Prop := ∃ a M', o = some (a, M') ∧ Q a M'
theorem Ok.imp {α : Type} {o : Option (α × Mem)} {Q Q' : α → Mem → Prop} (h : Ok o Q) (f : ∀ a M', Q a M' → Q' a M') : Ok o Q' := let ⟨a, M', e, q⟩ := h; ⟨a, M', e, f a M' q⟩
theorem ok_some {α : Type} {a : α} {M : Mem} {Q : α → Mem → Prop} : Ok (some (a, M)) Q ↔ Q a M := ⟨fun ⟨_, _, e, q⟩ => by cases e; exact q, fun q => ⟨a, M, rfl, q⟩⟩
theorem ok_none {α : Type} {Q : α → Mem → Prop} : Ok (none : Option (α × Mem)) Q ↔ False := ⟨fun ⟨_, _, e, _⟩ => (by cases e), fun h => h.elim⟩
theorem ok_bind {α β : Type} {o : Option (α × Mem)} {f : α × Mem → Option (β × Mem)} {Q : β → Mem → Prop} : Ok (o.bind f) Q ↔ Ok o fun a M => Ok (f (a, M)) Q := by
  constructor
  · rintro ⟨b, M', e, q⟩
    cases o with
    | none => cases e
    | some r => exact ⟨r.1, r.2, rfl, b, M', e, q⟩
  · rintro ⟨a, M1, rfl, b, M', e, q⟩
    exact ⟨b, M', e, q⟩
theorem ok_map {α β : Type} {o : Option (α × Mem)} {f : α × Mem → β × Mem} {Q : β → Mem → Prop} : Ok (o.map f) Q ↔ Ok o fun a M => Q (f (a, M)).1 (f (a, M)).2 := by
  constructor
  · rintro ⟨b, M', e, q⟩
    cases o with
    | none => cases e
    | some r =>
      have e : f r = (b, M') := by simpa using e
      exact ⟨r.1, r.2, rfl, by show Q (f r).1 (f r).2; rw [e]; exact q⟩
  · rintro ⟨a, M1, rfl, q⟩
    exact ⟨_, _, rfl, q⟩
/-! slots -/
def at_ (δ : DSt) (i : Nat) : Option D := match δ[i]? with
  | some (some d) => some d
  | _ => none
section
variable {δ : DSt} {M : Mem} {ma mb mc me mo mi mv : mE} {mr : mA} {ta tb : mT} {m1 m2 : mS}
variable {Q : D → Mem → Prop} {QT : Bool → Mem → Prop} {QA : List D → Mem → Prop} {QS : Fl → Mem → Prop}
theorem ok_C {d : D} : Ok (mC d δ M) Q ↔ Q d M := ok_some
theorem ok_bin {f : D → D → Mem → Option (D × Mem)} : Ok (mBin f ma mb δ M) Q ↔ Ok (ma δ M) fun x M1 => Ok (mb δ M1) fun y M2 => Ok (f x y M2) Q := by
  unfold mBin; rw [ok_bind]; simp only [ok_bind]
theorem ok_B {m : mE} : Ok (mB m δ M) QT ↔ Ok (m δ M) fun d M1 => ∃ b, d = .bl b ∧ QT b M1 := by
  unfold mB
  constructor
  · rintro ⟨b, M', e, q⟩
    split at e
    · rename_i e'; cases e; exact ⟨_, _, e', b, rfl, q⟩
    · cases e
  · rintro ⟨d, M1, e, b, rfl, q⟩
    rw [e]; exact ⟨b, M1, rfl, q⟩
theorem ok_Tru {m : mE} : Ok (mTru m δ M) QT ↔ Ok (m δ M) fun d M1 => ∃ b, truB M1 d = some b ∧ QT b M1 := by
  unfold mTru
  rw [ok_bind]
  constructor
  · intro h; refine h.imp fun d M1 h => ?_
    cases e : truB M1 d with
    | none => simp only [e, Option.map_none, ok_none] at h
    | some b => simp only [e, Option.map_some, ok_some] at h; exact ⟨b, rfl, h⟩
  · intro h; refine h.imp fun d M1 ⟨b, e, q⟩ => ?_
    simp only [e, Option.map_some, ok_some]; exact q
theorem ok_And : Ok (mAnd ta tb δ M) QT ↔ Ok (ta δ M) fun b M1 => if b = true then Ok (tb δ M1) QT else QT false M1 := by
  unfold mAnd; rw [ok_bind]
  constructor <;> (intro h; refine h.imp fun b M1 h => ?_; cases b <;> simpa [ok_some] using h)
theorem ok_Or : Ok (mOr ta tb δ M) QT ↔ Ok (ta δ M) fun b M1 => if b = true then QT true M1 else Ok (tb δ M1) QT := by
  unfold mOr; rw [ok_bind]
  constructor <;> (intro h; refine h.imp fun b M1 h => ?_; cases b <;> simpa [ok_some] using h)
theorem ok_Not : Ok (mNot ta δ M) QT ↔ Ok (ta δ M) fun b M1 => QT (!b) M1 := by unfold mNot; rw [ok_map]
theorem ok_Neg : Ok (mNeg ma δ M) Q ↔ Ok (ma δ M) fun d M1 => ∃ i, d = .int i ∧ Q (.int (-i)) M1 := by
  unfold mNeg
  constructor
  · rintro ⟨b, M', e, q⟩
    split at e
    · rename_i e'; cases e; exact ⟨_, _, e', _, rfl, q⟩
    · cases e
  · rintro ⟨d, M1, e, b, rfl, q⟩
    rw [e]; exact ⟨_, M1, rfl, q⟩
theorem ok_AndV : Ok (mAndV ma mb δ M) Q ↔ Ok (ma δ M) fun d M1 => ∃ b, d = .bl b ∧ if b = true then Ok (mb δ M1) Q else Q (.bl false) M1 := by
  unfold mAndV
  constructor
  · rintro ⟨b, M', e, q⟩
    split at e
    · rename_i e'; exact ⟨_, _, e', true, rfl, by simp only [if_true]; exact ⟨b, M', e, q⟩⟩
    · rename_i e'; cases e; exact ⟨_, _, e', false, rfl, by simpa using q⟩
    · cases e
  · rintro ⟨d, M1, e, b, rfl, q⟩
    rw [e]
    cases b with
    | true => simpa using q
    | false => exact ⟨_, _, rfl, by simpa using q⟩
theorem ok_OrV : Ok (mOrV ma mb δ M) Q ↔ Ok (ma δ M) fun d M1 => ∃ b, d = .bl b ∧ if b = true then Q (.bl true) M1 else Ok (mb δ M1) Q := by
  unfold mOrV
  constructor
  · rintro ⟨b, M', e, q⟩
    split at e
    · rename_i e'; cases e; exact ⟨_, _, e', true, rfl, by simpa using q⟩
    · rename_i e'; exact ⟨_, _, e', false, rfl, by simp only [Bool.false_eq_true, if_false]; exact ⟨b, M', e, q⟩⟩
    · cases e
  · rintro ⟨d, M1, e, b, rfl, q⟩
    rw [e]
    cases b with
    | true => exact ⟨_, _, rfl, by simpa using q⟩
    | false => simpa using q
theorem ok_NotV : Ok (mNotV ma δ M) Q ↔ Ok (ma δ M) fun d M1 => ∃ b, d = .bl b ∧ Q (.bl (!b)) M1 := by
  unfold mNotV
  constructor
  · rintro ⟨b, M', e, q⟩
    split at e
    · rename_i e'; cases e; exact ⟨_, _, e', _, rfl, q⟩
    · cases e
  · rintro ⟨d, M1, e, b, rfl, q⟩
    rw [e]; exact ⟨_, M1, rfl, q⟩
theorem ok_IfE {t : mT} : Ok (mIfE t ma mb δ M) Q ↔ Ok (t δ M) fun b M1 => if b = true then Ok (ma δ M1) Q else Ok (mb δ M1) Q := by
  unfold mIfE; rw [ok_bind]
  constructor <;> (intro h; refine h.imp fun b M1 h => ?_; cases b <;> simpa using h)
theorem ok_Nil : Ok (mNil δ M) QA ↔ QA [] M := ok_some
theorem ok_Cons : Ok (mCons me mr δ M) QA ↔ Ok (me δ M) fun x M1 => Ok (mr δ M1) fun xs M2 => QA (x :: xs) M2 := by unfold mCons; rw [ok_bind]; simp only [ok_map]
theorem ok_Tup : Ok (mTup mr δ M) Q ↔ Ok (mr δ M) fun xs M1 => xs.length ≤ sizeLine ∧ Q (.tup xs) M1 := by
  unfold mTup; rw [ok_bind]
  constructor <;> (intro h; refine h.imp fun xs M1 h => ?_)
  · split at h
    · rename_i hz; exact ⟨hz, ok_some.mp h⟩
    · exact (ok_none.mp h).elim
  · rw [if_pos h.1]; exact ok_some.mpr h.2
theorem ok_Lst : Ok (mLst mr δ M) Q ↔ Ok (mr δ M) fun xs M1 => xs.length ≤ sizeLine ∧ Q (.obj M1.length) (M1 ++ [.lst xs]) := by
  unfold mLst; rw [ok_bind]
  constructor <;> (intro h; refine h.imp fun xs M1 h => ?_)
  · split at h
    · rename_i hz; exact ⟨hz, ok_some.mp h⟩
    · exact (ok_none.mp h).elim
  · rw [if_pos h.1]; exact ok_some.mpr h.2
theorem ok_Call {f : List D → Mem → Option (D × Mem)} : Ok (mCall f mr δ M) Q ↔ Ok (mr δ M) fun ds M1 => Ok (f ds M1) Q := by unfold mCall; rw [ok_bind]
theorem ok_Skip : Ok (mSkip δ M) QS ↔ QS (.nx δ) M := ok_some
theorem ok_Seq : Ok (mSeq m1 m2 δ M) QS ↔ Ok (m1 δ M) fun f M1 => match f with | .nx δ' => Ok (m2 δ' M1) QS | .rt d => QS (.rt d) M1 | .bk d => QS (.bk d) M1 | .ct d => QS (.ct d) M1 := by
  unfold mSeq; rw [ok_bind]
  constructor <;> (intro h; refine h.imp fun f M1 h => ?_; cases f <;> simpa [ok_some] using h)
theorem ok_If {t : mT} : Ok (mIf t m1 m2 δ M) QS ↔ Ok (t δ M) fun b M1 => if b = true then Ok (m1 δ M1) QS else Ok (m2 δ M1) QS := by
  unfold mIf; rw [ok_bind]
  constructor <;> (intro h; refine h.imp fun b M1 h => ?_; cases b <;> simpa using h)
theorem ok_Ret : Ok (mRet me δ M) QS ↔ Ok (me δ M) fun d M1 => QS (.rt d) M1 := by unfold mRet; rw [ok_map]
theorem ok_Expr : Ok (mExpr me δ M) QS ↔ Ok (me δ M) fun _ M1 => QS (.nx δ) M1 := by unfold mExpr; rw [ok_map]
theorem ok_Asg {i : Nat} : Ok (mAsg i me δ M) QS ↔ Ok (me δ M) fun d M1 => QS (.nx (δ.set i (some d))) M1 := by
  unfold mAsg mAsgG gOne; rw [ok_bind]; simp only [Option.map_some, ok_some]
theorem ok_AsgG {g : mG} : Ok (mAsgG me g δ M) QS ↔ Ok (me δ M) fun d M1 => ∃ δ', g d δ = some δ' ∧ QS (.nx δ') M1 := by
  unfold mAsgG; rw [ok_bind]
  constructor <;> (intro h; refine h.imp fun d M1 h => ?_)
  · cases e : g d δ with
    | none => simp only [e, Option.map_none, ok_none] at h
    | some δ' => simp only [e, Option.map_some, ok_some] at h; exact ⟨δ', rfl, h⟩
  · obtain ⟨δ', e, q⟩ := h
    simp only [e, Option.map_some, ok_some]; exact q
theorem ok_Set : Ok (mSet mv mo mi δ M) QS ↔ Ok (mv δ M) fun v M1 => Ok (mo δ M1) fun x M2 => Ok (mi δ M2) fun i M3 => ∃ M', setI x i v M3 = some M' ∧ QS (.nx δ) M' := by
  unfold mSet; rw [ok_bind]
  simp only [ok_bind]
  constructor <;> (intro h; refine h.imp fun v M1 h => h.imp fun x M2 h => h.imp fun i M3 h => ?_)
  · cases e : setI x i v M3 with
    | none => simp only [e, Option.map_none, ok_none] at h
    | some M' => simp only [e, Option.map_some, ok_some] at h; exact ⟨M', rfl, h⟩
  · obtain ⟨M', e, q⟩ := h
    simp only [e, Option.map_some, ok_some]; exact q
theorem ok_MethL {f : D → List D → Mem → Option (D × Mem)} : Ok (mMethL f mo mr δ M) Q ↔ Ok (mo δ M) fun x M1 => ListAt M1 x ∧ Ok (mr δ M1) fun ds M2 => Ok (f x ds M2) Q := by
  unfold mMethL; rw [ok_bind]
  constructor <;> (intro h; refine h.imp fun x M1 h => ?_)
  · split at h
    · rename_i hz; exact ⟨hz, ok_bind.mp h⟩
    · exact (ok_none.mp h).elim
  · rw [if_pos h.1]; exact ok_bind.mpr h.2
theorem ok_Get2 : Ok (mGet2 mo ma mb δ M) Q ↔ Ok (mo δ M) fun x M1 => (asDict M1 x).isSome = true ∧ Ok (ma δ M1) fun y M2 => Ok (mb δ M2) fun z M3 => Ok (fGet2 x y z M3) Q := by
  unfold mGet2; rw [ok_bind]
  constructor <;> (intro h; refine h.imp fun x M1 h => ?_)
  · split at h
    · rename_i hz; exact ⟨hz, by simpa only [ok_bind] using h⟩
    · exact (ok_none.mp h).elim
  · rw [if_pos h.1]; simpa only [ok_bind] using h.2
theorem ok_fn {n : Nat} {ms : mS} {ds : List D} : Ok (fnM n ms ds M) Q ↔ Ok (ms (ds.map some ++ List.replicate (n - ds.length) none) M) fun f M1 => match f with | .rt d => Q d M1 | .nx _ => Q .non M1 | _ => False := by
  unfold fnM
  constructor
  · rintro ⟨d, M', e, q⟩
    split at e
    · rename_i e'; cases e; exact ⟨_, _, e', q⟩
    · rename_i e'; cases e; exact ⟨_, _, e', q⟩
    · cases e
  · rintro ⟨f, M1, e, q⟩
    cases f with
    | rt d => rw [e]; exact ⟨_, _, rfl, q⟩
    | nx d => rw [e]; exact ⟨_, _, rfl, q⟩
    | bk d => exact q.elim
    | ct d => exact q.elim
/-! loops -/
theorem ok_For {mi : mI} {g : mG} {body : mS} : Ok (mFor mi g body δ M) QS ↔ Ok (mi δ M) fun it M1 => Ok (loopM it.guard g body it.items δ M1) QS := by unfold mFor; rw [ok_bind]
theorem ok_Lc {mi : mI} {g : mG} {tt : mT} {te : mE} {vs : List Nat} : Ok (mLc mi g tt te vs δ M) Q ↔ Ok (mi δ M) fun it M1 => Ok (lcM it.guard g tt te (wipeD δ vs) it.items M1) fun xs M2 => xs.length ≤ sizeLine ∧ Q (.obj M2.length) (M2 ++ [.lst xs]) := by
  unfold mLc; rw [ok_bind]
  constructor <;> (intro h; refine h.imp fun it M1 h => ?_)
  · refine (ok_bind.mp h).imp fun xs M2 h => ?_
    split at h
    · rename_i hz; exact ⟨hz, ok_some.mp h⟩
    · exact (ok_none.mp h).elim
  · refine ok_bind.mpr (h.imp fun xs M2 h => ?_)
    rw [if_pos h.1]; exact ok_some.mpr h.2
theorem ok_Iter : ∀ {QI : MI → Mem → Prop}, Ok (mIter me δ M) QI ↔ Ok (me δ M) fun d M1 => ∃ it, itAny M1 d = some it ∧ QI it M1 := by
  intro QI
  unfold mIter; rw [ok_bind]
  constructor <;> (intro h; refine h.imp fun d M1 h => ?_)
  · cases e : itAny M1 d with
    | none => simp only [e, Option.map_none, ok_none] at h
    | some it => simp only [e, Option.map_some, ok_some] at h; exact ⟨it, rfl, h⟩
  · obtain ⟨it, e, q⟩ := h
    simp only [e, Option.map_some, ok_some]; exact q
theorem ok_Keys : ∀ {QI : MI → Mem → Prop}, Ok (mKeys me δ M) QI ↔ Ok (me δ M) fun d M1 => ∃ it, itKeys M1 d = some it ∧ QI it M1 := by
  intro QI
  unfold mKeys; rw [ok_bind]
  constructor <;> (intro h; refine h.imp fun d M1 h => ?_)
  · cases e : itKeys M1 d with
    | none => simp only [e, Option.map_none, ok_none] at h
    | some it => simp only [e, Option.map_some, ok_some] at h; exact ⟨it, rfl, h⟩
  · obtain ⟨it, e, q⟩ := h
    simp only [e, Option.map_some, ok_some]; exact q
theorem ok_Rng1 : ∀ {QI : MI → Mem → Prop}, Ok (mRng1 mr δ M) QI ↔ Ok (mr δ M) fun ds M1 => ∃ j, ds = [.int j] ∧ okR j = true ∧ QI (rngI 0 j) M1 := by
  intro QI
  unfold mRng1
  constructor
  · rintro ⟨it, M', e, q⟩
    split at e
    · rename_i j M1 e'; split at e
      · rename_i hj; cases e; exact ⟨_, _, e', j, rfl, hj, q⟩
      · cases e
    · cases e
  · rintro ⟨ds, M1, e, j, rfl, hj, q⟩
    rw [e]
    exact ⟨_, _, by simp only [hj, if_true], q⟩
theorem ok_LockS {j : Nat} {ms : mS} : Ok (mLockS j ms δ M) QS ↔ ∃ p, dicAt j δ M = some p ∧ Ok (ms δ (M.set p.1 (.dro p.2))) fun f M1 => M1[p.1]? = some (.dro p.2) ∧ QS f (M1.set p.1 (.dic p.2)) := by
  unfold mLockS
  constructor
  · rintro ⟨f, M', e, q⟩
    cases e0 : dicAt j δ M with
    | none => rw [e0] at e; cases e
    | some p =>
      rw [e0] at e
      simp only [Option.bind_some] at e
      refine ⟨p, rfl, ?_⟩
      cases e1 : ms δ (M.set p.1 (.dro p.2)) with
      | none => rw [e1] at e; cases e
      | some r =>
        rw [e1] at e
        simp only [Option.bind_some] at e
        split at e
        · rename_i h; cases e; exact ⟨r.1, r.2, rfl, h, q⟩
        · cases e
  · rintro ⟨p, e0, f, M1, e1, h, q⟩
    rw [e0]
    exact ⟨f, _, by simp only [Option.bind_some, e1, h, if_true], q⟩
theorem ok_LockE {j : Nat} : Ok (mLockE j me δ M) Q ↔ ∃ p, dicAt j δ M = some p ∧ Ok (me δ (M.set p.1 (.dro p.2))) fun f M1 => M1[p.1]? = some (.dro p.2) ∧ Q f (M1.set p.1 (.dic p.2)) := by
  unfold mLockE
  constructor
  · rintro ⟨f, M', e, q⟩
    cases e0 : dicAt j δ M with
    | none => rw [e0] at e; cases e
    | some p =>
      rw [e0] at e
      simp only [Option.bind_some] at e
      refine ⟨p, rfl, ?_⟩
      cases e1 : me δ (M.set p.1 (.dro p.2)) with
      | none => rw [e1] at e; cases e
      | some r =>
        rw [e1] at e
        simp only [Option.bind_some] at e
        split at e
        · rename_i h; cases e; exact ⟨r.1, r.2, rfl, h, q⟩
        · cases e
  · rintro ⟨p, e0, f, M1, e1, h, q⟩
    rw [e0]
    exact ⟨f, _, by simp only [Option.bind_some, e1, h, if_true], q⟩
end
/-- a loop by its invariant: I (how many are done, slots, memory); out: the wish -/
theorem ok_loop {gd : List (Nat × MO)} {g : mG} {body : mS} {Q : Fl → Mem → Prop} (I : Nat → DSt → Mem → Prop) : ∀ (l : List D) (n : Nat) (δ : DSt) (M : Mem), I n δ M →
    (∀ i δ M, I i δ M → Guarded M gd) →
    (∀ i d δ M, l[i]? = some d → I (n + i) δ M → ∃ δ1, g d δ = some δ1 ∧ Ok (body δ1 M) fun f M1 => match f with | .nx δ2 => I (n + i + 1) δ2 M1 | .ct δ2 => I (n + i + 1) δ2 M1 | .bk δ2 => Q (.nx δ2) M1 | .rt v => Q (.rt v) M1) →
    (∀ δ M, I (n + l.length) δ M → Q (.nx δ) M) → Ok (loopM gd g body l δ M) Q
  | [], n, δ, M, h0, hg, _, hd => by rw [loopM_nil (hg _ _ _ h0)]; exact ok_some.mpr (hd δ M h0)
  | d :: r, n, δ, M, h0, hg, hs, hd => by
    rw [loopM_cons (hg _ _ _ h0)]
    obtain ⟨δ1, e1, ⟨f, M1, e2, q⟩⟩ := hs 0 d δ M rfl h0
    rw [e1]
    simp only [Option.bind_some, e2]
    have next : ∀ δ2, I (n + 0 + 1) δ2 M1 → Ok (loopM gd g body r δ2 M1) Q := fun δ2 h => by
      refine ok_loop I r (n + 1) δ2 M1 h hg (fun i d' δ' M' e h' => ?_) fun δ' M' h' => hd δ' M' ?_
      · have := hs (i + 1) d' δ' M' (by simpa using e) (by rw [show n + (i + 1) = n + 1 + i by omega]; exact h')
        rw [show n + (i + 1) + 1 = n + 1 + i + 1 by omega] at this
        exact this
      · rw [List.length_cons, show n + (r.length + 1) = n + 1 + r.length by omega]; exact h'
    cases f with
    | nx δ2 => exact next δ2 q
    | ct δ2 => exact next δ2 q
    | bk δ2 => exact ok_some.mpr q
    | rt v => exact ok_some.mpr q
/-- a comprehension by its invariant -/
theorem ok_lcI {gd : List (Nat × MO)} {g : mG} {tt : mT} {te : mE} {δ : DSt} {Q : List D → Mem → Prop} (I : Nat → List D → Mem → Prop) : ∀ (l : List D) (n : Nat) (acc : List D) (M : Mem), I n acc M →
    (∀ i acc M, I i acc M → Guarded M gd) →
    (∀ i d acc M, l[i]? = some d → I (n + i) acc M → ∃ δ1, g d δ = some δ1 ∧ Ok (tt δ1 M) fun b M1 => if b = true then Ok (te δ1 M1) fun y M2 => I (n + i + 1) (acc ++ [y]) M2 else I (n + i + 1) acc M1) →
    (∀ acc M, I (n + l.length) acc M → Q acc M) → Ok (lcM gd g tt te δ l M) fun xs M' => Q (acc ++ xs) M'
  | [], n, acc, M, h0, hg, _, hd => by rw [lcM_nil (hg _ _ _ h0)]; exact ok_some.mpr (by rw [List.append_nil]; exact hd acc M h0)
  | d :: r, n, acc, M, h0, hg, hs, hd => by
    rw [lcM_cons (hg _ _ _ h0)]
    obtain ⟨δ1, e1, ⟨b, M1, e2, q⟩⟩ := hs 0 d acc M rfl h0
    rw [e1]
    simp only [Option.bind_some, e2]
    have next : ∀ acc' M2, I (n + 0 + 1) acc' M2 → Ok (lcM gd g tt te δ r M2) fun xs M' => Q (acc' ++ xs) M' := fun acc' M2 h => by
      refine ok_lcI I r (n + 1) acc' M2 h hg (fun i d' acc2 M' e h' => ?_) fun acc2 M' h' => hd acc2 M' ?_
      · have := hs (i + 1) d' acc2 M' (by simpa using e) (by rw [show n + (i + 1) = n + 1 + i by omega]; exact h')
        rw [show n + (i + 1) + 1 = n + 1 + i + 1 by omega] at this
        exact this
      · rw [List.length_cons, show n + (r.length + 1) = n + 1 + r.length by omega]; exact h'
    cases b with
    | true =>
      simp only [if_true] at q ⊢
      obtain ⟨y, M2, e3, q⟩ := q
      rw [e3]
      simp only [Option.bind_some]
      rw [ok_map]
      refine (next _ _ q).imp fun xs M' h => ?_
      simpa using h
    | false =>
      simp only [Bool.false_eq_true, if_false] at q ⊢
      exact next _ _ q
theorem ok_PNil {δ : DSt} {M : Mem} {Q : List (Key × D) → Mem → Prop} : Ok (mPNil δ M) Q ↔ Q [] M := ok_some
theorem ok_PCons {δ : DSt} {M : Mem} {mk mv : mE} {r : mP} {Q : List (Key × D) → Mem → Prop} : Ok (mPCons mk mv r δ M) Q ↔ Ok (mk δ M) fun a M1 => ∃ key, keyD a = some key ∧ Ok (mv δ M1) fun b M2 => Ok (r δ M2) fun ps M3 => Q ((key, b) :: ps) M3 := by
  unfold mPCons; rw [ok_bind]
  constructor <;> (intro h; refine h.imp fun a M1 h => ?_)
  · cases e : keyD a with
    | none => simp only [e, Option.bind_none, ok_none] at h
    | some key => simp only [e, Option.bind_some, ok_bind, ok_map] at h; exact ⟨key, rfl, h⟩
  · obtain ⟨key, e, h⟩ := h
    simp only [e, Option.bind_some, ok_bind, ok_map]; exact h
theorem ok_Disp {δ : DSt} {M : Mem} {m : mP} {Q : D → Mem → Prop} : Ok (mDisp m δ M) Q ↔ Ok (m δ M) fun ps M1 => ps.length ≤ 15 ∧ Q (.obj M1.length) (M1 ++ [.dic (ps.foldl (fun acc kv => putD acc kv.1 kv.2) [])]) := by
  unfold mDisp; rw [ok_bind]
  constructor <;> (intro h; refine h.imp fun xs M1 h => ?_)
  · split at h
    · rename_i hz; exact ⟨hz, ok_some.mp h⟩
    · exact (ok_none.mp h).elim
  · rw [if_pos h.1]; exact ok_some.mpr h.2
theorem ok_Sl {δ : DSt} {M : Mem} {me : mE} {ml mh : mO} {Q : D → Mem → Prop} : Ok (mSl me ml mh δ M) Q ↔ Ok (me δ M) fun x M1 => Ok (ml δ M1) fun l M2 => Ok (mh δ M2) fun h M3 => Ok (slD x l h M3) Q := by
  unfold mSl; rw [ok_bind]; simp only [ok_bind]
theorem ok_NoP {δ : DSt} {M : Mem} {Q : Option Int → Mem → Prop} : Ok (mNoP δ M) Q ↔ Q none M := ok_some
theorem ok_Part {δ : DSt} {M : Mem} {m : mE} {Q : Option Int → Mem → Prop} : Ok (mPart m δ M) Q ↔ Ok (m δ M) fun d M1 => ∃ i, d = .int i ∧ Q (some i) M1 := by
  unfold mPart
  constructor
  · rintro ⟨b, M', e, q⟩
    split at e
    · rename_i e'; cases e; exact ⟨_, _, e', _, rfl, q⟩
    · cases e
  · rintro ⟨d, M1, e, i, rfl, q⟩
    rw [e]; exact ⟨_, M1, rfl, q⟩
end Mir

set_option Elab.async false
set_option linter.all false
namespace Mir
open PySem L2
section
variable {M : Mem} {Q : D → Mem → Prop} {d : D} {r : DSt} {v : Option D}
theorem ok_v0 : Ok (mVar 0 (some d :: r) M) Q ↔ Q d M := ok_some
theorem st_0 {w : Option D} : List.set (w :: r) 0 v = v :: r := rfl
theorem ok_v1 {o0 : Option D} : Ok (mVar 1 (o0 :: some d :: r) M) Q ↔ Q d M := ok_some
theorem st_1 {o0 : Option D} {w : Option D} : List.set (o0 :: w :: r) 1 v = o0 :: v :: r := rfl
theorem ok_v2 {o0 o1 : Option D} : Ok (mVar 2 (o0 :: o1 :: some d :: r) M) Q ↔ Q d M := ok_some
theorem st_2 {o0 o1 : Option D} {w : Option D} : List.set (o0 :: o1 :: w :: r) 2 v = o0 :: o1 :: v :: r := rfl
theorem ok_v3 {o0 o1 o2 : Option D} : Ok (mVar 3 (o0 :: o1 :: o2 :: some d :: r) M) Q ↔ Q d M := ok_some
theorem st_3 {o0 o1 o2 : Option D} {w : Option D} : List.set (o0 :: o1 :: o2 :: w :: r) 3 v = o0 :: o1 :: o2 :: v :: r := rfl
theorem ok_v4 {o0 o1 o2 o3 : Option D} : Ok (mVar 4 (o0 :: o1 :: o2 :: o3 :: some d :: r) M) Q ↔ Q d M := ok_some
theorem st_4 {o0 o1 o2 o3 : Option D} {w : Option D} : List.set (o0 :: o1 :: o2 :: o3 :: w :: r) 4 v = o0 :: o1 :: o2 :: o3 :: v :: r := rfl
theorem ok_v5 {o0 o1 o2 o3 o4 : Option D} : Ok (mVar 5 (o0 :: o1 :: o2 :: o3 :: o4 :: some d :: r) M) Q ↔ Q d M := ok_some
theorem st_5 {o0 o1 o2 o3 o4 : Option D} {w : Option D} : List.set (o0 :: o1 :: o2 :: o3 :: o4 :: w :: r) 5 v = o0 :: o1 :: o2 :: o3 :: o4 :: v :: r := rfl
theorem ok_v6 {o0 o1 o2 o3 o4 o5 : Option D} : Ok (mVar 6 (o0 :: o1 :: o2 :: o3 :: o4 :: o5 :: some d :: r) M) Q ↔ Q d M := ok_some
theorem st_6 {o0 o1 o2 o3 o4 o5 : Option D} {w : Option D} : List.set (o0 :: o1 :: o2 :: o3 :: o4 :: o5 :: w :: r) 6 v = o0 :: o1 :: o2 :: o3 :: o4 :: o5 :: v :: r := rfl
theorem ok_v7 {o0 o1 o2 o3 o4 o5 o6 : Option D} : Ok (mVar 7 (o0 :: o1 :: o2 :: o3 :: o4 :: o5 :: o6 :: some d :: r) M) Q ↔ Q d M := ok_some
theorem st_7 {o0 o1 o2 o3 o4 o5 o6 : Option D} {w : Option D} : List.set (o0 :: o1 :: o2 :: o3 :: o4 :: o5 :: o6 :: w :: r) 7 v = o0 :: o1 :: o2 :: o3 :: o4 :: o5 :: o6 :: v :: r := rfl
theorem ok_v8 {o0 o1 o2 o3 o4 o5 o6 o7 : Option D} : Ok (mVar 8 (o0 :: o1 :: o2 :: o3 :: o4 :: o5 :: o6 :: o7 :: some d :: r) M) Q ↔ Q d M := ok_some
theorem st_8 {o0 o1 o2 o3 o4 o5 o6 o7 : Option D} {w : Option D} : List.set (o0 :: o1 :: o2 :: o3 :: o4 :: o5 :: o6 :: o7 :: w :: r) 8 v = o0 :: o1 :: o2 :: o3 :: o4 :: o5 :: o6 :: o7 :: v :: r := rfl
theorem ok_v9 {o0 o1 o2 o3 o4 o5 o6 o7 o8 : Option D} : Ok (mVar 9 (o0 :: o1 :: o2 :: o3 :: o4 :: o5 :: o6 :: o7 :: o8 :: some d :: r) M) Q ↔ Q d M := ok_some
theorem st_9 {o0 o1 o2 o3 o4 o5 o6 o7 o8 : Option D} {w : Option D} : List.set (o0 :: o1 :: o2 :: o3 :: o4 :: o5 :: o6 :: o7 :: o8 :: w :: r) 9 v = o0 :: o1 :: o2 :: o3 :: o4 :: o5 :: o6 :: o7 :: o8 :: v :: r := rfl
theorem ok_v10 {o0 o1 o2 o3 o4 o5 o6 o7 o8 o9 : Option D} : Ok (mVar 10 (o0 :: o1 :: o2 :: o3 :: o4 :: o5 :: o6 :: o7 :: o8 :: o9 :: some d :: r) M) Q ↔ Q d M := ok_some
theorem st_10 {o0 o1 o2 o3 o4 o5 o6 o7 o8 o9 : Option D} {w : Option D} : List.set (o0 :: o1 :: o2 :: o3 :: o4 :: o5 :: o6 :: o7 :: o8 :: o9 :: w :: r) 10 v = o0 :: o1 :: o2 :: o3 :: o4 :: o5 :: o6 :: o7 :: o8 :: o9 :: v :: r := rfl
theorem ok_v11 {o0 o1 o2 o3 o4 o5 o6 o7 o8 o9 o10 : Option D} : Ok (mVar 11 (o0 :: o1 :: o2 :: o3 :: o4 :: o5 :: o6 :: o7 :: o8 :: o9 :: o10 :: some d :: r) M) Q ↔ Q d M := ok_some
theorem st_11 {o0 o1 o2 o3 o4 o5 o6 o7 o8 o9 o10 : Option D} {w : Option D} : List.set (o0 :: o1 :: o2 :: o3 :: o4 :: o5 :: o6 :: o7 :: o8 :: o9 :: o10 :: w :: r) 11 v = o0 :: o1 :: o2 :: o3 :: o4 :: o5 :: o6 :: o7 :: o8 :: o9 :: o10 :: v :: r := rfl
theorem ok_v12 {o0 o1 o2 o3 o4 o5 o6 o7 o8 o9 o10 o11 : Option D} : Ok (mVar 12 (o0 :: o1 :: o2 :: o3 :: o4 :: o5 :: o6 :: o7 :: o8 :: o9 :: o10 :: o11 :: some d :: r) M) Q ↔ Q d M := ok_some
theorem st_12 {o0 o1 o2 o3 o4 o5 o6 o7 o8 o9 o10 o11 : Option D} {w : Option D} : List.set (o0 :: o1 :: o2 :: o3 :: o4 :: o5 :: o6 :: o7 :: o8 :: o9 :: o10 :: o11 :: w :: r) 12 v = o0 :: o1 :: o2 :: o3 :: o4 :: o5 :: o6 :: o7 :: o8 :: o9 :: o10 :: o11 :: v :: r := rfl
theorem ok_v13 {o0 o1 o2 o3 o4 o5 o6 o7 o8 o9 o10 o11 o12 : Option D} : Ok (mVar 13 (o0 :: o1 :: o2 :: o3 :: o4 :: o5 :: o6 :: o7 :: o8 :: o9 :: o10 :: o11 :: o12 :: some d :: r) M) Q ↔ Q d M := ok_some
theorem st_13 {o0 o1 o2 o3 o4 o5 o6 o7 o8 o9 o10 o11 o12 : Option D} {w : Option D} : List.set (o0 :: o1 :: o2 :: o3 :: o4 :: o5 :: o6 :: o7 :: o8 :: o9 :: o10 :: o11 :: o12 :: w :: r) 13 v = o0 :: o1 :: o2 :: o3 :: o4 :: o5 :: o6 :: o7 :: o8 :: o9 :: o10 :: o11 :: o12 :: v :: r := rfl
theorem ok_v14 {o0 o1 o2 o3 o4 o5 o6 o7 o8 o9 o10 o11 o12 o13 : Option D} : Ok (mVar 14 (o0 :: o1 :: o2 :: o3 :: o4 :: o5 :: o6 :: o7 :: o8 :: o9 :: o10 :: o11 :: o12 :: o13 :: some d :: r) M) Q ↔ Q d M := ok_some
theorem st_14 {o0 o1 o2 o3 o4 o5 o6 o7 o8 o9 o10 o11 o12 o13 : Option D} {w : Option D} : List.set (o0 :: o1 :: o2 :: o3 :: o4 :: o5 :: o6 :: o7 :: o8 :: o9 :: o10 :: o11 :: o12 :: o13 :: w :: r) 14 v = o0 :: o1 :: o2 :: o3 :: o4 :: o5 :: o6 :: o7 :: o8 :: o9 :: o10 :: o11 :: o12 :: o13 :: v :: r := rfl
theorem ok_v15 {o0 o1 o2 o3 o4 o5 o6 o7 o8 o9 o10 o11 o12 o13 o14 : Option D} : Ok (mVar 15 (o0 :: o1 :: o2 :: o3 :: o4 :: o5 :: o6 :: o7 :: o8 :: o9 :: o10 :: o11 :: o12 :: o13 :: o14 :: some d :: r) M) Q ↔ Q d M := ok_some
theorem st_15 {o0 o1 o2 o3 o4 o5 o6 o7 o8 o9 o10 o11 o12 o13 o14 : Option D} {w : Option D} : List.set (o0 :: o1 :: o2 :: o3 :: o4 :: o5 :: o6 :: o7 :: o8 :: o9 :: o10 :: o11 :: o12 :: o13 :: o14 :: w :: r) 15 v = o0 :: o1 :: o2 :: o3 :: o4 :: o5 :: o6 :: o7 :: o8 :: o9 :: o10 :: o11 :: o12 :: o13 :: o14 :: v :: r := rfl
theorem ok_v16 {o0 o1 o2 o3 o4 o5 o6 o7 o8 o9 o10 o11 o12 o13 o14 o15 : Option D} : Ok (mVar 16 (o0 :: o1 :: o2 :: o3 :: o4 :: o5 :: o6 :: o7 :: o8 :: o9 :: o10 :: o11 :: o12 :: o13 :: o14 :: o15 :: some d :: r) M) Q ↔ Q d M := ok_some
theorem st_16 {o0 o1 o2 o3 o4 o5 o6 o7 o8 o9 o10 o11 o12 o13 o14 o15 : Option D} {w : Option D} : List.set (o0 :: o1 :: o2 :: o3 :: o4 :: o5 :: o6 :: o7 :: o8 :: o9 :: o10 :: o11 :: o12 :: o13 :: o14 :: o15 :: w :: r) 16 v = o0 :: o1 :: o2 :: o3 :: o4 :: o5 :: o6 :: o7 :: o8 :: o9 :: o10 :: o11 :: o12 :: o13 :: o14 :: o15 :: v :: r := rfl
theorem ok_v17 {o0 o1 o2 o3 o4 o5 o6 o7 o8 o9 o10 o11 o12 o13 o14 o15 o16 : Option D} : Ok (mVar 17 (o0 :: o1 :: o2 :: o3 :: o4 :: o5 :: o6 :: o7 :: o8 :: o9 :: o10 :: o11 :: o12 :: o13 :: o14 :: o15 :: o16 :: some d :: r) M) Q ↔ Q d M := ok_some
theorem st_17 {o0 o1 o2 o3 o4 o5 o6 o7 o8 o9 o10 o11 o12 o13 o14 o15 o16 : Option D} {w : Option D} : List.set (o0 :: o1 :: o2 :: o3 :: o4 :: o5 :: o6 :: o7 :: o8 :: o9 :: o10 :: o11 :: o12 :: o13 :: o14 :: o15 :: o16 :: w :: r) 17 v = o0 :: o1 :: o2 :: o3 :: o4 :: o5 :: o6 :: o7 :: o8 :: o9 :: o10 :: o11 :: o12 :: o13 :: o14 :: o15 :: o16 :: v :: r := rfl
theorem ok_v18 {o0 o1 o2 o3 o4 o5 o6 o7 o8 o9 o10 o11 o12 o13 o14 o15 o16 o17 : Option D} : Ok (mVar 18 (o0 :: o1 :: o2 :: o3 :: o4 :: o5 :: o6 :: o7 :: o8 :: o9 :: o10 :: o11 :: o12 :: o13 :: o14 :: o15 :: o16 :: o17 :: some d :: r) M) Q ↔ Q d M := ok_some
theorem st_18 {o0 o1 o2 o3 o4 o5 o6 o7 o8 o9 o10 o11 o12 o13 o14 o15 o16 o17 : Option D} {w : Option D} : List.set (o0 :: o1 :: o2 :: o3 :: o4 :: o5 :: o6 :: o7 :: o8 :: o9 :: o10 :: o11 :: o12 :: o13 :: o14 :: o15 :: o16 :: o17 :: w :: r) 18 v = o0 :: o1 :: o2 :: o3 :: o4 :: o5 :: o6 :: o7 :: o8 :: o9 :: o10 :: o11 :: o12 :: o13 :: o14 :: o15 :: o16 :: o17 :: v :: r := rfl
theorem ok_v19 {o0 o1 o2 o3 o4 o5 o6 o7 o8 o9 o10 o11 o12 o13 o14 o15 o16 o17 o18 : Option D} : Ok (mVar 19 (o0 :: o1 :: o2 :: o3 :: o4 :: o5 :: o6 :: o7 :: o8 :: o9 :: o10 :: o11 :: o12 :: o13 :: o14 :: o15 :: o16 :: o17 :: o18 :: some d :: r) M) Q ↔ Q d M := ok_some
theorem st_19 {o0 o1 o2 o3 o4 o5 o6 o7 o8 o9 o10 o11 o12 o13 o14 o15 o16 o17 o18 : Option D} {w : Option D} : List.set (o0 :: o1 :: o2 :: o3 :: o4 :: o5 :: o6 :: o7 :: o8 :: o9 :: o10 :: o11 :: o12 :: o13 :: o14 :: o15 :: o16 :: o17 :: o18 :: w :: r) 19 v = o0 :: o1 :: o2 :: o3 :: o4 :: o5 :: o6 :: o7 :: o8 :: o9 :: o10 :: o11 :: o12 :: o13 :: o14 :: o15 :: o16 :: o17 :: o18 :: v :: r := rfl
end
section
variable {M : Mem} {Q : D → Mem → Prop} {i j : Int} {QS : Fl → Mem → Prop} {δ : DSt} {me mo mi mv : mE}
theorem ok_AsgM {is : List Nat} : Ok (mAsgG me (gMany is) δ M) QS ↔ Ok (me δ M) fun d M1 => ∃ δ', gMany is d δ = some δ' ∧ QS (.nx δ') M1 := ok_AsgG
theorem ok_add : Ok (addD (.int i) (.int j) M) Q ↔ Q (.int (i + j)) M := ok_some
theorem ok_sub : Ok (subD (.int i) (.int j) M) Q ↔ Q (.int (i - j)) M := by unfold subD intD yesC; simp only [if_true, ok_some]
theorem ok_mul : Ok (mulD (.int i) (.int j) M) Q ↔ mulOk i j = true ∧ Q (.int (i * j)) M := by
  unfold mulD
  by_cases h : mulOk i j = true
  · simp only [h, if_true, ok_some, true_and]
  · dsimp only; rw [if_neg h, ok_none]; exact ⟨fun z => z.elim, fun z => absurd z.1 h⟩
theorem ok_mod : Ok (modD (.int i) (.int j) M) Q ↔ j ≠ 0 ∧ Q (.int (i.fmod j)) M := by
  unfold modD intD modOk
  by_cases h : j = 0
  · simp [h, ok_none]
  · simp [h, ok_some]
theorem ok_fdiv : Ok (fdivD (.int i) (.int j) M) Q ↔ fdivOk i j = true ∧ Q (.int (i.fdiv j)) M := by
  unfold fdivD intD
  by_cases h : fdivOk i j = true
  · simp only [h, if_true, ok_some, true_and]
  · dsimp only; rw [if_neg h, ok_none]; exact ⟨fun z => z.elim, fun z => absurd z.1 h⟩
theorem ok_pow : Ok (powD (.int i) (.int j) M) Q ↔ powOk i j = true ∧ Q (.int (i ^ j.toNat)) M := by
  unfold powD intD
  by_cases h : powOk i j = true
  · simp only [h, if_true, ok_some, true_and]
  · dsimp only; rw [if_neg h, ok_none]; exact ⟨fun z => z.elim, fun z => absurd z.1 h⟩
theorem ok_lt : Ok (ltD (.int i) (.int j) M) Q ↔ Q (.bl (decide (i < j))) M := ok_some
theorem ok_le : Ok (leD (.int i) (.int j) M) Q ↔ Q (.bl (decide (i ≤ j))) M := ok_some
theorem ok_gt : Ok (gtD (.int i) (.int j) M) Q ↔ Q (.bl (decide (j < i))) M := ok_some
theorem ok_ge : Ok (geD (.int i) (.int j) M) Q ↔ Q (.bl (decide (j ≤ i))) M := ok_some
theorem ok_eqI : Ok (eqD (.int i) (.int j) M) Q ↔ Q (.bl (i == j)) M := ok_some
theorem ok_neI : Ok (neD (.int i) (.int j) M) Q ↔ Q (.bl (!(i == j))) M := ok_some
theorem exB {P : Bool → Prop} {b : Bool} : (∃ c, D.bl b = D.bl c ∧ P c) ↔ P b := ⟨fun ⟨c, e, p⟩ => by cases e; exact p, fun p => ⟨b, rfl, p⟩⟩
theorem exI {P : Int → Prop} {b : Int} : (∃ c, D.int b = D.int c ∧ P c) ↔ P b := ⟨fun ⟨c, e, p⟩ => by cases e; exact p, fun p => ⟨b, rfl, p⟩⟩
theorem exL1 {P : Int → Prop} {b : Int} : (∃ c, [D.int b] = [D.int c] ∧ P c) ↔ P b := ⟨fun ⟨c, e, p⟩ => by cases e; exact p, fun p => ⟨b, rfl, p⟩⟩
theorem exS {α : Type} {P : α → Prop} {b : α} : (∃ c, some b = some c ∧ P c) ↔ P b := ⟨fun ⟨c, e, p⟩ => by cases e; exact p, fun p => ⟨b, rfl, p⟩⟩
theorem tru_bl {b : Bool} : truB M (.bl b) = some b := rfl
theorem ok_isi_int {c : String} {b : Bool} (h : isiB "int" c = some b) : Ok (fIsi [.int i, .ty c] M) Q ↔ Q (.bl b) M := by
  unfold fIsi tyD; simp only [Option.bind_some, h, Option.map_some, ok_some]
theorem ok_isi_tup {c : String} {b : Bool} {xs : List D} (h : isiB "tuple" c = some b) : Ok (fIsi [.tup xs, .ty c] M) Q ↔ Q (.bl b) M := by
  unfold fIsi tyD; simp only [Option.bind_some, h, Option.map_some, ok_some]
theorem isi_ii : isiB "int" "int" = some true := by decide +kernel
theorem isi_ib : isiB "int" "bool" = some false := by decide +kernel
theorem isi_tt : isiB "tuple" "tuple" = some true := by decide +kernel
theorem ok_intint : Ok (fIsi [.int i, .ty "int"] M) Q ↔ Q (.bl true) M := ok_isi_int isi_ii
theorem ok_intbool : Ok (fIsi [.int i, .ty "bool"] M) Q ↔ Q (.bl false) M := ok_isi_int isi_ib
theorem ok_tuptup {xs : List D} : Ok (fIsi [.tup xs, .ty "tuple"] M) Q ↔ Q (.bl true) M := ok_isi_tup isi_tt
theorem ok_len_tup {xs : List D} : Ok (fLen [.tup xs] M) Q ↔ Q (.int xs.length) M := ok_some
theorem ok_int_bl {b : Bool} : Ok (fInt [.bl b] M) Q ↔ Q (.int (if b then 1 else 0)) M := ok_some
theorem iteTrue {A B : Prop} : (if true = true then A else B) ↔ A := by simp
theorem iteFalse {A B : Prop} : (if false = true then A else B) ↔ B := by simp
theorem ix_tup0 {x : D} {xs : List D} : Ok (ixD (.tup (x :: xs)) (.int 0) M) Q ↔ Q x M := by
  have : atI (x :: xs) 0 = some x := by unfold atI ixN; simp
  unfold ixD; simp only [this, Option.map_some, ok_some]
theorem ix_tup1 {x y : D} {xs : List D} : Ok (ixD (.tup (x :: y :: xs)) (.int 1) M) Q ↔ Q y M := by
  have : atI (x :: y :: xs) 1 = some y := by
    unfold atI ixN
    rw [if_pos (by decide), if_pos (by simp only [List.length_cons]; omega)]
    rfl
  unfold ixD; simp only [this, Option.map_some, ok_some]
theorem ix_tup2 {x y z : D} {xs : List D} : Ok (ixD (.tup (x :: y :: z :: xs)) (.int 2) M) Q ↔ Q z M := by
  have : atI (x :: y :: z :: xs) 2 = some z := by
    unfold atI ixN
    rw [if_pos (by decide), if_pos (by simp only [List.length_cons]; omega)]
    rfl
  unfold ixD; simp only [this, Option.map_some, ok_some]
/-- an item of a list of the memory, bounds known -/
theorem ok_ixL {n : Nat} {xs : List D} (h : M[n]? = some (.lst xs)) (h0 : 0 ≤ i) (h1 : i < xs.length) {d : D} (hd : xs[i.toNat]? = some d) : Ok (ixD (.obj n) (.int i) M) Q ↔ Q d M := by
  have : atI xs i = some d := by unfold atI ixN; rw [if_pos h0, if_pos h1]; exact hd
  unfold ixD asList; simp only [h, this, Option.map_some, ok_some]
theorem ok_ixD {n : Nat} {kvs : List (Key × D)} {key : Key} {y d : D} (h : M[n]? = some (.dic kvs)) (hk : keyD y = some key) (hd : valD kvs key = some d) : Ok (ixD (.obj n) y M) Q ↔ Q d M := by
  unfold ixD asList asDict; simp only [h, hk, Option.bind_some, hd, Option.map_some, ok_some]
theorem fdiv_small {i j : Int} (h0 : 0 < j) (h1 : j < 1073741824) : fdivOk i j = true := by
  unfold fdivOk
  rw [PyProof.noPylong_small (by omega)]
  simp; omega
theorem mul_left {i j : Int} (h0 : -(2 ^ 64) < i) (h1 : i < 2 ^ 64) : mulOk i j = true := by
  have := (IntMulOk.of_left (b := j) (intBits_le_64 h0 h1))
  unfold IntMulOk at this
  unfold mulOk
  rw [Bool.eq_false_iff.mpr this]; rfl
theorem mul_right {i j : Int} (h0 : -(2 ^ 64) < j) (h1 : j < 2 ^ 64) : mulOk i j = true := by
  have := (IntMulOk.of_right (a := i) (intBits_le_64 h0 h1))
  unfold IntMulOk at this
  unfold mulOk
  rw [Bool.eq_false_iff.mpr this]; rfl
theorem fmod_pos {i j : Int} (h : 0 < j) : i.fmod j = i % j := Int.fmod_eq_emod_of_nonneg i (Int.le_of_lt h)
end
/-! data that are compared -/
inductive Pln : Nat → D → Prop
  | non {n} : Pln n .non
  | bl {n} (b : Bool) : Pln n (.bl b)
  | int {n} (i : Int) : Pln n (.int i)
  | str {n} {x : Str} (h : PyData.strOk x = true) : Pln n (.str x)
  | tup {n} {xs : List D} (h : ∀ x ∈ xs, Pln n x) : Pln (n + 1) (.tup xs)
theorem mapM_some {α β : Type} {f : α → Option β} {P : β → Prop} : ∀ {xs : List α}, (∀ x ∈ xs, ∃ p, f x = some p ∧ P p) → ∃ ps, xs.mapM f = some ps ∧ ∀ p ∈ ps, P p
  | [], _ => ⟨[], rfl, fun _ h => by cases h⟩
  | x :: xs, h => by
    obtain ⟨p, e, q⟩ := h x List.mem_cons_self
    obtain ⟨ps, e', q'⟩ := mapM_some fun y hy => h y (List.mem_cons_of_mem _ hy)
    refine ⟨p :: ps, ?_, fun r hr => ?_⟩
    · rw [List.mapM_cons, e, e']; rfl
    · rcases List.mem_cons.mp hr with rfl | hr
      · exact q
      · exact q' r hr
theorem lay_all : ∀ {ps : List PyData}, (∀ p ∈ ps, p.canLay0 = true) → PyData.canLayAll0 ps = true
  | [], _ => by simp [PyData.canLayAll0]
  | p :: ps, h => by simp [PyData.canLayAll0, h p List.mem_cons_self, lay_all fun q hq => h q (List.mem_cons_of_mem _ hq)]
theorem depth_all {n : Nat} : ∀ {ps : List PyData}, (∀ p ∈ ps, p.depth ≤ n) → PyData.depthAll ps ≤ n
  | [], _ => by simp [PyData.depthAll]
  | p :: ps, h => by
    simp only [PyData.depthAll]
    exact Nat.max_le.mpr ⟨h p List.mem_cons_self, depth_all fun q hq => h q (List.mem_cons_of_mem _ hq)⟩
theorem Pln.pd {M : Mem} : ∀ {n : Nat} {d : D}, Pln n d → ∀ m, n ≤ m → ∃ p, Mir.pd M m d = some p ∧ p.canLay0 = true ∧ p.depth ≤ n
  | _, _, .non, m, _ => ⟨.none, by cases m <;> rfl, by simp [PyData.canLay0], by simp [PyData.depth]⟩
  | _, _, .bl b, m, _ => ⟨.bool b, by cases m <;> rfl, by simp [PyData.canLay0], by simp [PyData.depth]⟩
  | _, _, .int i, m, _ => ⟨.int i, by cases m <;> rfl, by simp [PyData.canLay0], by simp [PyData.depth]⟩
  | _, _, @Pln.str _ x h, m, _ => ⟨.str x, by cases m <;> rfl, by simpa [PyData.canLay0] using h, by simp [PyData.depth]⟩
  | _, _, @Pln.tup n xs h, m, hm => by
    obtain ⟨m', rfl⟩ : ∃ m', m = m' + 1 := ⟨m - 1, by omega⟩
    obtain ⟨ps, e, q⟩ := mapM_some (f := Mir.pd M m') (P := fun p => p.canLay0 = true ∧ p.depth ≤ n) fun x hx => by
      obtain ⟨p, e1, e2, e3⟩ := (h x hx).pd m' (by omega)
      exact ⟨p, e1, e2, e3⟩
    refine ⟨.tuple ps, by simp only [Mir.pd, e, Option.map_some], ?_, ?_⟩
    · simp only [PyData.canLay0]; exact lay_all fun p hp => (q p hp).1
    · simp only [PyData.depth]; exact Nat.succ_le_succ (depth_all fun p hp => (q p hp).2)
theorem eqB_refl {M : Mem} {n : Nat} {d : D} (h : Pln n d) (hn : n ≤ 64) : eqB M d d = some true := by
  obtain ⟨p, e1, e2, e3⟩ := h.pd (M := M) 64 hn
  have hs : SeqAt.shaped p = true := by unfold SeqAt.shaped; rw [e2, decide_eq_true (by omega)]; rfl
  unfold eqB
  simp only [e1, Option.bind_some, hs, and_self, if_true, SeqAt.eqv_refl p e2]
theorem ok_ne_refl {M : Mem} {n : Nat} {d : D} {Q : D → Mem → Prop} (h : Pln n d) (hn : n ≤ 64) : Ok (neD d d M) Q ↔ Q (.bl false) M := by
  unfold neD; rw [eqB_refl h hn]; exact ok_some
theorem pd_ints {M : Mem} {n : Nat} : ∀ ns : List Int, (ns.map D.int).mapM (pd M n) = some (ns.map PyData.int)
  | [] => rfl
  | x :: r => by
    have : pd M n (.int x) = some (.int x) := by cases n <;> rfl
    rw [List.map_cons, List.mapM_cons, this, pd_ints r]; rfl
theorem shaped_ints (ns : List Int) : SeqAt.shaped (.list (ns.map PyData.int)) = true := by
  have h1 : PyData.canLayAll0 (ns.map PyData.int) = true := lay_all fun p hp => by
    obtain ⟨x, _, rfl⟩ := List.mem_map.mp hp; simp [PyData.canLay0]
  have h2 : PyData.depthAll (ns.map PyData.int) ≤ 0 := depth_all fun p hp => by
    obtain ⟨x, _, rfl⟩ := List.mem_map.mp hp; simp [PyData.depth]
  unfold SeqAt.shaped
  simp only [PyData.canLay0, h1, PyData.depth, Bool.true_and]
  exact decide_eq_true (by omega)
theorem eqB_ints {M : Mem} {a b : Nat} {ns ms : List Int} (ha : M[a]? = some (.lst (ns.map .int))) (hb : M[b]? = some (.lst (ms.map .int))) : eqB M (.obj a) (.obj b) = some (PyData.eqvAll (ns.map .int) (ms.map .int)) := by
  unfold eqB
  have e1 : pd M 64 (.obj a) = some (.list (ns.map .int)) := by simp only [pd, asList, ha, Option.bind_some, pd_ints, Option.map_some]
  have e2 : pd M 64 (.obj b) = some (.list (ms.map .int)) := by simp only [pd, asList, hb, Option.bind_some, pd_ints, Option.map_some]
  simp only [e1, e2, Option.bind_some, shaped_ints, and_self, if_true, PyData.eqv]
theorem eqv_nil (ns : List Int) : PyData.eqvAll (ns.map .int) [] = ns.isEmpty := by cases ns <;> simp [PyData.eqvAll]
section
variable {M : Mem} {Q : D → Mem → Prop} {c : Nat} {xs : List D}
theorem listAt (h : M[c]? = some (.lst xs)) : ListAt M (.obj c) := ⟨xs, by simp only [asList, h]⟩
theorem asLst_of (h : M[c]? = some (.lst xs)) : asLst M (.obj c) = some (c, xs) := by simp only [asLst, h]
theorem asDic_of {kvs : List (Key × D)} (h : M[c]? = some (.dic kvs)) : asDic M (.obj c) = some (c, kvs) := by simp only [asDic, h]
theorem ok_popAt0 {x : D} (h : M[c]? = some (.lst (x :: xs))) : Ok (fPopAt (.obj c) [.int 0] M) Q ↔ Q x (M.set c (.lst xs)) := by
  have e : seqIndex? 0 (x :: xs).length = some 0 := by unfold seqIndex?; simp
  unfold fPopAt
  rw [asLst_of h]
  simp only [Option.bind_some, e]
  rw [if_pos (by decide)]
  simp [ok_some]
theorem ok_ins0 {y : D} (h : M[c]? = some (.lst xs)) (hl : xs.length < sizeLine) : Ok (fInsert (.obj c) [.int 0, y] M) Q ↔ Q .non (M.set c (.lst (y :: xs))) := by
  unfold fInsert
  rw [asLst_of h]
  simp only [Option.bind_some]
  rw [if_pos ⟨by decide, by decide, hl⟩, ok_some]
  simp [insAt]
theorem ok_app {y : D} (h : M[c]? = some (.lst xs)) (hl : xs.length < sizeLine) : Ok (fAppend (.obj c) [y] M) Q ↔ Q .non (M.set c (.lst (xs ++ [y]))) := by
  unfold fAppend
  rw [asLst_of h]
  simp only [Option.bind_some]
  rw [if_pos hl, ok_some]
end
section
variable {M : Mem} {Q : D → Mem → Prop} {δ : DSt}
theorem itAny_lst {n : Nat} {xs : List D} (h : M[n]? = some (.lst xs)) : itAny M (.obj n) = some ⟨xs, [(n, .lst xs)]⟩ := by simp only [itAny, h]
theorem itAny_tup {xs : List D} : itAny M (.tup xs) = some ⟨xs, []⟩ := rfl
theorem ok_DNew : Ok (mDNew δ M) Q ↔ Q (.obj M.length) (M ++ [.dic []]) := ok_some
theorem ok_addT {xs ys : List D} : Ok (addD (.tup xs) (.tup ys) M) Q ↔ xs.length + ys.length ≤ sizeLine ∧ Q (.tup (xs ++ ys)) M := by
  unfold addD
  by_cases h : xs.length + ys.length ≤ sizeLine
  · simp only [h, if_true, ok_some, true_and]
  · dsimp only; rw [if_neg h, ok_none]; exact ⟨fun z => z.elim, fun z => absurd z.1 h⟩
theorem ok_tupL {n : Nat} {xs : List D} (h : M[n]? = some (.lst xs)) : Ok (fTuple [.obj n] M) Q ↔ Q (.tup xs) M := by
  simp only [fTuple, asSeq, asList, h, Option.map_some, ok_some]
theorem guard_lst {n : Nat} {xs : List D} (h : M[n]? = some (.lst xs)) : Guarded M [(n, .lst xs)] := fun q hq => by cases List.mem_singleton.mp hq; exact h
theorem at_end {mo : MO} : (M ++ [mo])[M.length]? = some mo := by simp
theorem at_old {n : Nat} {mo : MO} {l : Mem} (h : M[n]? = some mo) : (M ++ l)[n]? = some mo := by rw [List.getElem?_append_left (List.getElem?_eq_some_iff.mp h).1]; exact h
end
end Mir

set_option Elab.async false
set_option linter.all false
set_option maxRecDepth 100000
set_option maxHeartbeats 4000000
/-! dicts of whole numbers as lists of pairs -/
namespace Mir
open PySem L2
abbrev IL := List (Int × Int)
def lk : IL → Int → Option Int
  | [], _ => none
  | (a, b) :: r, k => if a = k then some b else lk r k
def get (L : IL) (k : Int) : Int := (lk L k).getD 0
def put : IL → Int → Int → IL
  | [], k, v => [(k, v)]
  | (a, b) :: r, k, v => if a = k then (a, v) :: r else (a, b) :: put r k v
abbrev keys (L : IL) : List Int := L.map (·.1)
/-- a comprehension without effects -/
theorem lc_pure {gd : List (Nat × MO)} {g : mG} {tt : mT} {te : mE} {δ : DSt} {M : Mem} {α : Type} {inj : α → D} {b : α → Bool} {e : α → D} (hg : Guarded M gd) : ∀ (l : List α),
    (∀ x ∈ l, ∃ δ1, g (inj x) δ = some δ1 ∧ tt δ1 M = some (b x, M) ∧ (b x = true → te δ1 M = some (e x, M))) → lcM gd g tt te δ (l.map inj) M = some ((l.filter b).map e, M)
  | [], _ => lcM_nil hg
  | x :: r, h => by
    obtain ⟨δ1, e1, e2, e3⟩ := h x List.mem_cons_self
    have ih := lc_pure hg r fun y hy => h y (List.mem_cons_of_mem _ hy)
    rw [List.map_cons, lcM_cons hg, e1]
    simp only [Option.bind_some, e2, ih]
    cases hb : b x with
    | true => simp only [if_true, e3 hb, Option.bind_some, ih, Option.map_some, List.filter_cons, hb, List.map_cons]
    | false => simp only [Bool.false_eq_true, if_false, List.filter_cons, hb]
theorem of_ok {α : Type} {o : Option (α × Mem)} {a : α} {M : Mem} (h : Ok o fun x M' => x = a ∧ M' = M) : o = some (a, M) := by
  obtain ⟨x, M', e, rfl, rfl⟩ := h; exact e
end Mir

set_option Elab.async false
set_option linter.all false
set_option maxRecDepth 100000
set_option maxHeartbeats 4000000
namespace Mir
open PySem PySem.Spec L2
variable {δ : DSt} {M : Mem} {Q : D → Mem → Prop} {me ma : mE} {mr : mA}
theorem ok_Zip {QI : MI → Mem → Prop} : Ok (mZip mr δ M) QI ↔ Ok (mr δ M) fun ds M1 => ∃ x y i1 i2, ds = [x, y] ∧ itAny M1 x = some i1 ∧ itAny M1 y = some i2 ∧ QI ⟨zipD i1.items i2.items, i1.guard ++ i2.guard⟩ M1 := by
  unfold mZip
  rw [ok_bind]
  constructor
  · rintro ⟨ds, M1, e, h⟩
    refine ⟨ds, M1, e, ?_⟩
    dsimp only at h
    split at h
    · rename_i x y
      cases e1 : itAny M1 x with
      | none => rw [e1] at h; exact absurd h (by rw [Option.bind_none, ok_none]; exact id)
      | some i1 =>
        cases e2 : itAny M1 y with
        | none => rw [e1, e2] at h; exact absurd h (by simp only [Option.bind_some, Option.map_none]; rw [ok_none]; exact id)
        | some i2 =>
          rw [e1, e2] at h
          simp only [Option.bind_some, Option.map_some] at h
          exact ⟨x, y, i1, i2, rfl, e1, e2, ok_some.mp h⟩
    · exact absurd h (by rw [ok_none]; exact id)
  · rintro ⟨ds, M1, e, x, y, i1, i2, rfl, e1, e2, q⟩
    refine ⟨[x, y], M1, e, ?_⟩
    dsimp only
    rw [e1, e2]
    exact ok_some.mpr q
theorem ok_IxG {tab : List (Str × Str)} : Ok (mIxG tab me δ M) Q ↔ Ok (me δ M) fun d M1 => ∃ z y, d = .str z ∧ tab.lookup z = some y ∧ Q (.str y) M1 := by
  unfold mIxG
  rw [ok_bind]
  constructor
  · rintro ⟨d, M1, e, h⟩
    refine ⟨d, M1, e, ?_⟩
    dsimp only at h
    split at h
    · rename_i z
      cases e1 : tab.lookup z with
      | none => rw [e1] at h; exact absurd h (by rw [Option.map_none, ok_none]; exact id)
      | some y => rw [e1] at h; exact ⟨z, y, rfl, e1, ok_some.mp h⟩
    · exact absurd h (by rw [ok_none]; exact id)
  · rintro ⟨d, M1, e, z, y, rfl, e1, q⟩
    refine ⟨.str z, M1, e, ?_⟩
    dsimp only
    rw [e1]
    exact ok_some.mpr q
theorem shaped_str {a : Str} (h : PyData.canLay0 (.str a) = true) : SeqAt.shaped (.str a) = true := by
  unfold SeqAt.shaped
  rw [h]
  rfl
theorem eqB_str {a b : Str} (ha : PyData.canLay0 (.str a) = true) (hb : PyData.canLay0 (.str b) = true) : eqB M (.str a) (.str b) = some (a == b) := by
  show (if SeqAt.shaped (.str a) = true ∧ SeqAt.shaped (.str b) = true then some (PyData.eqv (.str a) (.str b)) else none) = _
  rw [if_pos ⟨shaped_str ha, shaped_str hb⟩]
  simp only [PyData.eqv]
theorem ok_eqS {a b : Str} (ha : PyData.canLay0 (.str a) = true) (hb : PyData.canLay0 (.str b) = true) : Ok (eqD (.str a) (.str b) M) Q ↔ Q (.bl (a == b)) M := by
  unfold eqD; rw [eqB_str ha hb]; exact ok_some
theorem ok_neS {a b : Str} (ha : PyData.canLay0 (.str a) = true) (hb : PyData.canLay0 (.str b) = true) : Ok (neD (.str a) (.str b) M) Q ↔ Q (.bl (!(a == b))) M := by
  unfold neD; rw [eqB_str ha hb]; exact ok_some
end Mir

set_option Elab.async false
set_option linter.all false
set_option maxRecDepth 100000
set_option maxHeartbeats 4000000
/-! deeds as data, and what they come to -/
namespace Run
open PySem Mir L2
inductive Op where | plus | minus | times | less | share
inductive Dd where
  | num (n : Int) | op (w : Op) (a b : Nat) | pick (a b c : Nat) | read (a : Nat) (n : Int) | write (a : Nat) (n : Int) (b : Nat) | keep (a : Nat) (s : Int) | fetch (s : Int)
def Op.w : Op → Str
  | .plus => "plus" | .minus => "minus" | .times => "times" | .less => "less" | .share => "share"
def Dd.w : Dd → Str
  | .num _ => "number" | .op o _ _ => o.w | .pick .. => "pick" | .read .. => "read" | .write .. => "write" | .keep .. => "keep" | .fetch .. => "fetch"
def Dd.ps : Dd → List Int
  | .num n => [n] | .op _ a b => [(a : Int), (b : Int)] | .pick a b c => [(a : Int), (b : Int), (c : Int)] | .read a n => [(a : Int), n] | .write a n b => [(a : Int), n, (b : Int)] | .keep a s => [(a : Int), s] | .fetch s => [s]
def Dd.named : Dd → List Nat
  | .num n => [] | .op _ a b => [a, b] | .pick a b c => [a, b, c] | .read a n => [a] | .write a n b => [a, b] | .keep a s => [a] | .fetch s => []
def Dd.has : Dd → Bool
  | .write .. => false | .keep .. => false | _ => true
def Dd.D (d : Dd) : Mir.D := .tup (.str d.w :: d.ps.map .int)
structure RS where
  ws : List Int
  cl : IL
  sh : IL
def RS.v (r : RS) (a : Nat) : Int := r.ws.getD a 0
def opv : Op → Int → Int → Int
  | .plus, x, y => x + y | .minus, x, y => x - y | .times, x, y => x * y | .less, x, y => if x < y then 1 else 0 | .share, x, y => x.fdiv y
def val (d : Dd) (r : RS) : Int := match d with
  | .num n => n | .op w a b => opv w (r.v a) (r.v b) | .pick a b c => if r.v a ≠ 0 then r.v b else r.v c
  | .read a n => Mir.get r.cl (r.v a + n) | .write .. => 0 | .keep .. => 0 | .fetch s => Mir.get r.sh s
def step (d : Dd) (r : RS) : RS := ⟨r.ws ++ [val d r], match d with | .write a n b => put r.cl (r.v a + n) (r.v b) | _ => r.cl, match d with | .keep a s => put r.sh s (r.v a) | _ => r.sh⟩
/-- a deed that may be done -/
structure Good (mk : List Bool) (d : Dd) (r : RS) : Prop where
  nm : ∀ a ∈ d.named, mk[a]? = some true
  lm : mk.length = r.ws.length
  ml : ∀ a b, d = .op .times a b → mulOk (r.v a) (r.v b) = true
  sh : ∀ a b, d = .op .share a b → fdivOk (r.v a) (r.v b) = true
  l1 : r.cl.length ≤ 500
  l2 : r.sh.length ≤ 500
  l3 : r.ws.length ≤ 500
  n1 : (keys r.cl).Nodup
  n2 : (keys r.sh).Nodup
/-- bounds by bits -/
def bd (B : Nat) (v : Int) : Prop := v.natAbs < 2 ^ B
structure Bnd (B : Nat) (r : RS) : Prop where
  w : ∀ v ∈ r.ws, bd B v
  c : ∀ p ∈ r.cl, bd B p.2
  s : ∀ p ∈ r.sh, bd B p.2
theorem bd.mono {B C : Nat} {v : Int} (h : bd B v) (l : B ≤ C) : bd C v := Nat.lt_of_lt_of_le h (Nat.pow_le_pow_right (by decide) l)
theorem Bnd.mono {B C : Nat} {r : RS} (h : Bnd B r) (l : B ≤ C) : Bnd C r := ⟨fun v m => (h.w v m).mono l, fun v m => (h.c v m).mono l, fun v m => (h.s v m).mono l⟩
theorem bd_zero {B : Nat} : bd B 0 := by unfold bd; simp; exact Nat.pos_of_ne_zero (by simp)
theorem Bnd.v {B : Nat} {r : RS} (h : Bnd B r) (a : Nat) : bd B (r.v a) := by
  unfold RS.v
  rw [List.getD_eq_getElem?_getD]
  cases e : r.ws[a]? with
  | none => exact bd_zero
  | some x => exact h.w x (List.mem_of_getElem? e)
end Run

set_option Elab.async false
set_option linter.all false
set_option maxRecDepth 100000
set_option maxHeartbeats 4000000
namespace Mir
open PySem L2
variable {M : Mem} {Q : D → Mem → Prop}
def IfP (b : Bool) (A B : Prop) : Prop := if b = true then A else B
theorem ifp_t {A B : Prop} : IfP true A B = A := by simp [IfP]
theorem ifp_f {A B : Prop} : IfP false A B = B := by simp [IfP]
theorem ifp_pos {b : Bool} {A B : Prop} (h : b = true) : IfP b A B ↔ A := by simp [IfP, h]
theorem ifp_neg {b : Bool} {A B : Prop} (h : b = false) : IfP b A B ↔ B := by simp [IfP, h]
section
variable {δ : DSt} {ma mb : mE} {ta tb t : mT} {m1 m2 : mS} {QT : Bool → Mem → Prop} {QS : Fl → Mem → Prop}
theorem ok_And' : Ok (mAnd ta tb δ M) QT ↔ Ok (ta δ M) fun b M1 => IfP b (Ok (tb δ M1) QT) (QT false M1) := ok_And
theorem ok_Or' : Ok (mOr ta tb δ M) QT ↔ Ok (ta δ M) fun b M1 => IfP b (QT true M1) (Ok (tb δ M1) QT) := ok_Or
theorem ok_AndV' : Ok (mAndV ma mb δ M) Q ↔ Ok (ma δ M) fun d M1 => ∃ b, d = .bl b ∧ IfP b (Ok (mb δ M1) Q) (Q (.bl false) M1) := ok_AndV
theorem ok_OrV' : Ok (mOrV ma mb δ M) Q ↔ Ok (ma δ M) fun d M1 => ∃ b, d = .bl b ∧ IfP b (Q (.bl true) M1) (Ok (mb δ M1) Q) := ok_OrV
theorem ok_IfE' : Ok (mIfE t ma mb δ M) Q ↔ Ok (t δ M) fun b M1 => IfP b (Ok (ma δ M1) Q) (Ok (mb δ M1) Q) := ok_IfE
theorem ok_If' : Ok (mIf t m1 m2 δ M) QS ↔ Ok (t δ M) fun b M1 => IfP b (Ok (m1 δ M1) QS) (Ok (m2 δ M1) QS) := ok_If
end
theorem ok_eqT {a : Str} (ha : PyData.canLay0 (.str a) = true) : Ok (eqD (.str a) (.str a) M) Q ↔ Q (.bl true) M := by rw [ok_eqS ha ha]; simp
theorem ok_eqF {a b : Str} (ha : PyData.canLay0 (.str a) = true) (hb : PyData.canLay0 (.str b) = true) (h : (a == b) = false) : Ok (eqD (.str a) (.str b) M) Q ↔ Q (.bl false) M := by rw [ok_eqS ha hb, h]
theorem ok_neT {a : Str} (ha : PyData.canLay0 (.str a) = true) : Ok (neD (.str a) (.str a) M) Q ↔ Q (.bl false) M := by rw [ok_neS ha ha]; simp
theorem ok_neF {a b : Str} (ha : PyData.canLay0 (.str a) = true) (hb : PyData.canLay0 (.str b) = true) (h : (a == b) = false) : Ok (neD (.str a) (.str b) M) Q ↔ Q (.bl true) M := by rw [ok_neS ha hb, h]; rfl
theorem len_lst {n : Nat} {xs : List D} (h : M[n]? = some (.lst xs)) : fLen [.obj n] M = some (.int (xs.length : Nat), M) := by simp [fLen, asSeq, asList, h]
theorem ok_len_lst {n : Nat} {xs : List D} (h : M[n]? = some (.lst xs)) : Ok (fLen [.obj n] M) Q ↔ Q (.int (xs.length : Nat)) M := by rw [len_lst h, ok_some]
theorem at_set {n : Nat} {o o' : MO} (h : M[n]? = some o) : (M.set n o')[n]? = some o' := by rw [List.getElem?_set_self (List.getElem?_eq_some_iff.mp h).1]
theorem lt_at {n : Nat} {o : MO} (h : M[n]? = some o) : n < M.length := (List.getElem?_eq_some_iff.mp h).1
theorem guarded_nil' {M : Mem} : Guarded M [] := fun p hp => nomatch hp
end Mir
namespace Run
open PySem Mir L2
/-! what stood there stands -/
structure Pe (M M' : Mem) : Prop where
  len : M.length ≤ M'.length
  old : ∀ i, i < M.length → M'[i]? = M[i]?
theorem Pe.refl {M} : Pe M M := ⟨Nat.le_refl _, fun _ _ => rfl⟩
theorem Pe.trans {M M1 M2} (a : Pe M M1) (b : Pe M1 M2) : Pe M M2 := ⟨Nat.le_trans a.len b.len, fun i h => (b.old i (Nat.lt_of_lt_of_le h a.len)).trans (a.old i h)⟩
theorem Pe.app {M : Mem} {l : Mem} : Pe M (M ++ l) := ⟨by simp, fun i h => List.getElem?_append_left h⟩
theorem Pe.at {M M' : Mem} {i : Nat} {o : MO} (p : Pe M M') (h : M[i]? = some o) : M'[i]? = some o := (p.old i (List.getElem?_eq_some_iff.mp h).1).trans h
/-- what stood there stands, but some -/
structure Fr (S : List Nat) (M M' : Mem) : Prop where
  len : M.length ≤ M'.length
  old : ∀ i, i < M.length → i ∉ S → M'[i]? = M[i]?
theorem Fr.refl {S M} : Fr S M M := ⟨Nat.le_refl _, fun _ _ _ => rfl⟩
theorem Fr.trans {S M M1 M2} (a : Fr S M M1) (b : Fr S M1 M2) : Fr S M M2 := ⟨Nat.le_trans a.len b.len, fun i h n => (b.old i (Nat.lt_of_lt_of_le h a.len) n).trans (a.old i h n)⟩
theorem Fr.at {S M M' i o} (e : Fr S M M') (h : M[i]? = some o) (n : i ∉ S) : M'[i]? = some o := (e.old i (List.getElem?_eq_some_iff.mp h).1 n).trans h
theorem Fr.mono {S T M M'} (a : Fr S M M') (h : ∀ i ∈ S, i ∈ T ∨ M.length ≤ i) : Fr T M M' := ⟨a.len, fun i hi n => a.old i hi fun m => (h i m).elim n fun z => absurd hi (by omega)⟩
theorem Fr.pe {S M M'} (a : Fr S M M') (h : ∀ i ∈ S, M.length ≤ i) : Pe M M' := ⟨a.len, fun i hi => a.old i hi fun m => absurd hi (by have := h i m; omega)⟩
theorem Fr.set {S M n o} (h : n ∈ S) : Fr S M (M.set n o) := ⟨by simp, fun i _ m => by rw [List.getElem?_set_ne (by rintro rfl; exact m h)]⟩
theorem ok_pick {M : Mem} {n : Nat} {xs : List D} {v : Int} {Q : D → Mem → Prop} (h : M[n]? = some (.lst xs)) (h0 : 0 ≤ v) (h1 : v < xs.length) (q : ∀ d ∈ xs, Q d M) : Ok (ixD (.obj n) (.int v) M) Q := by
  have hv : v.toNat < xs.length := by omega
  exact (ok_ixL h h0 h1 (List.getElem?_eq_getElem hv)).mpr (q _ (List.getElem_mem hv))
theorem toInts_map (ns : List Int) : toInts (ns.map D.int) = some ns := by
  induction ns with
  | nil => rfl
  | cons x r ih => simp only [List.map_cons, toInts, ih, Option.map_some]
/-! stores -/
/-! signs -/
def sgn (c : Nat) : Str := ⟨#[c]⟩
theorem s_n : (("n" : Str)) = sgn 110 := by decide +kernel
theorem s_w : (("w" : Str)) = sgn 119 := by decide +kernel
theorem s_s : (("s" : Str)) = sgn 115 := by decide +kernel
def parts : List (Str × Str) := [("number", "n"), ("plus", "ww"), ("minus", "ww"), ("times", "ww"), ("less", "ww"), ("pick", "www"), ("share", "ww"), ("read", "wn"), ("write", "wnw"), ("keep", "ws"), ("fetch", "s")]
theorem sign_of {w s : Str} (h : (w, s) ∈ parts) : s.cps.toList.all (fun c => c == 110 || c == 119 || c == 115) = true ∧ s.cps.toList.length ≤ 3 := by
  simp only [parts, List.mem_cons, List.not_mem_nil, or_false, Prod.mk.injEq] at h
  rcases h with ⟨rfl, rfl⟩ | ⟨rfl, rfl⟩ | ⟨rfl, rfl⟩ | ⟨rfl, rfl⟩ | ⟨rfl, rfl⟩ | ⟨rfl, rfl⟩ | ⟨rfl, rfl⟩ | ⟨rfl, rfl⟩ | ⟨rfl, rfl⟩ | ⟨rfl, rfl⟩ | ⟨rfl, rfl⟩ <;> decide +kernel
end Run

set_option Elab.async false
set_option linter.all false
set_option maxRecDepth 100000
set_option maxHeartbeats 4000000
namespace Mir
open PySem L2
variable {δ : DSt} {M : Mem} {mr : mA}
theorem ok_Enum {QI : MI → Mem → Prop} : Ok (mEnumerate mr δ M) QI ↔ Ok (mr δ M) fun ds M1 => ∃ x, ds = [x] ∧ ∃ i1, itAny M1 x = some i1 ∧ QI ⟨enumD i1.items, i1.guard⟩ M1 := by
  unfold mEnumerate
  rw [ok_bind]
  constructor
  · rintro ⟨ds, M1, e, h⟩
    refine ⟨ds, M1, e, ?_⟩
    dsimp only at h
    split at h
    · rename_i x
      cases e1 : itAny M1 x with
      | none => rw [e1] at h; exact absurd h (by rw [Option.map_none, ok_none]; exact id)
      | some i1 =>
        rw [e1] at h
        simp only [Option.map_some] at h
        exact ⟨x, rfl, i1, e1, ok_some.mp h⟩
    · exact absurd h (by rw [ok_none]; exact id)
  · rintro ⟨ds, M1, e, x, rfl, i1, e1, q⟩
    refine ⟨[x], M1, e, ?_⟩
    dsimp only
    rw [e1]
    exact ok_some.mpr q
theorem gm2 {i j : Nat} {a b : D} : gMany [i, j] (.tup [a, b]) δ = some ((δ.set i (some a)).set j (some b)) := rfl
theorem gm3 {i j k : Nat} {a b c : D} : gMany [i, j, k] (.tup [a, b, c]) δ = some (((δ.set i (some a)).set j (some b)).set k (some c)) := rfl
theorem gm4 {i j k l : Nat} {a b c d : D} : gMany [i, j, k, l] (.tup [a, b, c, d]) δ = some ((((δ.set i (some a)).set j (some b)).set k (some c)).set l (some d)) := rfl
theorem gm5 {i j k l m : Nat} {a b c d e : D} : gMany [i, j, k, l, m] (.tup [a, b, c, d, e]) δ = some (((((δ.set i (some a)).set j (some b)).set k (some c)).set l (some d)).set m (some e)) := rfl
theorem exL {P : D → Prop} {a : D} : (∃ x, [a] = [x] ∧ P x) ↔ P a := ⟨fun ⟨c, e, p⟩ => by cases e; exact p, fun p => ⟨a, rfl, p⟩⟩
theorem seq_cut {m1 m2 : mS} {QS : Fl → Mem → Prop} (h : ∀ K : Fl → Mem → Prop, K = (fun f M1 => match f with | .nx δ' => Ok (m2 δ' M1) QS | .rt d => QS (.rt d) M1 | .bk d => QS (.bk d) M1 | .ct d => QS (.ct d) M1) → Ok (m1 δ M) K) : Ok (mSeq m1 m2 δ M) QS := ok_Seq.mpr (h _ rfl)
theorem seq_mid {m1 m2 : mS} {QS : Fl → Mem → Prop} {Q0 : Fl → Mem → Prop} (h1 : ∀ K : Fl → Mem → Prop, (∀ f M', Q0 f M' → K f M') → Ok (m1 δ M) K) (h2 : ∀ f M', Q0 f M' → match f with | .nx δ' => Ok (m2 δ' M') QS | .rt d => QS (.rt d) M' | .bk d => QS (.bk d) M' | .ct d => QS (.ct d) M') : Ok (mSeq m1 m2 δ M) QS := ok_Seq.mpr ((h1 Q0 fun _ _ h => h).imp h2)
theorem ok_Yes {QT : Bool → Mem → Prop} : Ok (mYes δ M) QT ↔ QT true M := ok_some
theorem enum_map {α : Type} {f : α → D} {l : List α} {i : Nat} {d : D} (h : (enumD (l.map f))[i]? = some d) : ∃ x, l[i]? = some x ∧ d = .tup [.int (i : Nat), f x] := by
  unfold enumD at h
  rw [List.getElem?_mapIdx, List.getElem?_map] at h
  cases e : l[i]? with
  | none => rw [e] at h; cases h
  | some x => rw [e] at h; cases h; exact ⟨x, rfl, rfl⟩
theorem len_enum {l : List D} : (enumD l).length = l.length := by unfold enumD; simp
end Mir
namespace Run
open PySem Mir L2
def flt (d : Dd) (r : RS) : Bool := match d with | .op .share a b => r.v b == 0 | _ => false
end Run

set_option Elab.async false
set_option linter.all false
set_option maxRecDepth 100000
set_option maxHeartbeats 4000000
namespace Run
open PySem Mir L2
theorem ok_Gen {k0 : Bool} {mi : mI} {g : mG} {tt : mT} {te : mE} {vs : List Nat} {δ : DSt} {M : Mem} {Q : D → Mem → Prop} : Ok (mGen k0 mi g tt te vs δ M) Q ↔ Ok (mi δ M) fun it M1 => Ok (genM k0 it.guard g tt te (wipeD δ vs) it.items M1) fun b M2 => Q (.bl b) M2 := by
  unfold mGen
  rw [ok_bind]
  have key : ∀ (o : Option (Bool × Mem)), Ok (o.map fun q => (D.bl q.1, q.2)) Q ↔ Ok o fun b M2 => Q (.bl b) M2 := fun o => by
    cases o with
    | none =>
      constructor
      · rintro ⟨_, _, h, _⟩; cases h
      · rintro ⟨_, _, h, _⟩; cases h
    | some q => rw [Option.map_some, ok_some, ok_some]
  constructor
  · exact fun h => h.imp fun it M1 h => (key _).mp h
  · exact fun h => h.imp fun it M1 h => (key _).mpr h
section
variable {δ : DSt} {M : Mem} {me : mE} {ml mh : mO} {Q : D → Mem → Prop}
theorem ok_Sl2 : Ok (mSl2 me ml mh δ M) Q ↔ Ok (me δ M) fun x M1 => Ok (ml δ M1) fun l M2 => Ok (mh δ M2) fun h M3 => Ok (slD2 x l h M3) Q := by
  unfold mSl2; rw [ok_bind]; simp only [ok_bind]
theorem ok_slT {xs : List D} {lo hi : Option Int} : Ok (slD2 (.tup xs) lo hi M) Q ↔ Q (.tup (cutD xs lo hi)) M := ok_some
theorem ok_Rev : Ok (mRev me δ M) Q ↔ Ok (me δ M) fun x M1 => Ok (revD x M1) Q := by
  unfold mRev; rw [ok_bind]
theorem ok_revT {xs : List D} : Ok (revD (.tup xs) M) Q ↔ Q (.tup xs.reverse) M := ok_some
theorem ok_isB {a b : Bool} : Ok (isBD false (.bl a) (.bl b) M) Q ↔ Q (.bl (a == b)) M := ok_some
theorem ok_isnotB {a b : Bool} : Ok (isBD true (.bl a) (.bl b) M) Q ↔ Q (.bl (!(a == b))) M := ok_some
theorem cut_take {xs : List D} {n : Nat} : cutD xs none (some (n : Int)) = xs.take n := by
  unfold cutD
  rw [HT.sIx_none, HT.sIx_nat]
  simp only [List.drop_zero, Nat.sub_zero]
  by_cases h : n ≤ xs.length
  · rw [Nat.min_eq_left h]
  · rw [Nat.min_eq_right (by omega), List.take_of_length_le (Nat.le_refl _), List.take_of_length_le (by omega)]
theorem cut_drop {xs : List D} {n : Nat} : cutD xs (some (n : Int)) none = xs.drop n := by
  unfold cutD
  rw [HT.sIx_none, HT.sIx_nat]
  by_cases h : n ≤ xs.length
  · rw [Nat.min_eq_left h, List.take_of_length_le (by simp)]
  · rw [Nat.min_eq_right (by omega), List.take_of_length_le (by simp), List.drop_of_length_le (Nat.le_refl _), List.drop_of_length_le (by omega)]
end
end Run

set_option Elab.async false
set_option linter.all false
set_option maxRecDepth 100000
set_option maxHeartbeats 4000000
namespace Lk77
open PySem Mir
def cs_KINDS : List Str := ["number", "plus", "minus", "times", "less", "pick", "share", "read", "write", "keep", "fetch"]
def c_KINDS : D := .tup (cs_KINDS.map D.str)
def c_PART : D := .int 1000000000000000000000000000000000000000000000000000000000000
def f_figures__0 : List D → Mem → Option (D × Mem) := fun _ _ => none
noncomputable def m_figures__1 : mS := (mSeq (mIf (mB (mBin ltD (mVar 0) (mC (.int 0)))) (mRet (mBin addD (mC (.str "-")) (mCall f_figures__0 (mCons (mNeg (mVar 0)) mNil)))) mSkip) (mSeq (mAsg 1 (mLst mNil)) (mSeq (whileM (mB (mBin geD (mVar 0) (mC c_PART))) (mSeq (mAsgG mNo (gMany [0, 2])) (mExpr (mMethL fAppend (mVar 1) (mCons mNo mNil)))) 1000000) (mSeq (mExpr (mMethL fAppend (mVar 1) (mCons (mCall fStrA (mCons (mVar 0) mNil)) mNil))) (mRet (mBin fJoin (mC (.str "")) (mRev (mVar 1))))))))
noncomputable def f_figures__1 : List D → Mem → Option (D × Mem) := fnM 3 m_figures__1
noncomputable def m_figures : mS := (mSeq (mIf (mB (mBin ltD (mVar 0) (mC (.int 0)))) (mRet (mBin addD (mC (.str "-")) (mCall f_figures__1 (mCons (mNeg (mVar 0)) mNil)))) mSkip) (mSeq (mAsg 1 (mLst mNil)) (mSeq (whileM (mB (mBin geD (mVar 0) (mC c_PART))) (mSeq (mAsgG mNo (gMany [0, 2])) (mExpr (mMethL fAppend (mVar 1) (mCons mNo mNil)))) 1000000) (mSeq (mExpr (mMethL fAppend (mVar 1) (mCons (mCall fStrA (mCons (mVar 0) mNil)) mNil))) (mRet (mBin fJoin (mC (.str "")) (mRev (mVar 1))))))))
noncomputable def f_figures : List D → Mem → Option (D × Mem) := fnM 3 m_figures
noncomputable def m_row_of : mS := (mRet (mBin fJoin (mC (.str " ")) (mBin addD (mCall fList (mCons (mVar 0) mNil)) (mLc (mIter (mVar 1)) (gOne 2) mYes (mCall f_figures (mCons (mVar 2) mNil)) [2]))))
noncomputable def f_row_of : List D → Mem → Option (D × Mem) := fnM 3 m_row_of
noncomputable def m_show : mS := (mSeq (mAsgG (mVar 0) (gMany [2, 3])) (mSeq (mAsgG (mVar 1) (gMany [4, 5, 6])) (mSeq (mAsg 7 (mLc (mIter (mVar 2)) (gMany [8, 9]) mYes (mCall f_row_of (mCons (mTup (mCons (mC (.str "unit")) (mCons (mVar 8) mNil))) (mCons (mTup (mCons (mVar 9) mNil)) mNil))) [8, 9])) (mSeq (mAug 7 (mLc (mZip (mCons (mC c_KINDS) (mCons (mVar 3) mNil))) (gNest 10 [8, 11, 12]) mYes (mCall f_row_of (mCons (mTup (mCons (mC (.str "work")) (mCons (mVar 10) (mCons (mVar 8) mNil)))) (mCons (mTup (mCons (mVar 11) (mCons (mVar 12) mNil))) mNil))) [10, 8, 11, 12])) (mSeq (mExpr (mMethL fAppend (mVar 7) (mCons (mCall f_row_of (mCons (mTup (mCons (mC (.str "givens")) mNil)) (mCons (mTup (mCons (mVar 4) mNil)) mNil))) mNil))) (mSeq (mAug 7 (mLc (mIter (mVar 5)) (gOne 13) mYes (mCall f_row_of (mCons (mSl2 (mVar 13) mNoP (mPart (mC (.int 1)))) (mCons (mSl2 (mVar 13) (mPart (mC (.int 1))) mNoP) mNil))) [13])) (mSeq (mExpr (mMethL fAppend (mVar 7) (mCons (mCall f_row_of (mCons (mTup (mCons (mC (.str "outs")) mNil)) (mCons (mVar 6) mNil))) mNil))) (mRet (mBin fJoin (mC (.str "\n")) (mVar 7))))))))))
noncomputable def f_show : List D → Mem → Option (D × Mem) := fnM 14 m_show
noncomputable def m__law_deck : mS := (mSeq (mAsg 1 (mCall fList (mCons (mSl (mVar 0) mNoP (mPart (mC (.int 63)))) mNil))) (mRet (mDisp (mPCons (mC (.str "cells")) (mVar 1) (mPCons (mC (.str "sum")) (mBin addD (mBin modD (mCall fSum (mCons (mVar 1) mNil)) (mC (.int 2147483629))) (mCall fLen (mCons (mVar 1) mNil))) (mPCons (mC (.str "count")) (mC (.int 0)) mPNil))))))
noncomputable def f__law_deck : List D → Mem → Option (D × Mem) := fnM 2 m__law_deck
noncomputable def m__law_mixed : mS := (mSeq (mAsg 2 (mBin modD (mBin addD (mBin addD (mBin mulD (mBin modD (mVar 0) (mC (.int 2147483647))) (mC (.int 48271))) (mBin mulD (mC (.int 69621)) (mVar 1))) (mC (.int 7919))) (mC (.int 2147483629)))) (mSeq (mAsg 2 (mBin modD (mBin mulD (mVar 2) (mVar 2)) (mC (.int 2147483587)))) (mSeq (mAsg 3 (mBin modD (mBin addD (mBin addD (mBin mulD (mVar 2) (mC (.int 39373))) (mBin mulD (mC (.int 16807)) (mVar 1))) (mC (.int 5))) (mC (.int 2147483579)))) (mRet (mBin addD (mBin fdivD (mVar 2) (mC (.int 64))) (mBin mulD (mC (.int 33554432)) (mBin fdivD (mVar 3) (mC (.int 64)))))))))
noncomputable def f__law_mixed : List D → Mem → Option (D × Mem) := fnM 4 m__law_mixed
noncomputable def m__law_draw : mS := (mSeq (mSet (mBin addD (mBin ixD (mVar 0) (mC (.str "count"))) (mC (.int 1))) (mVar 0) (mC (.str "count"))) (mSeq (mAsg 2 (mBin ixD (mVar 0) (mC (.str "cells")))) (mSeq (mAsg 3 (mBin ixD (mVar 0) (mC (.str "sum")))) (mSeq (mIf (mB (mBin neD (mVar 2) (mLst mNil))) (mSeq (mAsg 3 (mMethL fPopAt (mVar 2) (mCons (mC (.int 0)) mNil))) (mIf (mB (mBin geD (mVar 3) (mBin powD (mC (.int 10)) (mC (.int 18))))) (mSeq (mExpr (mMethL fInsert (mVar 2) (mCons (mC (.int 0)) (mCons (mBin fdivD (mVar 3) (mVar 1)) mNil)))) (mRet (mBin modD (mVar 3) (mVar 1)))) mSkip)) mSkip) (mRet (mBin modD (mCall f__law_mixed (mCons (mVar 3) (mCons (mBin ixD (mVar 0) (mC (.str "count"))) mNil))) (mVar 1)))))))
noncomputable def f__law_draw : List D → Mem → Option (D × Mem) := fnM 4 m__law_draw
noncomputable def m__law_signs : mS := (mSeq (mAsg 1 (mDisp (mPCons (mC (.str "number")) (mC (.str "n")) (mPCons (mC (.str "plus")) (mC (.str "ww")) (mPCons (mC (.str "minus")) (mC (.str "ww")) (mPCons (mC (.str "times")) (mC (.str "ww")) (mPCons (mC (.str "less")) (mC (.str "ww")) (mPCons (mC (.str "pick")) (mC (.str "www")) (mPCons (mC (.str "share")) (mC (.str "ww")) mPNil))))))))) (mSeq (mSet (mC (.str "wn")) (mVar 1) (mC (.str "read"))) (mSeq (mSet (mC (.str "wnw")) (mVar 1) (mC (.str "write"))) (mSeq (mSet (mC (.str "ws")) (mVar 1) (mC (.str "keep"))) (mSeq (mSet (mC (.str "s")) (mVar 1) (mC (.str "fetch"))) (mRet (mBin ixD (mVar 1) (mVar 0))))))))
noncomputable def f__law_signs : List D → Mem → Option (D × Mem) := fnM 2 m__law_signs
noncomputable def m__law_words : mS := (mRet (mLst (mCons (mC (.str "number")) (mCons (mC (.str "plus")) (mCons (mC (.str "minus")) (mCons (mC (.str "times")) (mCons (mC (.str "less")) (mCons (mC (.str "pick")) (mCons (mC (.str "share")) (mCons (mC (.str "read")) (mCons (mC (.str "write")) (mCons (mC (.str "keep")) (mCons (mC (.str "fetch")) mNil)))))))))))))
noncomputable def f__law_words : List D → Mem → Option (D × Mem) := fnM 0 m__law_words
noncomputable def m__law_number : mS := (mSeq (mAsg 1 (mCall f__law_draw (mCons (mVar 0) (mCons (mC (.int 8)) mNil)))) (mSeq (mIf (mB (mBin gtD (mVar 1) (mC (.int 5)))) (mRet (mBin subD (mCall f__law_draw (mCons (mVar 0) (mCons (mBin ixD (mLst (mCons (mC (.int 41)) (mCons (mBin addD (mBin mulD (mC (.int 2)) (mBin powD (mC (.int 10)) (mC (.int 6)))) (mC (.int 1))) mNil))) (mBin subD (mVar 1) (mC (.int 6)))) mNil))) (mBin ixD (mLst (mCons (mC (.int 20)) (mCons (mBin powD (mC (.int 10)) (mC (.int 6))) mNil))) (mBin subD (mVar 1) (mC (.int 6)))))) mSkip) (mRet (mBin ixD (mLst (mCons (mC (.int 0)) (mCons (mC (.int 1)) (mCons (mNeg (mC (.int 1))) (mCons (mC (.int 10)) (mCons (mBin powD (mC (.int 10)) (mC (.int 6))) (mCons (mBin subD (mC (.int 0)) (mBin powD (mC (.int 10)) (mC (.int 6)))) mNil))))))) (mVar 1)))))
noncomputable def f__law_number : List D → Mem → Option (D × Mem) := fnM 2 m__law_number
noncomputable def m__law_worth : mS := (mSeq (mIf (mB (mBin eqD (mCall f__law_draw (mCons (mVar 0) (mCons (mC (.int 2)) mNil))) (mC (.int 0)))) (mRet (mBin ixD (mVar 1) (mBin subD (mNeg (mC (.int 1))) (mCall f__law_draw (mCons (mVar 0) (mCons (mCall fMin2 (mCons (mC (.int 3)) (mCons (mCall fLen (mCons (mVar 1) mNil)) mNil))) mNil)))))) mSkip) (mRet (mBin ixD (mVar 1) (mCall f__law_draw (mCons (mVar 0) (mCons (mCall fLen (mCons (mVar 1) mNil)) mNil))))))
noncomputable def f__law_worth : List D → Mem → Option (D × Mem) := fnM 2 m__law_worth
noncomputable def m__law_deed : mS := (mSeq (mAsg 3 (mBin ixD (mVar 1) (mCall f__law_draw (mCons (mVar 0) (mCons (mCall fLen (mCons (mVar 1) mNil)) mNil))))) (mSeq (mIf (mAnd (mB (mBin eqD (mVar 2) (mLst mNil))) (mB (mBin inE (mC (.str "w")) (mCall f__law_signs (mCons (mVar 3) mNil))))) (mAsg 3 (mC (.str "number"))) mSkip) (mSeq (mAsg 4 (mLst (mCons (mVar 3) mNil))) (mSeq (mFor (mIter (mCall f__law_signs (mCons (mVar 3) mNil))) (gOne 5) (mIf (mB (mBin eqD (mVar 5) (mC (.str "w")))) (mExpr (mMethL fAppend (mVar 4) (mCons (mCall f__law_worth (mCons (mVar 0) (mCons (mVar 2) mNil))) mNil))) (mIf (mB (mBin eqD (mVar 5) (mC (.str "n")))) (mExpr (mMethL fAppend (mVar 4) (mCons (mCall f__law_number (mCons (mVar 0) mNil)) mNil))) (mExpr (mMethL fAppend (mVar 4) (mCons (mCall f__law_draw (mCons (mVar 0) (mCons (mBin ixD (mLst (mCons (mC (.int 2)) (mCons (mC (.int 6)) (mCons (mBin powD (mC (.int 10)) (mC (.int 6))) mNil)))) (mCall f__law_draw (mCons (mVar 0) (mCons (mC (.int 3)) mNil)))) mNil))) mNil)))))) (mRet (mCall fTuple (mCons (mVar 4) mNil)))))))
noncomputable def f__law_deed : List D → Mem → Option (D × Mem) := fnM 6 m__law_deed
noncomputable def m__law_there : mS := (mSeq (mAsgG (mVar 0) (gMany [1, 2, 3])) (mRet (mBin addD (mCall fListRng (mCons (mVar 1) mNil)) (mLc (mEnumerate (mCons (mVar 2) mNil)) (gMany [4, 5]) (mB (mBin notInD (mBin ixD (mVar 5) (mC (.int 0))) (mTup (mCons (mC (.str "write")) (mCons (mC (.str "keep")) mNil))))) (mBin addD (mVar 1) (mVar 4)) [4, 5]))))
noncomputable def f__law_there : List D → Mem → Option (D × Mem) := fnM 6 m__law_there
noncomputable def m__law_menu : mS := (mSeq (mAsg 1 (mCall f__law_words mNil)) (mSeq (mIf (mB (mBin gtD (mCall fLen (mCons (mLc (mIter (mVar 0)) (gOne 2) (mB (mBin eqD (mBin ixD (mVar 2) (mC (.int 0))) (mC (.str "times")))) (mVar 2) [2]) mNil)) (mC (.int 5)))) (mExpr (mMethL fRemove (mVar 1) (mCons (mC (.str "times")) mNil))) mSkip) (mRet (mVar 1))))
noncomputable def f__law_menu : List D → Mem → Option (D × Mem) := fnM 3 m__law_menu
noncomputable def m__law_stretch : mS := (mSeq (mAsg 2 (mBin ixD (mLst (mCons (mCall f__law_draw (mCons (mVar 0) (mCons (mC (.int 4)) mNil))) (mCons (mCall f__law_draw (mCons (mVar 0) (mCons (mC (.int 7)) mNil))) mNil))) (mCall f__law_draw (mCons (mVar 0) (mCons (mC (.int 2)) mNil))))) (mSeq (mAsg 3 (mTup mNil)) (mSeq (mFor (mRng1 (mCons (mVar 1) mNil)) (gOne 4) (mAsg 3 (mBin addD (mVar 3) (mTup (mCons (mCall f__law_deed (mCons (mVar 0) (mCons (mCall f__law_menu (mCons (mVar 3) mNil)) (mCons (mCall f__law_there (mCons (mTup (mCons (mVar 2) (mCons (mVar 3) (mCons (mTup mNil) mNil)))) mNil)) mNil)))) mNil))))) (mSeq (mAsg 5 (mCall f__law_there (mCons (mTup (mCons (mVar 2) (mCons (mVar 3) (mCons (mTup mNil) mNil)))) mNil))) (mSeq (mAsg 6 (mLc (mRng1 (mCons (mBin mulD (mCall f__law_draw (mCons (mVar 0) (mCons (mC (.int 7)) mNil))) (mCall fInt (mCons (mBin neD (mVar 5) (mLst mNil)) mNil))) mNil)) (gOne 4) mYes (mCall f__law_worth (mCons (mVar 0) (mCons (mVar 5) mNil))) [4])) (mRet (mTup (mCons (mVar 2) (mCons (mVar 3) (mCons (mCall fTuple (mCons (mVar 6) mNil)) mNil))))))))))
noncomputable def f__law_stretch : List D → Mem → Option (D × Mem) := fnM 7 m__law_stretch
noncomputable def m__law_unit_names : mS := (mSeq (mAsg 2 (mC (.str "abcdefghijklmnopqrstuvwxyz"))) (mSeq (mAsg 3 (mBin fJoin (mC (.str "")) (mLc (mRng1 (mCons (mC (.int 8)) mNil)) (gOne 12) mYes (mBin ixD (mVar 2) (mCall f__law_draw (mCons (mVar 0) (mCons (mC (.int 26)) mNil)))) [12]))) (mSeq (mAsg 4 (mBin addD (mC (.int 1)) (mCall f__law_draw (mCons (mVar 0) (mCons (mC (.int 8)) mNil))))) (mSeq (mAsg 5 (mCall f__law_draw (mCons (mVar 0) (mCons (mVar 4) mNil)))) (mSeq (mAsg 6 (mCall f__law_draw (mCons (mVar 0) (mCons (mC (.int 4)) mNil)))) (mSeq (mAsg 7 (mCall f__law_draw (mCons (mVar 0) (mCons (mC (.int 26)) mNil)))) (mSeq (mAsg 8 (mBin ixD (mLst (mCons (mC (.int 1)) (mCons (mC (.int 3)) (mCons (mC (.int 5)) (mCons (mC (.int 7)) mNil))))) (mCall f__law_draw (mCons (mVar 0) (mCons (mC (.int 4)) mNil))))) (mSeq (mIf (mB (mBin eqD (mVar 6) (mC (.int 0)))) (mRet (mLc (mRng1 (mCons (mVar 1) mNil)) (gOne 12) mYes (mSl2 (mVar 3) mNoP (mPart (mBin addD (mC (.int 1)) (mVar 12)))) [12])) mSkip) (mSeq (mIf (mB (mBin eqD (mVar 6) (mC (.int 1)))) (mSeq (mAsg 9 (mLst (mCons (mC (.str "unit")) (mCons (mC (.str "work")) (mCons (mC (.str "givens")) (mCons (mC (.str "outs")) (mCons (mC (.str "number")) (mCons (mC (.str "plus")) (mCons (mC (.str "laid")) (mCons (mC (.str "run")) (mCons (mC (.str "share")) mNil))))))))))) (mRet (mSl2 (mBin addD (mSl2 (mVar 9) (mPart (mBin modD (mVar 7) (mC (.int 9)))) mNoP) (mSl2 (mVar 9) mNoP (mPart (mBin modD (mVar 7) (mC (.int 9)))))) mNoP (mPart (mVar 1))))) mSkip) (mSeq (mAsg 10 (mSl2 (mVar 3) mNoP (mPart (mVar 5)))) (mSeq (mAsg 11 (mSl2 (mVar 3) (mPart (mBin addD (mVar 5) (mC (.int 1)))) (mPart (mVar 4)))) (mRet (mLc (mRng1 (mCons (mVar 1) mNil)) (gOne 12) mYes (mBin addD (mBin addD (mVar 10) (mBin ixD (mVar 2) (mBin modD (mBin addD (mVar 7) (mBin mulD (mVar 12) (mVar 8))) (mC (.int 26))))) (mVar 11)) [12])))))))))))))
noncomputable def f__law_unit_names : List D → Mem → Option (D × Mem) := fnM 13 m__law_unit_names
noncomputable def m__law_work : mS := (mSeq (mAsg 3 (mBin ixD (mVar 1) (mCall f__law_draw (mCons (mVar 0) (mCons (mCall fLen (mCons (mVar 1) mNil)) mNil))))) (mRet (mTup (mCons (mVar 3) (mCons (mBin addD (mC (.int 1)) (mCall f__law_draw (mCons (mVar 0) (mCons (mVar 2) mNil)))) (mCons (mBin addD (mC (.int 1)) (mCall f__law_draw (mCons (mVar 0) (mCons (mVar 2) mNil)))) mNil))))))
noncomputable def f__law_work : List D → Mem → Option (D × Mem) := fnM 4 m__law_work
noncomputable def m__law_machine : mS := (mSeq (mAsg 2 (mBin ixD (mLst (mCons (mBin addD (mC (.int 1)) (mCall f__law_draw (mCons (mVar 0) (mCons (mC (.int 3)) mNil)))) (mCons (mBin addD (mC (.int 1)) (mCall f__law_draw (mCons (mVar 0) (mCons (mC (.int 8)) mNil)))) mNil))) (mCall f__law_draw (mCons (mVar 0) (mCons (mC (.int 2)) mNil))))) (mSeq (mAsg 3 (mCall f__law_unit_names (mCons (mVar 0) (mCons (mVar 2) mNil)))) (mSeq (mAsg 4 (mCall fTuple (mCons (mLc (mIter (mVar 3)) (gOne 5) mYes (mTup (mCons (mVar 5) (mCons (mBin addD (mC (.int 1)) (mCall f__law_draw (mCons (mVar 0) (mCons (mC (.int 6)) mNil)))) mNil))) [5]) mNil))) (mRet (mTup (mCons (mVar 4) (mCons (mCall fTuple (mCons (mLc (mIter (mCall f__law_words mNil)) (gOne 6) mYes (mCall f__law_work (mCons (mVar 0) (mCons (mVar 3) (mCons (mVar 1) mNil)))) [6]) mNil)) mNil)))))))
noncomputable def f__law_machine : List D → Mem → Option (D × Mem) := fnM 7 m__law_machine
noncomputable def m__law_row : mS := (mRet (mBin fJoin (mC (.str " ")) (mLc (mIter (mVar 0)) (gOne 1) mYes (mCall fStrA (mCons (mVar 1) mNil)) [1])))
noncomputable def f__law_row : List D → Mem → Option (D × Mem) := fnM 2 m__law_row
noncomputable def m__law_rows : mS := (mSeq (mAsg 2 (mLc (mIter (mBin ixD (mVar 0) (mC (.int 0)))) (gOne 3) mYes (mCall f__law_row (mCons (mBin addD (mTup (mCons (mC (.str "unit")) mNil)) (mVar 3)) mNil)) [3])) (mSeq (mAsg 2 (mBin addD (mVar 2) (mLc (mZip (mCons (mCall f__law_words mNil) (mCons (mBin ixD (mVar 0) (mC (.int 1))) mNil))) (gMany [4, 5]) mYes (mCall f__law_row (mCons (mBin addD (mTup (mCons (mC (.str "work")) (mCons (mVar 4) mNil))) (mVar 5)) mNil)) [4, 5]))) (mSeq (mAsg 2 (mBin addD (mBin addD (mVar 2) (mLst (mCons (mCall f__law_row (mCons (mTup (mCons (mC (.str "givens")) (mCons (mBin ixD (mVar 1) (mC (.int 0))) mNil))) mNil)) mNil))) (mLc (mIter (mBin ixD (mVar 1) (mC (.int 1)))) (gOne 6) mYes (mCall f__law_row (mCons (mVar 6) mNil)) [6]))) (mRet (mBin addD (mVar 2) (mLst (mCons (mCall f__law_row (mCons (mBin addD (mTup (mCons (mC (.str "outs")) mNil)) (mBin ixD (mVar 1) (mC (.int 2)))) mNil)) mNil)))))))
noncomputable def f__law_rows : List D → Mem → Option (D × Mem) := fnM 7 m__law_rows
noncomputable def m_law : mS := (mSeq (mAsg 1 (mCall f__law_deck (mCons (mVar 0) mNil))) (mSeq (mAsg 2 (mLst (mCons (mCall f__law_machine (mCons (mVar 1) (mCons (mC (.int 6)) mNil))) (mCons (mCall f__law_machine (mCons (mVar 1) (mCons (mC (.int 6)) mNil))) mNil)))) (mSeq (mAsg 3 (mLc (mRng1 (mCons (mC (.int 2)) mNil)) (gOne 8) mYes (mBin ixD (mLst (mCons (mCall f__law_draw (mCons (mVar 1) (mCons (mC (.int 9)) mNil))) (mCons (mCall f__law_draw (mCons (mVar 1) (mCons (mC (.int 25)) mNil))) mNil))) (mCall f__law_draw (mCons (mVar 1) (mCons (mC (.int 2)) mNil)))) [8])) (mSeq (mAsg 4 (mLc (mIter (mVar 3)) (gOne 9) mYes (mCall f__law_stretch (mCons (mVar 1) (mCons (mVar 9) mNil))) [9])) (mSeq (mFor (mIter (mLst (mCons (mTup (mCons (mC (.int 0)) (mCons (mC (.int 0)) mNil))) (mCons (mTup (mCons (mC (.int 1)) (mCons (mC (.int 0)) mNil))) (mCons (mTup (mCons (mC (.int 0)) (mCons (mC (.int 1)) mNil))) (mCons (mTup (mCons (mC (.int 1)) (mCons (mC (.int 1)) mNil))) (mCons (mTup (mCons (mC (.int 0)) (mCons (mC (.int 0)) mNil))) mNil))))))) (gMany [5, 6]) (mSeq (mAsg 7 (mCall f_show (mCons (mBin ixD (mVar 2) (mVar 5)) (mCons (mBin ixD (mVar 4) (mVar 6)) mNil)))) (mIf (mOr (mNot (mTru (mCall fIsi (mCons (mVar 7) (mCons (mC (.ty "str")) mNil))))) (mB (mBin neD (mVar 7) (mBin fJoin (mC (.str "\n")) (mCall f__law_rows (mCons (mBin ixD (mVar 2) (mVar 5)) (mCons (mBin ixD (mVar 4) (mVar 6)) mNil))))))) (mRet (mC (.bl false))) mSkip))) (mRet (mC (.bl true))))))))
noncomputable def f_law : List D → Mem → Option (D × Mem) := fnM 10 m_law
end Lk77

set_option Elab.async false
set_option linter.all false
set_option maxRecDepth 100000
set_option maxHeartbeats 4000000
namespace Lk77
open PySem Mir L2 Run
local macro_rules | `(tactic| walk_at "ok") => `(tactic| (try simp only [ok_Zip, ok_IxG, ok_Enum, ok_Yes, ok_Gen, ok_Sl2, ok_slT, ok_Rev, ok_revT, ok_isB, ok_isnotB, wipeD, gOne, ok_Seq, ok_Sl, ok_NoP, ok_Part, ok_DNew, ok_addT, ok_bin, ok_C, ok_B, ok_Tru, ok_And, ok_Or, ok_Not, ok_Neg, ok_AndV, ok_OrV, ok_NotV, ok_IfE, ok_Nil, ok_Cons, ok_Tup, ok_Lst, ok_Call, ok_Skip, ok_If, ok_Ret, ok_Expr, ok_Asg, ok_AsgM, ok_Set, ok_MethL, ok_Get2, ok_For, ok_Lc, ok_Iter, ok_Keys, ok_Rng1, ok_LockS, ok_LockE, ok_some, ok_add, ok_sub, ok_mul, ok_mod, ok_fdiv, ok_pow, ok_lt, ok_le, ok_gt, ok_ge, ok_eqI, ok_neI, exB, exI, exL1, exS, tru_bl, ok_intint, ok_intbool, ok_tuptup, ok_len_tup, ok_int_bl, iteTrue, iteFalse, ix_tup0, ix_tup1, ix_tup2, Bool.not_true, Bool.not_false, if_true, if_false, Bool.false_eq_true, ne_eq, not_false_eq_true, true_and, and_true, ok_v0, ok_v1, ok_v2, ok_v3, ok_v4, ok_v5, ok_v6, ok_v7, ok_v8, ok_v9, ok_v10, ok_v11, ok_v12, ok_v13, ok_v14, ok_v15, ok_v16, ok_v17, ok_v18, ok_v19, st_0, st_1, st_2, st_3, st_4, st_5, st_6, st_7, st_8, st_9, st_10, st_11, st_12, st_13, st_14, st_15, st_16, st_17, st_18, st_19, List.map_cons, List.map_nil, List.length_cons, List.length_nil, List.cons_append, List.nil_append, List.replicate_succ, List.replicate_zero, List.replicate, Nat.reduceAdd, Nat.reduceSub, Nat.zero_add]))
local macro_rules | `(tactic| walk_at "okw") => `(tactic| (try simp (disch := decide +kernel) only [↓gm2, ↓gm3, ↓gm4, ↓gm5, ↓exL, itAny_tup, setAll, ↓ok_eqT, ↓ok_eqF, ↓ok_neT, ↓ok_neF, ↓ifp_t, ↓ifp_f, ↓ok_Zip, ↓ok_IxG, ↓ok_Enum, ↓ok_Yes, ↓ok_Gen, ↓ok_Sl2, ↓ok_slT, ↓ok_Rev, ↓ok_revT, ↓ok_isB, ↓ok_isnotB, wipeD, gOne, ↓ok_Seq, ↓ok_Sl, ↓ok_NoP, ↓ok_Part, ↓ok_DNew, ↓ok_addT, ↓ok_bin, ↓ok_C, ↓ok_B, ↓ok_Tru, ↓ok_And', ↓ok_Or', ↓ok_Not, ↓ok_Neg, ↓ok_AndV', ↓ok_OrV', ↓ok_NotV, ↓ok_IfE', ↓ok_Nil, ↓ok_Cons, ↓ok_Tup, ↓ok_Lst, ↓ok_Call, ↓ok_Skip, ↓ok_If', ↓ok_Ret, ↓ok_Expr, ↓ok_Asg, ↓ok_AsgM, ↓ok_Set, ↓ok_MethL, ↓ok_Get2, ↓ok_For, ↓ok_Lc, ↓ok_Iter, ↓ok_Keys, ↓ok_Rng1, ↓ok_LockS, ↓ok_LockE, ↓ok_some, ↓ok_add, ↓ok_sub, ↓ok_mul, ↓ok_mod, ↓ok_fdiv, ↓ok_pow, ↓ok_lt, ↓ok_le, ↓ok_gt, ↓ok_ge, ↓ok_eqI, ↓ok_neI, ↓exB, ↓exI, ↓exL1, ↓exS, ↓tru_bl, ↓ok_intint, ↓ok_intbool, ↓ok_tuptup, ↓ok_len_tup, ↓ok_int_bl, ↓iteTrue, ↓iteFalse, ↓ix_tup0, ↓ix_tup1, ↓ix_tup2, Bool.not_true, Bool.not_false, if_true, if_false, Bool.false_eq_true, ne_eq, not_false_eq_true, true_and, and_true, ↓ok_v0, ↓ok_v1, ↓ok_v2, ↓ok_v3, ↓ok_v4, ↓ok_v5, ↓ok_v6, ↓ok_v7, ↓ok_v8, ↓ok_v9, ↓ok_v10, ↓ok_v11, ↓ok_v12, ↓ok_v13, ↓ok_v14, ↓ok_v15, ↓ok_v16, ↓ok_v17, ↓ok_v18, ↓ok_v19, st_0, st_1, st_2, st_3, st_4, st_5, st_6, st_7, st_8, st_9, st_10, st_11, st_12, st_13, st_14, st_15, st_16, st_17, st_18, st_19, List.map_cons, List.map_nil, List.length_cons, List.length_nil, List.cons_append, List.nil_append, List.replicate_succ, List.replicate_zero, List.replicate, Nat.reduceAdd, Nat.reduceSub, Nat.zero_add]))
local macro_rules | `(tactic| walk_at "slots") => `(tactic| (simp only [List.map_cons, List.map_nil, List.length_cons, List.length_nil, Nat.reduceAdd, Nat.reduceSub, List.replicate, List.cons_append, List.nil_append]))
section
/-! the deck -/
def wellD (c : Nat) (t r : Int) : List (Key × D) := [(.inr "cells", .obj c), (.inr "sum", .int r), (.inr "count", .int t)]
theorem w_cells {c t r} : valD (wellD c t r) (.inr "cells") = some (.obj c) := by kernel_rfl
theorem w_turn {c t r} : valD (wellD c t r) (.inr "count") = some (.int t) := by kernel_rfl
theorem w_rest {c t r} : valD (wellD c t r) (.inr "sum") = some (.int r) := by kernel_rfl
theorem w_put {c t r u} : putD (wellD c t r) (.inr "count") (.int u) = wellD c u r := by kernel_rfl
structure Well (M : Mem) (k c : Nat) : Prop where
  ex : ∃ (cells : List Int) (t r : Int), M[k]? = some (.dic (wellD c t r)) ∧ M[c]? = some (.lst (cells.map .int)) ∧ cells.length ≤ 63
/-- what stood there stands, but the well -/
structure Ext (k c : Nat) (M M' : Mem) : Prop where
  len : M.length ≤ M'.length
  old : ∀ i, i < M.length → i ≠ k → i ≠ c → M'[i]? = M[i]?
theorem Ext.refl {k c M} : Ext k c M M := ⟨Nat.le_refl _, fun _ _ _ _ => rfl⟩
theorem Ext.trans {k c M M1 M2} (a : Ext k c M M1) (b : Ext k c M1 M2) : Ext k c M M2 := ⟨Nat.le_trans a.len b.len, fun i h1 h2 h3 => (b.old i (Nat.lt_of_lt_of_le h1 a.len) h2 h3).trans (a.old i h1 h2 h3)⟩
theorem Ext.at {k c M M' i o} (e : Ext k c M M') (h : M[i]? = some o) (h1 : i ≠ k) (h2 : i ≠ c) : M'[i]? = some o := (e.old i (List.getElem?_eq_some_iff.mp h).1 h1 h2).trans h
theorem _root_.Run.Pe.ext {k c M M'} (p : Pe M M') : Ext k c M M' := ⟨p.len, fun i h _ _ => p.old i h⟩
theorem Well.pe {M M' : Mem} {k c : Nat} (W : Well M k c) (p : Pe M M') : Well M' k c := by
  obtain ⟨cells, t, r, h1, h2, h3⟩ := W.ex
  exact ⟨cells, t, r, p.at h1, p.at h2, h3⟩
theorem Well.lt {M : Mem} {k c : Nat} (W : Well M k c) : k < M.length ∧ c < M.length := by
  obtain ⟨cells, t, r, h1, h2, h3⟩ := W.ex
  exact ⟨(List.getElem?_eq_some_iff.mp h1).1, (List.getElem?_eq_some_iff.mp h2).1⟩
theorem mixed_ok {M : Mem} {x y : Int} : Ok (f__law_mixed [.int x, .int y] M) fun d M' => (∃ v, d = .int v) ∧ M' = M := by
  unfold f__law_mixed; rw [ok_fn]; unfold m__law_mixed
  walk_at "ok"
  have b1 : ∀ x : Int, 0 ≤ x.fmod 2147483629 ∧ x.fmod 2147483629 < 2147483629 := fun x => by
    rw [fmod_pos (by decide)]; exact ⟨Int.emod_nonneg _ (by decide), Int.emod_lt_of_pos _ (by decide)⟩
  have := b1 (x.fmod 2147483647 * 48271 + 69621 * y + 7919)
  exact ⟨by decide, mul_right (by decide) (by decide), mul_left (by decide) (by decide), by decide, mul_left (by omega) (by omega), by decide, mul_right (by decide) (by decide), mul_left (by decide) (by decide), by decide, fdiv_small (by decide) (by decide), fdiv_small (by decide) (by decide), mul_left (by decide) (by decide), _, rfl⟩
theorem draw_ok {M : Mem} {many : Int} {k c : Nat} (W : Well M k c) (h0 : 0 < many) (h1 : many < 1073741824) : Ok (f__law_draw [.obj k, .int many] M) fun d M' => (∃ v, d = .int v ∧ 0 ≤ v ∧ v < many) ∧ Well M' k c ∧ Ext k c M M' := by
  obtain ⟨cells, t, r, hk, hc, hl⟩ := W.ex
  have hkc : k ≠ c := by rintro rfl; rw [hk] at hc; cases hc
  have hkl : k < M.length := (List.getElem?_eq_some_iff.mp hk).1
  have hcl : c < M.length := (List.getElem?_eq_some_iff.mp hc).1
  unfold f__law_draw; rw [ok_fn]; unfold m__law_draw
  walk_at "ok"
  rw [ok_ixD hk rfl w_turn]
  walk_at "ok"
  refine ⟨M.set k (.dic (wellD c (t + 1) r)), by
    unfold setI
    rw [show asLst M (.obj k) = none by simp only [asLst, hk], asDic_of hk]
    simp only [keyD, Option.bind_some]
    rw [if_pos (show (wellD c t r).length < sizeLine by show 3 < sizeLine; decide), w_put], ?_⟩
  generalize hM1 : M.set k (.dic (wellD c (t + 1) r)) = M1
  have hk1 : M1[k]? = some (.dic (wellD c (t + 1) r)) := by rw [← hM1]; simp [hkl]
  have hc1 : M1[c]? = some (.lst (cells.map .int)) := by rw [← hM1, List.getElem?_set_ne hkc]; exact hc
  have e1 : Ext k c M M1 := ⟨by rw [← hM1]; simp, fun i _ h2 h3 => by rw [← hM1, List.getElem?_set_ne (Ne.symm h2)]⟩
  have l1 : M1.length = M.length := by rw [← hM1]; simp
  walk_at "ok"
  rw [ok_ixD hk1 rfl w_cells, ok_ixD hk1 rfl w_rest]
  walk_at "ok"
  refine ⟨by decide, ?_⟩
  generalize hM2 : M1 ++ [MO.lst []] = M2
  have hk2 : M2[k]? = some (.dic (wellD c (t + 1) r)) := by rw [← hM2, List.getElem?_append_left (by omega)]; exact hk1
  have hc2 : M2[c]? = some (.lst (cells.map .int)) := by rw [← hM2, List.getElem?_append_left (by omega)]; exact hc1
  have hn2 : M2[M1.length]? = some (.lst (([] : List Int).map .int)) := by rw [← hM2]; simp
  have e2 : Ext k c M M2 := e1.trans ⟨by rw [← hM2]; simp, fun i hi _ _ => by rw [← hM2, List.getElem?_append_left hi]⟩
  have l2 : M2.length = M.length + 1 := by rw [← hM2]; simp [l1]
  rw [show neD (.obj c) (.obj M1.length) M2 = some (.bl (!(PyData.eqvAll (cells.map .int) [])), M2) by unfold neD; rw [eqB_ints hc2 hn2]; rfl, eqv_nil]
  walk_at "ok"
  cases cells with
  | nil =>
    simp only [List.isEmpty_nil, Bool.not_true, Bool.false_eq_true, if_false]
    rw [ok_ixD hk2 rfl w_turn]
    refine mixed_ok.imp ?_
    rintro d M3 ⟨⟨v, rfl⟩, rfl⟩
    rw [ok_mod, fmod_pos h0]
    exact ⟨by omega, ⟨_, rfl, Int.emod_nonneg _ (by omega), Int.emod_lt_of_pos _ h0⟩, ⟨[], _, _, hk2, hc2, by simp⟩, e2⟩
  | cons x rest =>
    simp only [List.isEmpty_cons, Bool.not_false, if_true]
    rw [List.map_cons] at hc2
    refine ⟨listAt hc2, ?_⟩
    rw [ok_popAt0 hc2]
    generalize hM3 : M2.set c (.lst (rest.map .int)) = M3
    have hk3 : M3[k]? = some (.dic (wellD c (t + 1) r)) := by rw [← hM3, List.getElem?_set_ne (Ne.symm hkc)]; exact hk2
    have hc3 : M3[c]? = some (.lst (rest.map .int)) := by rw [← hM3, List.getElem?_set_self (by omega)]
    have e3 : Ext k c M M3 := e2.trans ⟨by rw [← hM3]; simp, fun i _ _ h3 => by rw [← hM3, List.getElem?_set_ne (Ne.symm h3)]⟩
    have l3 : M3.length = M.length + 1 := by rw [← hM3]; simp [l2]
    simp only [List.length_cons] at hl
    walk_at "ok"
    refine ⟨by decide, ?_⟩
    by_cases hx : 10 ^ Int.toNat 18 ≤ x
    · rw [if_pos (decide_eq_true hx)]
      refine ⟨listAt hc3, ?_⟩
      refine ⟨fdiv_small h0 h1, ?_⟩
      rw [ok_ins0 hc3 (by rw [List.length_map]; exact Nat.lt_of_le_of_lt (show rest.length ≤ 63 by omega) (by decide))]
      try walk_at "ok"
      rw [fmod_pos h0]
      refine ⟨by omega, ⟨Int.emod_nonneg _ (by omega), Int.emod_lt_of_pos _ h0⟩, ⟨x.fdiv many :: rest, t + 1, r, ?_, ?_, by simp only [List.length_cons]; omega⟩, e3.trans ⟨by simp, fun i _ _ h3 => List.getElem?_set_ne (Ne.symm h3)⟩⟩
      · rw [List.getElem?_set_ne (Ne.symm hkc)]; exact hk3
      · rw [List.getElem?_set_self (by omega)]; rfl
    · rw [if_neg (by simpa using hx)]
      rw [ok_ixD hk3 rfl w_turn]
      refine mixed_ok.imp ?_
      rintro d M4 ⟨⟨v, rfl⟩, rfl⟩
      rw [ok_mod, fmod_pos h0]
      exact ⟨by omega, ⟨_, rfl, Int.emod_nonneg _ (by omega), Int.emod_lt_of_pos _ h0⟩, ⟨rest, _, _, hk3, hc3, by omega⟩, e3⟩
theorem deck_ok {ns : List Int} (hl : ns.length ≤ 63) : Ok (f__law_deck [.rol (ns.map D.int)] []) fun d M => ∃ k c, d = .obj k ∧ Well M k c := by
  unfold f__law_deck; rw [ok_fn]; unfold m__law_deck
  walk_at "ok"
  rw [show slD (.rol (ns.map D.int)) none (some 63) [] = some (.obj 0, [MO.lst (ns.map D.int)]) by
    have h : cutD (ns.map D.int) none (some 63) = ns.map D.int := by
      unfold cutD
      rw [HT.sIx_none, show (some (63 : Int)) = some ((63 : Nat) : Int) from rfl, HT.sIx_nat]
      simp only [List.length_map, List.drop_zero, Nat.sub_zero]
      exact List.take_of_length_le (by simp; omega)
    simp only [slD, asList, h]; rfl]
  walk_at "ok"
  rw [show fList [.obj 0] [MO.lst (ns.map D.int)] = some (.obj 1, [MO.lst (ns.map D.int), MO.lst (ns.map D.int)]) by
    simp [fList, asSeq, asList]]
  walk_at "ok"
  rw [ok_Disp, ok_PCons]
  walk_at "ok"
  refine ⟨.inr "cells", rfl, ?_⟩
  rw [ok_PCons]
  walk_at "ok"
  refine ⟨.inr "sum", rfl, ?_⟩
  rw [show fSum [.obj 1] [MO.lst (ns.map D.int), MO.lst (ns.map D.int)] = some (.int ns.sum, [MO.lst (ns.map D.int), MO.lst (ns.map D.int)]) by
    simp only [fSum, asList, List.getElem?_cons_succ, List.getElem?_cons_zero, Option.bind_some, toInts_map, Option.map_some]]
  walk_at "ok"
  refine ⟨by decide, ?_⟩
  rw [show fLen [.obj 1] [MO.lst (ns.map D.int), MO.lst (ns.map D.int)] = some (.int ns.length, [MO.lst (ns.map D.int), MO.lst (ns.map D.int)]) by
    simp [fLen, asSeq, asList]]
  walk_at "ok"
  rw [ok_PCons]
  walk_at "ok"
  refine ⟨.inr "count", rfl, ?_⟩
  rw [ok_PNil]
  refine ⟨by decide, 2, 1, rfl, ⟨ns, 0, ns.sum.fmod 2147483629 + ns.length, ?_, rfl, hl⟩⟩
  generalize ns.sum.fmod 2147483629 + (ns.length : Int) = z
  exact congrArg some (congrArg MO.dic (show _ = wellD 1 0 z by kernel_rfl))
end
section
/-! the words and their signs -/
def sg (ps : List (Str × Str)) : List (Key × D) := ps.map fun p => (.inr p.1, .str p.2)
theorem set_end {M : Mem} {kvs : List (Key × D)} {k : Str} {v : D} (h : kvs.length < sizeLine) : setI (.obj M.length) (.str k) v (M ++ [.dic kvs]) = some (M ++ [.dic (putD kvs (.inr k) v)]) := by
  unfold setI
  rw [show asLst (M ++ [.dic kvs]) (.obj M.length) = none by simp [asLst], asDic_of (kvs := kvs) (by simp)]
  simp only [keyD, Option.bind_some]
  rw [if_pos h]
  simp
theorem signs_ok {M : Mem} {w s : Str} (h : (w, s) ∈ parts) : Ok (f__law_signs [.str w] M) fun d M' => d = .str s ∧ Pe M M' := by
  unfold f__law_signs; rw [ok_fn]; unfold m__law_signs
  walk_at "ok"
  rw [ok_Disp]
  repeat (rw [ok_PCons]; walk_at "ok"; refine ⟨_, rfl, ?_⟩)
  rw [ok_PNil]
  refine ⟨by decide, ?_⟩
  refine ⟨_, set_end (by first | decide | (show (7 : Nat) < _; decide)), ?_⟩
  walk_at "ok"
  refine ⟨_, set_end (by first | decide | (show (8 : Nat) < _; decide)), ?_⟩
  walk_at "ok"
  refine ⟨_, set_end (by first | decide | (show (9 : Nat) < _; decide)), ?_⟩
  walk_at "ok"
  refine ⟨_, set_end (by first | decide | (show (10 : Nat) < _; decide)), ?_⟩
  walk_at "ok"
  have hv : valD (sg parts) (.inr w) = some (.str s) := by
    simp only [parts, List.mem_cons, List.not_mem_nil, or_false, Prod.mk.injEq] at h
    rcases h with ⟨rfl, rfl⟩ | ⟨rfl, rfl⟩ | ⟨rfl, rfl⟩ | ⟨rfl, rfl⟩ | ⟨rfl, rfl⟩ | ⟨rfl, rfl⟩ | ⟨rfl, rfl⟩ | ⟨rfl, rfl⟩ | ⟨rfl, rfl⟩ | ⟨rfl, rfl⟩ | ⟨rfl, rfl⟩ <;> kernel_rfl
  refine (ok_ixD (kvs := sg parts) (key := .inr w) (d := .str s) ?_ rfl hv).mpr ⟨rfl, Pe.app⟩
  rw [at_end]
  exact congrArg some (congrArg MO.dic (by kernel_rfl))
end
section
/-! texts: numbers, rows -/
def S (i : Int) : Str := (toString i : String)
theorem ofs_ok (s : String) : PyData.strOk (Str.ofString s) = true := by
  rw [Str.ofString_eq_toList]
  unfold PyData.strOk
  simp only [List.all_toArray, List.all_map, List.all_eq_true]
  intro c _
  exact decide_eq_true (show c.toNat < 1114112 from by
    have := c.valid
    rcases this with h | h
    · exact Nat.lt_trans h (by decide)
    · exact h.2)
theorem S_ok (i : Int) : PyData.strOk (S i) = true := ofs_ok _
theorem ofs_len (s : String) : (Str.ofString s).length = s.length := by
  rw [Str.ofString_eq_toList]
  show (s.toList.map Char.toNat).toArray.size = s.length
  simp [String.length_toList]
theorem S_len {i : Int} (h : i.natAbs < 10 ^ 18) : (S i).length ≤ 19 := by
  unfold S
  rw [ofs_len]
  cases i with
  | ofNat n =>
    have h : n < 10 ^ 18 := h
    have : (Nat.repr n).length ≤ 18 := (Nat.length_repr_le_iff (n := n) (by decide : 0 < 18)).mpr h
    show (Nat.repr n).length ≤ 19
    omega
  | negSucc n =>
    have h : n + 1 < 10 ^ 18 := h
    have : (Nat.repr (n + 1)).length ≤ 18 := (Nat.length_repr_le_iff (n := n + 1) (by decide : 0 < 18)).mpr h
    show ("-" ++ Nat.repr (n + 1)).length ≤ 19
    rw [String.length_append]
    have e : ("-" : String).length = 1 := by decide +kernel
    omega
theorem ofs_app (a b : String) : Str.ofString a ++ Str.ofString b = Str.ofString (a ++ b) := by
  rw [Str.ofString_eq_toList, Str.ofString_eq_toList, Str.ofString_eq_toList]
  show Str.append _ _ = _
  simp [Str.append, String.toList_append]
theorem S_neg {i : Int} (h : i < 0) : (("-" : Str) ++ S (-i)) = S i := by
  cases i with
  | ofNat n => exact absurd h (by simp)
  | negSucc n =>
    show Str.ofString "-" ++ Str.ofString (Nat.repr (n + 1)) = Str.ofString ("-" ++ Nat.repr (n + 1))
    exact ofs_app _ _
theorem ok_iff {x : Str} : PyData.strOk x = true ↔ ∀ c ∈ TL.tl x, c < 1114112 := by
  unfold PyData.strOk TL.tl
  rw [Array.all_eq_true']
  simp
theorem ok_app2 {x y : Str} (hx : PyData.strOk x = true) (hy : PyData.strOk y = true) : PyData.strOk (x ++ y) = true := by
  rw [ok_iff] at hx hy ⊢
  intro c hc
  rw [TL.tl_append] at hc
  rcases List.mem_append.mp hc with h | h
  · exact hx c h
  · exact hy c h
theorem join_mem {S0 : List Nat} {P : Nat → Prop} (hs : ∀ c ∈ S0, P c) : ∀ {xs : List (List Nat)}, (∀ x ∈ xs, ∀ c ∈ x, P c) → ∀ c ∈ TL.joinL S0 xs, P c
  | [], _, c, hc => by cases hc
  | [x], h, c, hc => h x (by simp) c hc
  | x :: y :: r, h, c, hc => by
    have hc : c ∈ x ++ (S0 ++ TL.joinL S0 (y :: r)) := hc
    rcases List.mem_append.mp hc with hc | hc
    · exact h x (by simp) c hc
    · rcases List.mem_append.mp hc with hc | hc
      · exact hs c hc
      · exact join_mem hs (fun z hz => h z (List.mem_cons_of_mem _ hz)) c hc
theorem join_str {s : Str} {xs : List Str} (hs : PyData.strOk s = true) (h : ∀ x ∈ xs, PyData.strOk x = true) : PyData.strOk (Txt.join s xs) = true := by
  rw [ok_iff, TL.join_eq, TL.tl_join]
  refine join_mem (ok_iff.mp hs) fun x hx => ?_
  obtain ⟨y, hy, rfl⟩ := List.mem_map.mp hx
  exact ok_iff.mp (h y hy)
theorem joinL_len {S0 : List Nat} : ∀ {xs : List (List Nat)}, (TL.joinL S0 xs).length ≤ (xs.map List.length).sum + xs.length * S0.length
  | [] => by simp [TL.joinL]
  | [x] => by simp [TL.joinL]
  | x :: y :: r => by
    have ih := joinL_len (S0 := S0) (xs := y :: r)
    show (x ++ (S0 ++ TL.joinL S0 (y :: r))).length ≤ _
    rw [List.length_append, List.length_append, List.map_cons, List.sum_cons, List.length_cons (as := y :: r), Nat.add_mul]
    omega
theorem tl_len {x : Str} : (TL.tl x).length = x.length := by simp [TL.tl, Str.length]
theorem join_len {s : Str} {xs : List Str} {b : Nat} (h : ∀ x ∈ xs, x.length ≤ b) : (Txt.join s xs).length ≤ xs.length * b + xs.length * s.length := by
  rw [← tl_len, TL.join_eq, TL.tl_join]
  refine Nat.le_trans joinL_len ?_
  rw [List.map_map, List.length_map, tl_len]
  refine Nat.add_le_add_right ?_ _
  have : ∀ l : List Str, (∀ x ∈ l, x.length ≤ b) → (l.map (List.length ∘ TL.tl)).sum ≤ l.length * b := by
    intro l
    induction l with
    | nil => intro _; simp
    | cons x r ih =>
      intro h
      have h1 := ih fun y hy => h y (List.mem_cons_of_mem _ hy)
      have h2 := h x List.mem_cons_self
      rw [List.map_cons, List.sum_cons, List.length_cons, Nat.add_mul, Function.comp, tl_len]
      omega
  exact this xs h
theorem toStrs_map (l : List Str) : toStrs (l.map D.str) = some l := by
  induction l with
  | nil => rfl
  | cons x r ih => simp only [List.map_cons, toStrs, ih, Option.map_some]
theorem sum_le {b : Nat} : ∀ {l : List Str}, (∀ x ∈ l, x.length ≤ b) → (l.map (·.length)).sum ≤ l.length * b
  | [], _ => by simp
  | x :: r, h => by
    have h1 := sum_le fun y hy => h y (List.mem_cons_of_mem _ hy)
    have h2 := h x List.mem_cons_self
    rw [List.map_cons, List.sum_cons, List.length_cons, Nat.add_mul]
    omega
theorem join_okT {M : Mem} {n b m : Nat} {s : Str} {xs : List Str} {Q : D → Mem → Prop} (h : M[n]? = some (.lst (xs.map .str))) (hb : ∀ x ∈ xs, x.length ≤ b) (hl : xs.length ≤ m) (hm : m * b + m * s.length ≤ 16777216) :
    Ok (fJoin (.str s) (.obj n) M) Q ↔ Q (.str (Txt.join s xs)) M := by
  have e : fJoin (.str s) (.obj n) M = some (.str (Txt.join s xs), M) := by
    simp only [fJoin, asSeq, asList, h, Option.bind_some, toStrs_map]
    rw [if_pos]
    have := sum_le hb
    have h1 : xs.length * b ≤ m * b := Nat.mul_le_mul_right _ hl
    have h2 : xs.length * s.length ≤ m * s.length := Nat.mul_le_mul_right _ hl
    omega
  rw [e, ok_some]
theorem join_single {x : Str} : Txt.join "" [x] = x := by
  have e : TL.tl (Txt.join "" [x]) = TL.tl x := by rw [TL.join_eq, TL.tl_join]; rfl
  have := TL.map_tl_inj (l := [Txt.join "" [x]]) (m := [x]) (by simp only [List.map_cons, List.map_nil, e])
  simpa using this
end
section
theorem while_off {t : mT} {body : mS} {n : Nat} {δ : DSt} {M M1 : Mem} {Q : Fl → Mem → Prop} (h : t δ M = some (false, M1)) : Ok (whileM t body (n + 1) δ M) Q ↔ Q (.nx δ) M1 := by
  rw [show whileM t body (n + 1) δ M = some (.nx δ, M1) by
    show (t δ M).bind _ = _
    rw [h]; rfl, ok_some]
theorem log_ok {n : Nat} (h : n < 10 ^ 18) : n.log2 < 1920 := by
  by_cases e : n = 0
  · subst e; decide
  · rw [Nat.log2_lt e]
    exact Nat.lt_trans h (by decide +kernel)
theorem strA_int {M : Mem} {i : Int} (h1 : i.natAbs < 10 ^ 18) : fStrA [.int i] M = some (.str (S i), M) := by
  simp only [fStrA]
  rw [if_pos (log_ok h1)]; rfl
/-- the last part of figures, of a number from 0 on -/
theorem fig_end {M : Mem} {i : Int} {Q : Fl → Mem → Prop} (h1 : i.natAbs < 10 ^ 18) (h : ∀ M', Pe M M' → Q (.rt (.str (S i))) M') :
    Ok (mSeq (mAsg 1 (mLst mNil)) (mSeq (whileM (mB (mBin geD (mVar 0) (mC c_PART))) (mSeq (mAsgG mNo (gMany [0, 2])) (mExpr (mMethL fAppend (mVar 1) (mCons mNo mNil)))) 1000000) (mSeq (mExpr (mMethL fAppend (mVar 1) (mCons (mCall fStrA (mCons (mVar 0) mNil)) mNil))) (mRet (mBin fJoin (mC (.str "")) (mRev (mVar 1))))))
      [some (.int i), none, none] M) Q := by
  refine seq_cut fun K hK => ?_; walk_at "okw"
  subst hK; dsimp only
  refine ⟨Nat.zero_le _, ?_⟩
  have p1 : Pe M (M ++ [MO.lst []]) := Pe.app
  have a1 : (M ++ [MO.lst []])[M.length]? = some (.lst (([] : List Str).map .str)) := at_end
  generalize M ++ [MO.lst []] = M1 at p1 a1 ⊢
  have hll : M.length ≤ M.length := Nat.le_refl _
  generalize hl : M.length = l at a1 ⊢
  refine seq_cut fun K hK => ?_
  rw [show (1000000 : Nat) = 999999 + 1 from rfl, while_off (M1 := M1) (by
    show mB (mBin geD (mVar 0) (mC c_PART)) [some (.int i), some (.obj l), none] M1 = some (false, M1)
    have e : geD (.int i) c_PART M1 = some (.bl (decide (i ≥ 1000000000000000000000000000000000000000000000000000000000000)), M1) := rfl
    have e2 : decide (i ≥ 1000000000000000000000000000000000000000000000000000000000000) = false := decide_eq_false (by omega)
    rw [e2] at e
    simp only [mB, mBin, mVar, mC, List.getElem?_cons_zero, Option.bind_some, Option.join_some, Option.map_some, e])]
  subst hK; dsimp only
  refine seq_cut fun K hK => ?_; walk_at "okw"
  refine ⟨listAt a1, ?_⟩
  rw [strA_int h1, ok_some, ok_app a1 (by simp; decide)]
  have p2 : Pe M (M1.set l (.lst (([] : List Str).map D.str ++ [.str (S i)]))) := ⟨by rw [List.length_set]; exact p1.len, fun j hj => by rw [List.getElem?_set_ne (by omega)]; exact p1.old j hj⟩
  have a2 : (M1.set l (.lst (([] : List Str).map D.str ++ [.str (S i)])))[l]? = some (.lst ([S i].map .str)) := List.getElem?_set_self (List.getElem?_eq_some_iff.mp a1).1
  subst hK; dsimp only
  generalize M1.set l (.lst (([] : List Str).map D.str ++ [.str (S i)])) = M2 at p2 a2 ⊢
  walk_at "okw"
  rw [show revD (.obj l) M2 = some (.obj M2.length, M2 ++ [.lst ([S i].map .str)]) by
    show (match asList M2 (.obj l) with | some xs => _ | none => _) = _
    simp only [asList, a2]
    rfl, ok_some]
  have p3 : Pe M (M2 ++ [MO.lst ([S i].map .str)]) := p2.trans Pe.app
  rw [join_okT (b := 19) (m := 1) (xs := [S i]) at_end (fun x hx => by rw [List.mem_singleton.mp hx]; exact S_len h1) (by simp) (by decide +kernel), join_single]
  exact h _ p3
theorem fig0 {M : Mem} {i : Int} (h0 : 0 ≤ i) (h1 : i.natAbs < 10 ^ 18) : Ok (f_figures__1 [.int i] M) fun d M' => d = .str (S i) ∧ Pe M M' := by
  unfold f_figures__1; rw [ok_fn]; unfold m_figures__1
  walk_at "slots"
  refine seq_cut fun K hK => ?_; walk_at "okw"
  rw [decide_eq_false (by omega), ifp_f]
  subst hK; dsimp only
  exact fig_end h1 fun M' p => ⟨rfl, p⟩
theorem fig_ok {M : Mem} {i : Int} (h1 : i.natAbs < 10 ^ 18) : Ok (f_figures [.int i] M) fun d M' => d = .str (S i) ∧ Pe M M' := by
  unfold f_figures; rw [ok_fn]; unfold m_figures
  walk_at "slots"
  refine seq_cut fun K hK => ?_; walk_at "okw"
  by_cases hi : i < 0
  · rw [decide_eq_true hi, ifp_t]
    refine (fig0 (i := -i) (by omega) (by rw [Int.natAbs_neg]; exact h1)).imp ?_
    rintro _ M1 ⟨rfl, p1⟩
    have hl : (S (-i)).length ≤ 19 := S_len (by rw [Int.natAbs_neg]; exact h1)
    rw [show addD (.str "-") (.str (S (-i))) M1 = some (.str (("-" : Str) ++ S (-i)), M1) by
      show (if ("-" : Str).length + (S (-i)).length ≤ sizeLine then _ else _) = _
      rw [if_pos (Nat.le_trans (Nat.add_le_add_left hl _) (by decide +kernel))], ok_some, S_neg hi]
    subst hK; dsimp only
    exact ⟨rfl, p1⟩
  · rw [decide_eq_false hi, ifp_f]
    subst hK; dsimp only
    exact fig_end h1 fun M' p => ⟨rfl, p⟩
/-- a row of words and numbers -/
def rowP (ws : List Str) (ns : List Int) : Str := Txt.join " " (ws ++ ns.map S)
def Num (i : Int) : Prop := i.natAbs < 10 ^ 18
structure Few (ws : List Str) (ns : List Int) : Prop where
  wl : ws.length ≤ 10
  nl : ns.length ≤ 30
  wb : ∀ x ∈ ws, x.length ≤ 30
  wo : ∀ x ∈ ws, PyData.strOk x = true
  nb : ∀ n ∈ ns, Num n
theorem Few.len {ws ns} (F : Few ws ns) : ∀ x ∈ ws ++ ns.map S, x.length ≤ 30 := fun x hx => by
  rcases List.mem_append.mp hx with h | h
  · exact F.wb x h
  · obtain ⟨n, hn, rfl⟩ := List.mem_map.mp h
    exact Nat.le_trans (S_len (F.nb n hn)) (by decide)
theorem Few.cnt {ws ns} (F : Few ws ns) : (ws ++ ns.map S).length ≤ 40 := by
  rw [List.length_append, List.length_map]; have := F.wl; have := F.nl; omega
theorem rowP_len {ws ns} (F : Few ws ns) : (rowP ws ns).length ≤ 2000 := by
  refine Nat.le_trans (join_len F.len) ?_
  have e : (" " : Str).length = 1 := by decide +kernel
  rw [e]
  have := F.cnt
  omega
theorem rowP_ok {ws ns} (F : Few ws ns) : PyData.strOk (rowP ws ns) = true := join_str (by decide +kernel) fun x hx => by
  rcases List.mem_append.mp hx with h | h
  · exact F.wo x h
  · obtain ⟨n, hn, rfl⟩ := List.mem_map.mp h
    exact S_ok n
/-- a list that is laid element by element, each of them told exactly -/
theorem lc_pe {gd : List (Nat × MO)} {g : mG} {te : mE} {δ : DSt} {M : Mem} {α : Type} {inj : α → D} {e : α → D} {l : List α} {Q : List D → Mem → Prop} (hg : ∀ M', Pe M M' → Guarded M' gd)
    (h : ∀ x ∈ l, ∀ M', Pe M M' → ∃ δ1, g (inj x) δ = some δ1 ∧ Ok (te δ1 M') fun y M2 => y = e x ∧ Pe M' M2) (q : ∀ M', Pe M M' → Q (l.map e) M') : Ok (lcM gd g mYes te δ (l.map inj) M) Q := by
  have := ok_lcI (gd := gd) (g := g) (tt := mYes) (te := te) (δ := δ) (Q := Q) (fun n acc M' => acc = (l.take n).map e ∧ Pe M M') (l.map inj) 0 [] M ⟨rfl, .refl⟩ (fun i acc M' hI => hg M' hI.2) ?_ ?_
  · simpa using this
  · rintro i d acc M' hd ⟨h1, p⟩
    rw [Nat.zero_add] at h1 ⊢
    rw [List.getElem?_map, Option.map_eq_some_iff] at hd
    obtain ⟨x, hx, rfl⟩ := hd
    obtain ⟨δ1, e1, ho⟩ := h x (List.mem_of_getElem? hx) M' p
    refine ⟨δ1, e1, ?_⟩
    rw [ok_Yes, if_pos rfl]
    refine ho.imp ?_
    rintro y M2 ⟨rfl, p2⟩
    refine ⟨?_, p.trans p2⟩
    rw [h1, List.take_succ, hx, List.map_append]; rfl
  · rintro acc M' ⟨h1, p⟩
    rw [Nat.zero_add, List.length_map, List.take_length] at h1
    rw [h1]
    exact q M' p
theorem guard0 {M : Mem} : Guarded M [] := fun p hp => nomatch hp
theorem row_of_ok {M : Mem} {ws : List Str} {ns : List Int} (F : Few ws ns) : Ok (f_row_of [.tup (ws.map .str), .tup (ns.map .int)] M) fun d M' => d = .str (rowP ws ns) ∧ Pe M M' := by
  unfold f_row_of; rw [ok_fn]; unfold m_row_of
  walk_at "slots"
  walk_at "okw"
  rw [show fList [.tup (ws.map D.str)] M = some (.obj M.length, M ++ [.lst (ws.map D.str)]) from rfl, ok_some]
  have a1 : (M ++ [MO.lst (ws.map D.str)])[M.length]? = some (.lst (ws.map D.str)) := at_end
  have p1 : Pe M (M ++ [MO.lst (ws.map D.str)]) := Pe.app
  generalize M ++ [MO.lst (ws.map D.str)] = M1 at a1 p1 ⊢
  refine lc_pe (inj := D.int) (e := fun n => .str (S n)) (fun _ _ => guard0) (fun n hn M' p => ⟨_, rfl, ?_⟩) fun M2 p2 => ?_
  · dsimp only [gOne, List.set]
    walk_at "okw"
    exact fig_ok (F.nb n hn)
  · have hnl := F.nl
    have hwl := F.wl
    have hz : ∀ m : Nat, m ≤ 1000 → m ≤ sizeLine := fun m h => Nat.le_trans h (by decide)
    refine ⟨by rw [List.length_map]; exact hz _ (by omega), ?_⟩
    have a2 := (p2.trans (Pe.app (l := [MO.lst (ns.map fun n => D.str (S n))]))).at a1
    have b2 : (M2 ++ [MO.lst (ns.map fun n => D.str (S n))])[M2.length]? = some (.lst (ns.map fun n => D.str (S n))) := at_end
    have p3 : Pe M (M2 ++ [MO.lst (ns.map fun n => D.str (S n))]) := p1.trans (p2.trans Pe.app)
    generalize M2 ++ [MO.lst (ns.map fun n => D.str (S n))] = M3 at a2 b2 p3 ⊢
    rw [show addD (.obj M.length) (.obj M2.length) M3 = some (.obj M3.length, M3 ++ [.lst ((ws ++ ns.map S).map .str)]) by
      simp only [addD, asLst, a2, b2]
      rw [if_pos (by rw [List.length_map, List.length_map]; exact hz _ (by omega)), List.map_append, List.map_map]; rfl, ok_some]
    rw [join_okT (b := 30) (m := 40) at_end F.len F.cnt (by decide +kernel)]
    exact ⟨rfl, p3.trans Pe.app⟩
theorem law_row_ok {M : Mem} {ws : List Str} {ns : List Int} (F : Few ws ns) : Ok (f__law_row [.tup (ws.map .str ++ ns.map .int)] M) fun d M' => d = .str (rowP ws ns) ∧ Pe M M' := by
  unfold f__law_row; rw [ok_fn]; unfold m__law_row
  walk_at "slots"
  walk_at "okw"
  have e0 : ws.map D.str ++ ns.map D.int = (ws.map Sum.inl ++ ns.map Sum.inr).map (fun x : Str ⊕ Int => match x with | .inl s => D.str s | .inr i => D.int i) := by
    rw [List.map_append, List.map_map, List.map_map]; rfl
  rw [e0]
  refine lc_pe (inj := fun x : Str ⊕ Int => match x with | .inl s => D.str s | .inr i => D.int i) (e := fun x : Str ⊕ Int => match x with | .inl s => D.str s | .inr i => D.str (S i)) (fun _ _ => guard0) (fun x hx M' p => ⟨_, rfl, ?_⟩) fun M2 p2 => ?_
  · dsimp only [gOne, List.set]
    walk_at "okw"
    rcases List.mem_append.mp hx with h | h
    · obtain ⟨s, _, rfl⟩ := List.mem_map.mp h
      exact ⟨_, _, rfl, rfl, Pe.refl⟩
    · obtain ⟨n, hn, rfl⟩ := List.mem_map.mp h
      exact ⟨_, _, strA_int (F.nb n hn), rfl, Pe.refl⟩
  · have hnl := F.nl
    have hwl := F.wl
    have hz : ∀ m : Nat, m ≤ 1000 → m ≤ sizeLine := fun m h => Nat.le_trans h (by decide)
    have e1 : ((ws.map Sum.inl ++ ns.map Sum.inr).map (fun x : Str ⊕ Int => match x with | .inl s => D.str s | .inr i => D.str (S i))) = (ws ++ ns.map S).map D.str := by
      rw [List.map_append, List.map_map, List.map_map, List.map_append, List.map_map]; rfl
    rw [e1]
    refine ⟨by rw [List.length_map]; exact hz _ (Nat.le_trans F.cnt (by decide)), ?_⟩
    rw [join_okT (b := 30) (m := 40) at_end F.len F.cnt (by decide +kernel)]
    exact ⟨rfl, p2.trans Pe.app⟩
end
section
/-! what is shown -/
structure Mc where
  us : List (Str × Int)
  wk : List (Str × Int × Int)
def uD (p : Str × Int) : D := .tup [.str p.1, .int p.2]
def wD (p : Str × Int × Int) : D := .tup [.str p.1, .int p.2.1, .int p.2.2]
def plantD (us : List (Str × Int)) (wk : List (Str × Int × Int)) : D := .tup [.tup (us.map uD), .tup (wk.map wD)]
abbrev Dq := Str × List Int
def dqD (d : Dq) : D := .tup (.str d.1 :: d.2.map .int)
def strD (g : Int) (ds : List Dq) (os : List Int) : D := .tup [.int g, .tup (ds.map dqD), .tup (os.map .int)]
def Nam (x : Str) : Prop := PyData.strOk x = true ∧ x.length ≤ 30
structure ShowOk (us : List (Str × Int)) (wk : List (Str × Int × Int)) (g : Int) (ds : List Dq) (os : List Int) : Prop where
  ul : us.length ≤ 10
  un : ∀ u ∈ us, Nam u.1 ∧ Num u.2
  wl : wk.length = 11
  wn : ∀ w ∈ wk, Nam w.1 ∧ Num w.2.1 ∧ Num w.2.2
  gn : Num g
  dl : ds.length ≤ 30
  dn : ∀ d ∈ ds, Nam d.1 ∧ d.2.length ≤ 5 ∧ ∀ n ∈ d.2, Num n
  ol : os.length ≤ 10
  on : ∀ n ∈ os, Num n
theorem nam_kind {x : Str} (h : x ∈ cs_KINDS) : Nam x := by
  unfold Nam
  have : ∀ y ∈ cs_KINDS, PyData.strOk y = true ∧ y.length ≤ 30 := by decide +kernel
  exact this x h
theorem few_unit {u : Str × Int} (h : Nam u.1 ∧ Num u.2) : Few ["unit", u.1] [u.2] :=
  ⟨by simp, by simp, fun x hx => by
    simp only [List.mem_cons, List.not_mem_nil, or_false] at hx
    rcases hx with rfl | rfl
    · decide +kernel
    · exact h.1.2, fun x hx => by
    simp only [List.mem_cons, List.not_mem_nil, or_false] at hx
    rcases hx with rfl | rfl
    · decide +kernel
    · exact h.1.1, fun n hn => by rw [List.mem_singleton.mp hn]; exact h.2⟩
theorem few_work {k : Str} {w : Str × Int × Int} (hk : Nam k) (h : Nam w.1 ∧ Num w.2.1 ∧ Num w.2.2) : Few ["work", k, w.1] [w.2.1, w.2.2] :=
  ⟨by simp, by simp, fun x hx => by
    simp only [List.mem_cons, List.not_mem_nil, or_false] at hx
    rcases hx with rfl | rfl | rfl
    · decide +kernel
    · exact hk.2
    · exact h.1.2, fun x hx => by
    simp only [List.mem_cons, List.not_mem_nil, or_false] at hx
    rcases hx with rfl | rfl | rfl
    · decide +kernel
    · exact hk.1
    · exact h.1.1, fun n hn => by
    simp only [List.mem_cons, List.not_mem_nil, or_false] at hn
    rcases hn with rfl | rfl
    · exact h.2.1
    · exact h.2.2⟩
theorem few_word {w : Str} {ns : List Int} (hw : Nam w) (hl : ns.length ≤ 30) (h : ∀ n ∈ ns, Num n) : Few [w] ns :=
  ⟨by simp, hl, fun x hx => by rw [List.mem_singleton.mp hx]; exact hw.2, fun x hx => by rw [List.mem_singleton.mp hx]; exact hw.1, h⟩
theorem nam_givens : Nam "givens" := by unfold Nam; decide +kernel
theorem nam_outs : Nam "outs" := by unfold Nam; decide +kernel
def unitRow (u : Str × Int) : Str := rowP ["unit", u.1] [u.2]
def workRow (p : Str × Str × Int × Int) : Str := rowP ["work", p.1, p.2.1] [p.2.2.1, p.2.2.2]
def deedRow (d : Dq) : Str := rowP [d.1] d.2
def rowsP (us : List (Str × Int)) (wk : List (Str × Int × Int)) (g : Int) (ds : List Dq) (os : List Int) : List Str :=
  us.map unitRow ++ (cs_KINDS.zip wk).map workRow ++ [rowP ["givens"] [g]] ++ ds.map deedRow ++ [rowP ["outs"] os]
section
variable {us : List (Str × Int)} {wk : List (Str × Int × Int)} {g : Int} {ds : List Dq} {os : List Int}
theorem zip_len (h : ShowOk us wk g ds os) : (cs_KINDS.zip wk).length = 11 := by
  rw [List.length_zip, h.wl]; rfl
theorem rows_len (h : ShowOk us wk g ds os) : (rowsP us wk g ds os).length ≤ 60 := by
  unfold rowsP
  simp only [List.length_append, List.length_map, List.length_singleton, zip_len h]
  have := h.ul; have := h.dl
  omega
theorem rows_few (h : ShowOk us wk g ds os) {P : Str → Prop} (hP : ∀ ws ns, Few ws ns → P (rowP ws ns)) : ∀ x ∈ rowsP us wk g ds os, P x := by
  intro x hx
  unfold rowsP at hx
  simp only [List.mem_append, List.mem_singleton] at hx
  rcases hx with (((hx | hx) | rfl) | hx) | rfl
  · obtain ⟨u, hu, rfl⟩ := List.mem_map.mp hx
    exact hP _ _ (few_unit (h.un u hu))
  · obtain ⟨p, hp, rfl⟩ := List.mem_map.mp hx
    have := List.of_mem_zip hp
    exact hP _ _ (few_work (nam_kind this.1) (h.wn _ this.2))
  · exact hP _ _ (few_word nam_givens (by simp) (fun n hn => by rw [List.mem_singleton.mp hn]; exact h.gn))
  · obtain ⟨d, hd, rfl⟩ := List.mem_map.mp hx
    have := h.dn d hd
    exact hP _ _ (few_word this.1 (Nat.le_trans this.2.1 (by decide)) this.2.2)
  · exact hP _ _ (few_word nam_outs (Nat.le_trans h.ol (by decide)) h.on)
def textP (us : List (Str × Int)) (wk : List (Str × Int × Int)) (g : Int) (ds : List Dq) (os : List Int) : Str := Txt.join "\n" (rowsP us wk g ds os)
theorem text_ok (h : ShowOk us wk g ds os) : PyData.strOk (textP us wk g ds os) = true := join_str (by decide +kernel) (rows_few h fun ws ns F => rowP_ok F)
theorem join_rows {M : Mem} {n : Nat} {Q : D → Mem → Prop} (h : ShowOk us wk g ds os) (hM : M[n]? = some (.lst ((rowsP us wk g ds os).map .str))) : Ok (fJoin (.str "\n") (.obj n) M) Q ↔ Q (.str (textP us wk g ds os)) M :=
  join_okT (b := 2000) (m := 60) hM (rows_few h fun ws ns F => rowP_len F) (rows_len h) (by decide +kernel)
theorem ok_AugL {i a : Nat} {me : mE} {δ : DSt} {M : Mem} {Q : Fl → Mem → Prop} (hi : δ[i]? = some (some (.obj a)))
    (h : Ok (me δ M) fun y M1 => ∃ (b : Nat) (xs ys : List D), y = .obj b ∧ M1[a]? = some (.lst xs) ∧ M1[b]? = some (.lst ys) ∧ xs.length + ys.length ≤ 1000 ∧ Q (.nx (δ.set i (some (.obj a)))) (M1.set a (.lst (xs ++ ys)))) : Ok (mAug i me δ M) Q := by
  obtain ⟨y, M1, e, b, xs, ys, rfl, ha, hb, hl, q⟩ := h
  refine ⟨_, _, ?_, q⟩
  unfold mAug
  rw [hi]
  simp only [Option.join_some, Option.bind_some, e, augI, asLst, ha, hb]
  rw [if_pos (Nat.le_trans hl (by decide))]; rfl
theorem pe_set {M M' : Mem} {a : Nat} {o : MO} (p : Pe M M') (h : M.length ≤ a) : Pe M (M'.set a o) := ⟨by rw [List.length_set]; exact p.len, fun i hi => by rw [List.getElem?_set_ne (by omega)]; exact p.old i hi⟩
theorem at_set {M : Mem} {a : Nat} {o o' : MO} (h : M[a]? = some o) : (M.set a o')[a]? = some o' := List.getElem?_set_self (List.getElem?_eq_some_iff.mp h).1
theorem zip_kinds (wk : List (Str × Int × Int)) : zipD (cs_KINDS.map D.str) (wk.map wD) = (cs_KINDS.zip wk).map fun p => D.tup [.str p.1, wD p.2] := by
  unfold zipD; rw [List.zip_map, List.map_map]; rfl
theorem show_ok {M : Mem} (h : ShowOk us wk g ds os) : Ok (f_show [plantD us wk, strD g ds os] M) fun d M' => d = .str (textP us wk g ds os) ∧ Pe M M' := by
  unfold f_show; rw [ok_fn]; unfold m_show
  walk_at "slots"
  refine seq_cut fun K hK => ?_; walk_at "okw"
  refine ⟨_, rfl, ?_⟩
  subst hK; dsimp only [setAll, List.set]
  refine seq_cut fun K hK => ?_; walk_at "okw"
  refine ⟨_, rfl, ?_⟩
  subst hK; dsimp only [setAll, List.set]
  generalize hPl : plantD us wk = Pl
  generalize hSt : strD g ds os = St
  have hz : ∀ m : Nat, m ≤ 1000 → m ≤ sizeLine := fun m h => Nat.le_trans h (by decide)
  have hul := h.ul
  have hdl := h.dl
  -- the units
  refine seq_mid (Q0 := fun f M' => ∃ l x8 x9, f = .nx [some Pl, some St, some (.tup (us.map uD)), some (.tup (wk.map wD)), some (.int g), some (.tup (ds.map dqD)), some (.tup (os.map .int)), some (.obj l), x8, x9, none, none, none, none] ∧ M'[l]? = some (.lst ((us.map unitRow).map .str)) ∧ M.length ≤ l ∧ Pe M M') (fun K hK => ?_) ?_
  · walk_at "okw"
    refine lc_pe (inj := uD) (e := fun u => .str (unitRow u)) (fun _ _ => guard0) (fun u hu M' p => ⟨_, rfl, ?_⟩) fun M2 p2 => ?_
    · dsimp only [setAll, List.set]
      walk_at "okw"
      refine ⟨by decide, by decide, ?_⟩
      exact row_of_ok (ws := ["unit", u.1]) (ns := [u.2]) (few_unit (h.un u hu))
    · refine ⟨by rw [List.length_map]; exact hz _ (by omega), ?_⟩
      exact hK _ _ ⟨_, _, _, rfl, by rw [List.map_map]; exact at_end, p2.len, p2.trans Pe.app⟩
  rintro f M1 ⟨l, x8, x9, rfl, a1, hl, p1⟩
  dsimp only
  have hzl := zip_len h
  -- the works
  refine seq_mid (Q0 := fun f M' => ∃ x8 x9 x10 x11 x12, f = .nx [some Pl, some St, some (.tup (us.map uD)), some (.tup (wk.map wD)), some (.int g), some (.tup (ds.map dqD)), some (.tup (os.map .int)), some (.obj l), x8, x9, x10, x11, x12, none] ∧ M'[l]? = some (.lst ((us.map unitRow ++ (cs_KINDS.zip wk).map workRow).map .str)) ∧ Pe M M') (fun K hK => ?_) ?_
  · refine ok_AugL rfl ?_
    walk_at "okw"
    refine ⟨_, _, _, _, rfl, itAny_tup, itAny_tup, ?_⟩
    dsimp only
    rw [zip_kinds]
    refine lc_pe (g := gNest 10 [8, 11, 12]) (inj := fun p : Str × Str × Int × Int => D.tup [.str p.1, wD p.2]) (e := fun p => .str (workRow p)) (fun _ _ => guard0) (fun q hq M' p => ⟨_, rfl, ?_⟩) fun M2 p2 => ?_
    · dsimp only [setAll, List.set]
      have hq' := List.of_mem_zip hq
      walk_at "okw"
      refine ⟨by decide, by decide, ?_⟩
      exact row_of_ok (ws := ["work", q.1, q.2.1]) (ns := [q.2.2.1, q.2.2.2]) (few_work (nam_kind hq'.1) (h.wn _ hq'.2))
    · refine ⟨by rw [List.length_map]; exact hz _ (by omega), ?_⟩
      refine ⟨_, _, _, rfl, (p2.trans Pe.app).at a1, at_end, by simp only [List.length_map]; omega, ?_⟩
      exact hK _ _ ⟨_, _, _, _, _, rfl, by rw [at_set ((p2.trans Pe.app).at a1)]; simp, pe_set (p1.trans (p2.trans Pe.app)) hl⟩
  clear a1 p1
  rintro f M1 ⟨x8, x9, x10, x11, x12, rfl, a1, p1⟩
  dsimp only
  -- the givens
  refine seq_cut fun K hK => ?_; walk_at "okw"
  refine ⟨listAt a1, by decide, by decide, ?_⟩
  refine (row_of_ok (M := M1) (ws := ["givens"]) (ns := [g]) (few_word nam_givens (by simp) (fun n hn => by rw [List.mem_singleton.mp hn]; exact h.gn))).imp ?_
  rintro _ M2 ⟨rfl, p2⟩
  have a2 := p2.at a1
  rw [ok_app a2 (by simp only [List.length_map, List.length_append]; exact Nat.lt_of_le_of_lt (show us.length + (cs_KINDS.zip wk).length ≤ 100 by omega) (by decide))]
  subst hK; dsimp only
  have a3 : (M2.set l (.lst ((us.map unitRow ++ (cs_KINDS.zip wk).map workRow).map .str ++ [.str (rowP ["givens"] [g])])))[l]? = some (.lst ((us.map unitRow ++ (cs_KINDS.zip wk).map workRow ++ [rowP ["givens"] [g]]).map .str)) := by rw [at_set a2]; simp
  have p3 : Pe M (M2.set l (.lst ((us.map unitRow ++ (cs_KINDS.zip wk).map workRow).map .str ++ [.str (rowP ["givens"] [g])]))) := pe_set (p1.trans p2) hl
  generalize M2.set l (.lst ((us.map unitRow ++ (cs_KINDS.zip wk).map workRow).map .str ++ [.str (rowP ["givens"] [g])])) = M3 at a3 p3 ⊢
  clear a1 p1 a2 p2
  -- the deeds
  refine seq_mid (Q0 := fun f M' => ∃ x8 x9 x10 x11 x12 x13, f = .nx [some Pl, some St, some (.tup (us.map uD)), some (.tup (wk.map wD)), some (.int g), some (.tup (ds.map dqD)), some (.tup (os.map .int)), some (.obj l), x8, x9, x10, x11, x12, x13] ∧ M'[l]? = some (.lst ((us.map unitRow ++ (cs_KINDS.zip wk).map workRow ++ [rowP ["givens"] [g]] ++ ds.map deedRow).map .str)) ∧ Pe M M') (fun K hK => ?_) ?_
  · refine ok_AugL rfl ?_
    walk_at "okw"
    refine lc_pe (inj := dqD) (e := fun p => .str (deedRow p)) (fun _ _ => guard0) (fun q hq M' p => ⟨_, rfl, ?_⟩) fun M2 p2 => ?_
    · dsimp only [gOne, setAll, List.set]
      have hq' := h.dn q hq
      walk_at "okw"
      rw [show dqD q = .tup (.str q.1 :: q.2.map .int) from rfl, ok_slT, ok_slT, show (some (1 : Int)) = some ((1 : Nat) : Int) from rfl, cut_take, cut_drop]
      exact row_of_ok (ws := [q.1]) (ns := q.2) (few_word hq'.1 (Nat.le_trans hq'.2.1 (by decide)) hq'.2.2)
    · refine ⟨by rw [List.length_map]; exact hz _ (by omega), ?_⟩
      refine ⟨_, _, _, rfl, (p2.trans Pe.app).at a3, at_end, by simp only [List.length_map, List.length_append, List.length_singleton]; omega, ?_⟩
      exact hK _ _ ⟨_, _, _, _, _, _, rfl, by rw [at_set ((p2.trans Pe.app).at a3)]; simp, pe_set (p3.trans (p2.trans Pe.app)) hl⟩
  clear a3 p3
  rintro f M1 ⟨x8, x9, x10, x11, x12, x13, rfl, a1, p1⟩
  dsimp only
  refine seq_cut fun K hK => ?_; walk_at "okw"
  refine ⟨listAt a1, by decide, ?_⟩
  refine (row_of_ok (M := M1) (ws := ["outs"]) (ns := os) (few_word nam_outs (Nat.le_trans h.ol (by decide)) h.on)).imp ?_
  rintro _ M2 ⟨rfl, p2⟩
  have a2 := p2.at a1
  rw [ok_app a2 (by simp only [List.length_map, List.length_append, List.length_singleton]; exact Nat.lt_of_le_of_lt (show us.length + (cs_KINDS.zip wk).length + 1 + ds.length ≤ 100 by omega) (by decide))]
  subst hK; dsimp only
  have a3 : (M2.set l (.lst ((us.map unitRow ++ (cs_KINDS.zip wk).map workRow ++ [rowP ["givens"] [g]] ++ ds.map deedRow).map .str ++ [.str (rowP ["outs"] os)])))[l]? = some (.lst ((rowsP us wk g ds os).map .str)) := by rw [at_set a2]; unfold rowsP; simp
  have p3 : Pe M (M2.set l (.lst ((us.map unitRow ++ (cs_KINDS.zip wk).map workRow ++ [rowP ["givens"] [g]] ++ ds.map deedRow).map .str ++ [.str (rowP ["outs"] os)]))) := pe_set (p1.trans p2) hl
  generalize M2.set l (.lst ((us.map unitRow ++ (cs_KINDS.zip wk).map workRow ++ [rowP ["givens"] [g]] ++ ds.map deedRow).map .str ++ [.str (rowP ["outs"] os)])) = M3 at a3 p3 ⊢
  walk_at "okw"
  rw [join_rows h a3]
  exact ⟨rfl, p3⟩
end
end
section
/-! the law's own rows -/
theorem words_ok {M : Mem} : Ok (f__law_words [] M) fun d M' => d = .obj M.length ∧ M' = M ++ [.lst (cs_KINDS.map .str)] := by
  unfold f__law_words; rw [ok_fn]; unfold m__law_words
  walk_at "slots"
  walk_at "okw"
  exact ⟨by decide, rfl⟩
theorem add_tup {M : Mem} {xs ys : List D} {Q : D → Mem → Prop} (h : xs.length + ys.length ≤ 1000) : Ok (addD (.tup xs) (.tup ys) M) Q ↔ Q (.tup (xs ++ ys)) M := by
  have e : addD (.tup xs) (.tup ys) M = some (.tup (xs ++ ys), M) := by
    show (if xs.length + ys.length ≤ sizeLine then _ else _) = _
    rw [if_pos (Nat.le_trans h (by decide))]
  rw [e, ok_some]
theorem add_lst {M : Mem} {a b : Nat} {xs ys : List D} {Q : D → Mem → Prop} (ha : M[a]? = some (.lst xs)) (hb : M[b]? = some (.lst ys)) (h : xs.length + ys.length ≤ 1000) : Ok (addD (.obj a) (.obj b) M) Q ↔ Q (.obj M.length) (M ++ [.lst (xs ++ ys)]) := by
  have e : addD (.obj a) (.obj b) M = some (.obj M.length, M ++ [.lst (xs ++ ys)]) := by
    simp only [addD, asLst, ha, hb]
    rw [if_pos (Nat.le_trans h (by decide))]
  rw [e, ok_some]
section
variable {us : List (Str × Int)} {wk : List (Str × Int × Int)} {g : Int} {ds : List Dq} {os : List Int}
theorem law_rows_ok {M : Mem} (h : ShowOk us wk g ds os) : Ok (f__law_rows [plantD us wk, strD g ds os] M) fun d M' => ∃ r : Nat, d = .obj r ∧ M'[r]? = some (.lst ((rowsP us wk g ds os).map .str)) ∧ Pe M M' := by
  unfold f__law_rows; rw [ok_fn]; unfold m__law_rows
  walk_at "slots"
  have hz : ∀ m : Nat, m ≤ 1000 → m ≤ sizeLine := fun m h => Nat.le_trans h (by decide)
  have hul := h.ul
  have hdl := h.dl
  have hzl := zip_len h
  have ix0 : ∀ M : Mem, ixD (plantD us wk) (.int 0) M = some (.tup (us.map uD), M) := fun _ => rfl
  have ix1 : ∀ M : Mem, ixD (plantD us wk) (.int 1) M = some (.tup (wk.map wD), M) := fun _ => rfl
  have iy0 : ∀ M : Mem, ixD (strD g ds os) (.int 0) M = some (.int g, M) := fun _ => rfl
  have iy1 : ∀ M : Mem, ixD (strD g ds os) (.int 1) M = some (.tup (ds.map dqD), M) := fun _ => rfl
  have iy2 : ∀ M : Mem, ixD (strD g ds os) (.int 2) M = some (.tup (os.map .int), M) := fun _ => rfl
  generalize hPl : plantD us wk = Pl at ix0 ix1 ⊢
  generalize hSt : strD g ds os = St at iy0 iy1 iy2 ⊢
  refine seq_mid (Q0 := fun f M' => ∃ l x3, f = .nx [some Pl, some St, some (.obj l), x3, none, none, none] ∧ M'[l]? = some (.lst ((us.map unitRow).map .str)) ∧ Pe M M') (fun K hK => ?_) ?_
  · walk_at "okw"
    rw [ix0, ok_some]
    refine ⟨_, itAny_tup, ?_⟩
    dsimp only
    refine lc_pe (g := gOne 3) (inj := uD) (e := fun u => .str (unitRow u)) (fun _ _ => guard0) (fun u hu M' p => ⟨_, rfl, ?_⟩) fun M2 p2 => ?_
    · dsimp only [gOne, List.set]
      walk_at "okw"
      refine ⟨by decide, ?_⟩
      rw [show uD u = .tup [.str u.1, .int u.2] from rfl, add_tup (by simp)]
      exact law_row_ok (ws := ["unit", u.1]) (ns := [u.2]) (few_unit (h.un u hu))
    · refine ⟨by rw [List.length_map]; exact hz _ (by omega), ?_⟩
      exact hK _ _ ⟨_, _, rfl, by rw [List.map_map]; exact at_end, p2.trans Pe.app⟩
  rintro f M1 ⟨l, x3, rfl, a1, p1⟩
  dsimp only
  refine seq_mid (Q0 := fun f M' => ∃ l x3 x4 x5, f = .nx [some Pl, some St, some (.obj l), x3, x4, x5, none] ∧ M'[l]? = some (.lst ((us.map unitRow ++ (cs_KINDS.zip wk).map workRow).map .str)) ∧ Pe M M') (fun K hK => ?_) ?_
  · walk_at "okw"
    refine words_ok.imp ?_
    rintro _ _ ⟨rfl, rfl⟩
    rw [ix1, ok_some]
    have a2 : (M1 ++ [MO.lst (cs_KINDS.map D.str)])[l]? = some (.lst ((us.map unitRow).map .str)) := Pe.app.at a1
    have k2 : (M1 ++ [MO.lst (cs_KINDS.map D.str)])[M1.length]? = some (.lst (cs_KINDS.map .str)) := at_end
    have p2 : Pe M (M1 ++ [MO.lst (cs_KINDS.map D.str)]) := p1.trans Pe.app
    refine ⟨_, _, _, _, rfl, itAny_lst k2, itAny_tup, ?_⟩
    dsimp only
    rw [zip_kinds]
    generalize M1 ++ [MO.lst (cs_KINDS.map D.str)] = M2 at a2 k2 p2 ⊢
    refine lc_pe (g := gMany [4, 5]) (inj := fun p : Str × Str × Int × Int => D.tup [.str p.1, wD p.2]) (e := fun p => .str (workRow p)) (fun M' p => by rw [List.append_nil]; exact guard_lst (p.at k2)) (fun q hq M' p => ⟨_, rfl, ?_⟩) fun M3 p3 => ?_
    · dsimp only [setAll, List.set]
      have hq' := List.of_mem_zip hq
      walk_at "okw"
      refine ⟨by decide, ?_⟩
      rw [show wD q.2 = .tup [.str q.2.1, .int q.2.2.1, .int q.2.2.2] from rfl, add_tup (by simp)]
      exact law_row_ok (ws := ["work", q.1, q.2.1]) (ns := [q.2.2.1, q.2.2.2]) (few_work (nam_kind hq'.1) (h.wn _ hq'.2))
    · refine ⟨by rw [List.length_map]; exact hz _ (by omega), ?_⟩
      rw [add_lst ((p3.trans Pe.app).at a2) at_end (by simp only [List.length_map]; omega)]
      exact hK _ _ ⟨_, _, _, _, rfl, by rw [at_end]; simp, p2.trans (p3.trans (Pe.app.trans Pe.app))⟩
  clear a1 p1
  rintro f M1 ⟨l, x3, x4, x5, rfl, a1, p1⟩
  dsimp only
  refine seq_mid (Q0 := fun f M' => ∃ l x3 x4 x5 x6, f = .nx [some Pl, some St, some (.obj l), x3, x4, x5, x6] ∧ M'[l]? = some (.lst ((us.map unitRow ++ (cs_KINDS.zip wk).map workRow ++ [rowP ["givens"] [g]] ++ ds.map deedRow).map .str)) ∧ Pe M M') (fun K hK => ?_) ?_
  · walk_at "okw"
    rw [iy0, ok_some]
    refine ⟨by decide, ?_⟩
    refine (law_row_ok (M := M1) (ws := ["givens"]) (ns := [g]) (few_word nam_givens (by simp) (fun n hn => by rw [List.mem_singleton.mp hn]; exact h.gn))).imp ?_
    rintro _ M2 ⟨rfl, p2⟩
    refine ⟨by decide, ?_⟩
    rw [add_lst ((p2.trans Pe.app).at a1) at_end (by simp only [List.length_map, List.length_append, List.length_singleton]; omega)]
    have a3 : (M2 ++ [MO.lst [D.str (rowP ["givens"] [g])]] ++ [MO.lst ((us.map unitRow ++ (cs_KINDS.zip wk).map workRow).map D.str ++ [D.str (rowP ["givens"] [g])])])[(M2 ++ [MO.lst [D.str (rowP ["givens"] [g])]]).length]? = some (.lst ((us.map unitRow ++ (cs_KINDS.zip wk).map workRow ++ [rowP ["givens"] [g]]).map .str)) := by rw [at_end]; simp
    have p3 : Pe M (M2 ++ [MO.lst [D.str (rowP ["givens"] [g])]] ++ [MO.lst ((us.map unitRow ++ (cs_KINDS.zip wk).map workRow).map D.str ++ [D.str (rowP ["givens"] [g])])]) := p1.trans (p2.trans (Pe.app.trans Pe.app))
    generalize M2 ++ [MO.lst [D.str (rowP ["givens"] [g])]] ++ [MO.lst ((us.map unitRow ++ (cs_KINDS.zip wk).map workRow).map D.str ++ [D.str (rowP ["givens"] [g])])] = M3 at a3 p3 ⊢
    generalize (M2 ++ [MO.lst [D.str (rowP ["givens"] [g])]]).length = l3 at a3 ⊢
    rw [iy1, ok_some]
    refine ⟨_, itAny_tup, ?_⟩
    dsimp only
    refine lc_pe (g := gOne 6) (inj := dqD) (e := fun p => .str (deedRow p)) (fun _ _ => guard0) (fun q hq M' p => ⟨_, rfl, ?_⟩) fun M4 p4 => ?_
    · dsimp only [gOne, List.set]
      have hq' := h.dn q hq
      walk_at "okw"
      exact law_row_ok (ws := [q.1]) (ns := q.2) (few_word hq'.1 (Nat.le_trans hq'.2.1 (by decide)) hq'.2.2)
    · refine ⟨by rw [List.length_map]; exact hz _ (by omega), ?_⟩
      rw [add_lst ((p4.trans Pe.app).at a3) at_end (by simp only [List.length_map, List.length_append, List.length_singleton]; omega)]
      exact hK _ _ ⟨_, _, _, _, _, rfl, by rw [at_end]; simp, p3.trans (p4.trans (Pe.app.trans Pe.app))⟩
  clear a1 p1
  rintro f M1 ⟨l, x3, x4, x5, x6, rfl, a1, p1⟩
  dsimp only
  walk_at "okw"
  rw [iy2, ok_some]
  refine ⟨by decide, ?_⟩
  rw [add_tup (by rw [List.length_map]; have := h.ol; simp; omega)]
  refine (law_row_ok (M := M1) (ws := ["outs"]) (ns := os) (few_word nam_outs (Nat.le_trans h.ol (by decide)) h.on)).imp ?_
  rintro _ M2 ⟨rfl, p2⟩
  refine ⟨by decide, ?_⟩
  rw [add_lst ((p2.trans Pe.app).at a1) at_end (by simp only [List.length_map, List.length_append, List.length_singleton]; omega)]
  exact ⟨_, rfl, by rw [at_end]; unfold rowsP; simp, p1.trans (p2.trans (Pe.app.trans Pe.app))⟩
end
end
section
/-! the draws -/
theorem lc_draw {M : Mem} {k c : Nat} {g : mG} {te : mE} {δ : DSt} {P : D → Prop} {l : List D} (W : Well M k c) (h : ∀ d ∈ l, ∀ M', Well M' k c → Ext k c M M' → ∃ δ1, g d δ = some δ1 ∧ Ok (te δ1 M') fun y M2 => P y ∧ Well M2 k c ∧ Ext k c M' M2) :
    Ok (lcM [] g mYes te δ l M) fun xs M' => (∀ x ∈ xs, P x) ∧ xs.length = l.length ∧ Well M' k c ∧ Ext k c M M' := by
  have := ok_lcI (gd := []) (g := g) (tt := mYes) (te := te) (δ := δ) (Q := fun xs M' => (∀ x ∈ xs, P x) ∧ xs.length = l.length ∧ Well M' k c ∧ Ext k c M M') (fun n acc M' => (∀ x ∈ acc, P x) ∧ acc.length = n ∧ Well M' k c ∧ Ext k c M M') l 0 [] M ⟨by simp, rfl, W, .refl⟩ (fun _ _ _ _ => guarded_nil') ?_ ?_
  · simpa using this
  · rintro i d acc M' hd ⟨h1, h2, W', e'⟩
    obtain ⟨δ1, hg, ho⟩ := h d (List.mem_of_getElem? hd) M' W' e'
    refine ⟨δ1, hg, ?_⟩
    rw [ok_Yes, if_pos rfl]
    refine ho.imp ?_
    rintro y M2 ⟨p, W2, e2⟩
    refine ⟨fun x hx => ?_, by simp [h2], W2, e'.trans e2⟩
    rcases List.mem_append.mp hx with hx | hx
    · exact h1 x hx
    · rw [List.mem_singleton.mp hx]; exact p
  · rintro acc M' ⟨h1, h2, h3, h4⟩
    exact ⟨h1, by simpa using h2, h3, h4⟩
theorem ints_of {P : Int → Prop} : ∀ {xs : List D}, (∀ x ∈ xs, ∃ v, x = D.int v ∧ P v) → ∃ ns : List Int, xs = ns.map D.int ∧ ∀ v ∈ ns, P v
  | [], _ => ⟨[], rfl, by simp⟩
  | x :: xs, h => by
    obtain ⟨v, rfl, p⟩ := h x List.mem_cons_self
    obtain ⟨ns, rfl, q⟩ := ints_of fun y hy => h y (List.mem_cons_of_mem _ hy)
    exact ⟨v :: ns, rfl, fun u hu => (List.mem_cons.mp hu).elim (fun e => e ▸ p) (q u)⟩
theorem well_set {M : Mem} {k c a : Nat} {o : MO} (W : Well M k c) (h1 : a ≠ k) (h2 : a ≠ c) : Well (M.set a o) k c := by
  obtain ⟨cells, t, r, w1, w2, w3⟩ := W.ex
  exact ⟨cells, t, r, by rw [List.getElem?_set_ne h1]; exact w1, by rw [List.getElem?_set_ne h2]; exact w2, w3⟩
theorem ext_set {k c : Nat} {M M' : Mem} {n : Nat} {o : MO} (e : Ext k c M M') (h : M.length ≤ n) : Ext k c M (M'.set n o) :=
  ⟨by rw [List.length_set]; exact e.len, fun i hi h1 h2 => by rw [List.getElem?_set_ne (by omega)]; exact e.old i hi h1 h2⟩
theorem num_of {v : Int} (h0 : -1000000 ≤ v) (h1 : v ≤ 1000000) : Num v := by
  unfold Num
  have : (10 : Nat) ^ 18 = 1000000000000000000 := by decide
  omega
theorem number_ok {M : Mem} {k c : Nat} (W : Well M k c) : Ok (f__law_number [.obj k] M) fun d M' => (∃ v, d = .int v ∧ Num v) ∧ Well M' k c ∧ Ext k c M M' := by
  unfold f__law_number; rw [ok_fn]; unfold m__law_number
  walk_at "okw"
  refine (draw_ok W (by decide) (by decide)).imp ?_
  rintro d M1 ⟨⟨v, rfl, a1, b1⟩, W1, e1⟩
  have hlt := W1.lt
  walk_at "okw"
  by_cases h : 5 < v
  · rw [ifp_pos (decide_eq_true h)]
    walk_at "okw"
    refine ⟨by decide, mul_left (by decide) (by decide), by decide, ?_⟩
    have hv : v = 6 ∨ v = 7 := by omega
    rcases hv with rfl | rfl
    · refine (ok_ixL at_end (by decide) (by decide) rfl).mpr ?_
      refine (draw_ok (W1.pe Pe.app) (by decide) (by decide)).imp ?_
      rintro d M2 ⟨⟨u, rfl, a2, b2⟩, W2, e2⟩
      walk_at "okw"
      refine ⟨by decide, by decide, ?_⟩
      refine (ok_ixL at_end (by decide) (by decide) rfl).mpr ?_
      walk_at "okw"
      exact ⟨num_of (by omega) (by omega), W2.pe Pe.app, e1.trans (Pe.app.ext.trans (e2.trans Pe.app.ext))⟩
    · refine (ok_ixL at_end (by decide) (by decide) rfl).mpr ?_
      refine (draw_ok (W1.pe Pe.app) (by decide) (by decide)).imp ?_
      rintro d M2 ⟨⟨u, rfl, a2, b2⟩, W2, e2⟩
      walk_at "okw"
      refine ⟨by decide, by decide, ?_⟩
      refine (ok_ixL at_end (by decide) (by decide) rfl).mpr ?_
      walk_at "okw"
      have b2 : u < 2000001 := b2
      have h6 : (10 : Int) ^ (Int.toNat 6) = 1000000 := by decide
      rw [h6]
      exact ⟨num_of (by omega) (by omega), W2.pe Pe.app, e1.trans (Pe.app.ext.trans (e2.trans Pe.app.ext))⟩
  · rw [ifp_neg (decide_eq_false h)]
    walk_at "okw"
    refine ⟨by decide, by decide, by decide, ?_⟩
    refine ok_pick at_end a1 (by simp; omega) fun d hd => ?_
    obtain ⟨m, rfl, m0, m1⟩ : ∃ m, d = D.int m ∧ -1000000 ≤ m ∧ m ≤ 1000000 := by
      simp only [List.mem_cons, List.not_mem_nil, or_false] at hd
      rcases hd with rfl | rfl | rfl | rfl | rfl | rfl <;> exact ⟨_, rfl, by decide, by decide⟩
    exact ⟨⟨m, rfl, num_of m0 m1⟩, W1.pe Pe.app, e1.trans Pe.app.ext⟩
theorem worth_ok {M : Mem} {k c n : Nat} {ts : List Int} (W : Well M k c) (hn : M[n]? = some (.lst (ts.map .int))) (hk : n ≠ k) (hc : n ≠ c) (h0 : 0 < ts.length) (h1 : ts.length ≤ 100) :
    Ok (f__law_worth [.obj k, .obj n] M) fun d M' => (∃ v, d = .int v ∧ v ∈ ts) ∧ Well M' k c ∧ Ext k c M M' := by
  unfold f__law_worth; rw [ok_fn]; unfold m__law_worth
  walk_at "slots"
  walk_at "okw"
  refine (draw_ok W (by decide) (by decide)).imp ?_
  rintro _ M1 ⟨⟨v, rfl, a1, b1⟩, W1, e1⟩
  have hn1 := e1.at hn hk hc
  walk_at "okw"
  by_cases hv : v = 0
  · rw [ifp_pos (by simpa using hv)]
    walk_at "okw"
    rw [ok_len_lst hn1, List.length_map]
    rw [show fMin2 [.int 3, .int (ts.length : Nat)] M1 = some (.int (if (ts.length : Int) < 3 then ts.length else 3), M1) from rfl, ok_some]
    have hm : 0 < (if (ts.length : Int) < 3 then (ts.length : Int) else 3) ∧ (if (ts.length : Int) < 3 then (ts.length : Int) else 3) ≤ 3 ∧ (if (ts.length : Int) < 3 then (ts.length : Int) else 3) ≤ ts.length := by split <;> omega
    generalize (if (ts.length : Int) < 3 then (ts.length : Int) else 3) = m at hm ⊢
    refine (draw_ok W1 (by omega) (by omega)).imp ?_
    rintro _ M2 ⟨⟨u, rfl, a2, b2⟩, W2, e2⟩
    have hn2 := e2.at hn1 hk hc
    walk_at "okw"
    have hi : (-1 - u + (ts.length : Int)).toNat < ts.length := by omega
    have e : ixD (.obj n) (.int (-1 - u)) M2 = some (.int (ts[(-1 - u + (ts.length : Int)).toNat]), M2) := by
      simp only [ixD, asList, hn2]
      unfold atI ixN
      rw [if_neg (by omega), List.length_map, if_pos (by omega)]
      simp only [Option.bind_some, List.getElem?_map, List.getElem?_eq_getElem hi, Option.map_some]
    rw [e, ok_some]
    exact ⟨⟨_, rfl, List.getElem_mem hi⟩, W2, e1.trans e2⟩
  · rw [ifp_neg (by simpa using hv)]
    walk_at "okw"
    rw [ok_len_lst hn1, List.length_map]
    refine (draw_ok W1 (by omega) (by omega)).imp ?_
    rintro _ M2 ⟨⟨u, rfl, a2, b2⟩, W2, e2⟩
    refine ok_pick (e2.at hn1 hk hc) a2 (by rw [List.length_map]; exact b2) fun d hd => ?_
    obtain ⟨x, hx, rfl⟩ := List.mem_map.mp hd
    exact ⟨⟨_, rfl, hx⟩, W2, e1.trans e2⟩
def DqOk (q : Dq) : Prop := q.1 ∈ cs_KINDS ∧ q.2.length ≤ 3 ∧ ∀ n ∈ q.2, Num n
theorem parts_of {w : Str} (h : w ∈ cs_KINDS) : ∃ s, (w, s) ∈ parts := by
  have e : cs_KINDS = parts.map (·.1) := rfl
  rw [e] at h
  obtain ⟨p, hp, rfl⟩ := List.mem_map.mp h
  exact ⟨p.2, hp⟩
theorem eq_il {M : Mem} {n : Nat} {xs : List Int} (h : M[n]? = some (.lst (xs.map .int))) : eqD (.obj n) (.obj M.length) (M ++ [MO.lst []]) = some (.bl xs.isEmpty, M ++ [MO.lst []]) := by
  have e2 : (M ++ [MO.lst []])[M.length]? = some (.lst (([] : List Int).map .int)) := at_end
  unfold eqD
  rw [eqB_ints (at_old h) e2]
  cases xs <;> rfl
theorem ne_il {M : Mem} {n : Nat} {xs : List Int} (h : M[n]? = some (.lst (xs.map .int))) : neD (.obj n) (.obj M.length) (M ++ [MO.lst []]) = some (.bl (!xs.isEmpty), M ++ [MO.lst []]) := by
  have e2 : (M ++ [MO.lst []])[M.length]? = some (.lst (([] : List Int).map .int)) := at_end
  unfold neD
  rw [eqB_ints (at_old h) e2]
  cases xs <;> rfl
theorem in_w {M : Mem} {w s : Str} (h : (w, s) ∈ parts) : inE (.str "w") (.str s) M = some (.bl (s.cps.toList.contains 119), M) := by
  simp only [parts, List.mem_cons, List.not_mem_nil, or_false, Prod.mk.injEq] at h
  rcases h with ⟨rfl, rfl⟩ | ⟨rfl, rfl⟩ | ⟨rfl, rfl⟩ | ⟨rfl, rfl⟩ | ⟨rfl, rfl⟩ | ⟨rfl, rfl⟩ | ⟨rfl, rfl⟩ | ⟨rfl, rfl⟩ | ⟨rfl, rfl⟩ | ⟨rfl, rfl⟩ | ⟨rfl, rfl⟩ <;> kernel_rfl
theorem cps_n : ("n" : Str).cps.toList.contains 119 = false := by decide +kernel
theorem deed_ok {M : Mem} {k c mn tn : Nat} {ks : List Str} {ts : List Int} (W : Well M k c) (hm : M[mn]? = some (.lst (ks.map .str))) (hks : ∀ w ∈ ks, w ∈ cs_KINDS) (k0 : 0 < ks.length) (k1 : ks.length ≤ 20) (ht : M[tn]? = some (.lst (ts.map .int))) (tb : ∀ v ∈ ts, Num v) (tl : ts.length ≤ 100) (mk : mn ≠ k) (mc : mn ≠ c) (tk : tn ≠ k) (tc : tn ≠ c) :
    Ok (f__law_deed [.obj k, .obj mn, .obj tn] M) fun x M' => (∃ q : Dq, x = dqD q ∧ DqOk q) ∧ Well M' k c ∧ Ext k c M M' := by
  unfold f__law_deed; rw [ok_fn]; unfold m__law_deed
  walk_at "slots"
  have hlt := W.lt
  refine seq_mid (Q0 := fun f M1 => ∃ w s, w ∈ cs_KINDS ∧ (w, s) ∈ parts ∧ f = .nx [some (.obj k), some (.obj mn), some (.obj tn), some (.str w), none, none] ∧ Well M1 k c ∧ Ext k c M M1) (fun K hK => ?_) ?_
  · walk_at "okw"
    rw [ok_len_lst hm, List.length_map]
    refine (draw_ok W (by omega) (by omega)).imp ?_
    rintro _ M1 ⟨⟨v, rfl, a1, b1⟩, W1, e1⟩
    refine ok_pick (e1.at hm mk mc) a1 (by rw [List.length_map]; exact b1) fun d hd => ?_
    obtain ⟨w, hw, rfl⟩ := List.mem_map.mp hd
    obtain ⟨s, hs⟩ := parts_of (hks w hw)
    exact hK _ _ ⟨w, s, hks w hw, hs, rfl, W1, e1⟩
  rintro f M1 ⟨w, s, hw, hs, rfl, W1, e1⟩
  dsimp only
  refine seq_mid (Q0 := fun f M2 => ∃ w s, w ∈ cs_KINDS ∧ (w, s) ∈ parts ∧ (ts = [] → s.cps.toList.contains 119 = false) ∧ f = .nx [some (.obj k), some (.obj mn), some (.obj tn), some (.str w), none, none] ∧ Well M2 k c ∧ Ext k c M M2) (fun K hK => ?_) ?_
  · have ht1 := e1.at ht tk tc
    walk_at "okw"
    rw [eq_il ht1]
    refine ⟨by decide, ?_⟩
    walk_at "okw"
    by_cases hne : ts = []
    · rw [ifp_pos (by rw [hne]; rfl)]
      refine (signs_ok hs).imp ?_
      rintro d M2 ⟨rfl, p2⟩
      rw [in_w hs]
      walk_at "okw"
      by_cases hb : s.cps.toList.contains 119 = true
      · rw [ifp_pos hb]
        exact hK _ _ ⟨"number", "n", by decide +kernel, by simp [parts], fun _ => cps_n, rfl, (W1.pe Pe.app).pe p2, e1.trans (Pe.app.trans p2).ext⟩
      · rw [ifp_neg (by simpa using hb)]
        exact hK _ _ ⟨w, s, hw, hs, fun _ => by simpa using hb, rfl, (W1.pe Pe.app).pe p2, e1.trans (Pe.app.trans p2).ext⟩
    · rw [ifp_neg (by cases ts <;> simp_all)]
      exact hK _ _ ⟨w, s, hw, hs, fun z => absurd z hne, rfl, W1.pe Pe.app, e1.trans Pe.app.ext⟩
  clear W1 e1 hs hw
  rintro f M1 ⟨w, s, hw, hs, hnil, rfl, W1, e1⟩
  dsimp only
  refine seq_cut fun K hK => ?_; walk_at "okw"
  refine ⟨by decide, ?_⟩
  subst hK; dsimp only
  have hl1 := e1.len
  have hp1 : (M1 ++ [MO.lst [D.str w]])[M1.length]? = some (.lst (.str w :: ([] : List Int).map .int)) := at_end
  have W2 : Well (M1 ++ [MO.lst [D.str w]]) k c := W1.pe Pe.app
  have e2 : Ext k c M (M1 ++ [MO.lst [D.str w]]) := e1.trans Pe.app.ext
  generalize M1 ++ [MO.lst [D.str w]] = M2 at hp1 W2 e2 ⊢
  generalize M1.length = p at hl1 hp1 ⊢
  refine seq_mid (Q0 := fun f M' => ∃ (ps : List Int) (x5 : Option D), f = .nx [some (.obj k), some (.obj mn), some (.obj tn), some (.str w), some (.obj p), x5] ∧ M'[p]? = some (.lst (.str w :: ps.map .int)) ∧ ps.length ≤ 3 ∧ (∀ v ∈ ps, Num v) ∧ Well M' k c ∧ Ext k c M M') (fun K hK => ?_) ?_
  · walk_at "okw"
    refine (signs_ok hs).imp ?_
    rintro d M3 ⟨rfl, p3⟩
    refine ⟨_, rfl, ?_⟩
    dsimp only
    refine ok_loop (fun n δ M' => ∃ (ps : List Int) (x5 : Option D), ps.length = n ∧ δ = [some (.obj k), some (.obj mn), some (.obj tn), some (.str w), some (.obj p), x5] ∧ M'[p]? = some (.lst (.str w :: ps.map .int)) ∧ (∀ v ∈ ps, Num v) ∧ Well M' k c ∧ Ext k c M M') _ 0 _ _ ⟨[], none, rfl, rfl, p3.at hp1, by simp, W2.pe p3, e2.trans p3.ext⟩ (fun _ _ _ _ => guarded_nil') ?_ ?_
    · rintro i d δ M' hdi ⟨ps, x5, hn, rfl, hp, hbd, W', e'⟩
      rw [Nat.zero_add] at hn ⊢
      rw [List.getElem?_map] at hdi
      have hsl := (sign_of hs).2
      cases ec : s.cps.toList[i]? with
      | none => rw [ec] at hdi; cases hdi
      | some ch =>
        rw [ec] at hdi
        cases hdi
        have hil := (List.getElem?_eq_some_iff.mp ec).1
        have hmem : ch ∈ s.cps.toList := List.mem_of_getElem? ec
        refine ⟨_, rfl, ?_⟩
        dsimp only [gOne, List.set]
        have fin : ∀ (v : Int) (M3 : Mem), Num v → Well M3 k c → Ext k c M' M3 → (M3.set p (.lst (.str w :: ps.map .int ++ [.int v])))[p]? = some (.lst (.str w :: (ps ++ [v]).map .int)) ∧ (∀ u ∈ ps ++ [v], Num u) ∧ Well (M3.set p (.lst (.str w :: ps.map .int ++ [.int v]))) k c ∧ Ext k c M (M3.set p (.lst (.str w :: ps.map .int ++ [.int v]))) := fun v M3 hv W3 e3 => by
          have h3 := e3.at hp (by omega) (by omega)
          refine ⟨by rw [at_set h3]; simp, fun u hu => ?_, well_set W3 (by omega) (by omega), ext_set (e'.trans e3) hl1⟩
          rcases List.mem_append.mp hu with h | h
          · exact hbd u h
          · rw [List.mem_singleton.mp h]; exact hv
        have hlen : ∀ v : Int, (D.str w :: ps.map .int).length < sizeLine := fun _ => by
          rw [List.length_cons, List.length_map]; exact Nat.lt_of_le_of_lt (show ps.length + 1 ≤ 10 by omega) (by decide)
        have hch : ch = 110 ∨ ch = 119 ∨ ch = 115 := by
          have := List.all_eq_true.mp (sign_of hs).1 ch hmem
          simp only [Bool.or_eq_true, beq_iff_eq] at this
          omega
        rcases hch with rfl | rfl | rfl
        · rw [show (⟨#[110]⟩ : Str) = "n" from s_n.symm]
          walk_at "okw"
          refine ⟨listAt hp, ?_⟩
          refine (number_ok W').imp ?_
          rintro _ M3 ⟨⟨v, rfl, hv⟩, W3, e3⟩
          rw [ok_app (e3.at hp (by omega) (by omega)) (hlen 0)]
          have := fin v M3 hv W3 e3
          exact ⟨_, _, by simp [hn], rfl, this.1, this.2.1, this.2.2.1, this.2.2.2⟩
        · rw [show (⟨#[119]⟩ : Str) = "w" from s_w.symm]
          walk_at "okw"
          refine ⟨listAt hp, ?_⟩
          have hne : ts ≠ [] := fun z => by
            have := hnil z
            rw [List.contains_iff_mem.mpr hmem] at this
            cases this
          refine (worth_ok W' (e'.at ht tk tc) tk tc (List.length_pos_iff.mpr hne) tl).imp ?_
          rintro _ M3 ⟨⟨v, rfl, hv⟩, W3, e3⟩
          rw [ok_app (e3.at hp (by omega) (by omega)) (hlen 0)]
          have := fin v M3 (tb v hv) W3 e3
          exact ⟨_, _, by simp [hn], rfl, this.1, this.2.1, this.2.2.1, this.2.2.2⟩
        · rw [show (⟨#[115]⟩ : Str) = "s" from s_s.symm]
          walk_at "okw"
          refine ⟨listAt hp, by decide, by decide, ?_⟩
          have hpl := lt_at hp
          have hk' := W'.lt
          refine (draw_ok (W'.pe Pe.app) (by decide) (by decide)).imp ?_
          rintro _ M3 ⟨⟨v, rfl, a3, b3⟩, W3, e3⟩
          refine ok_pick (e3.at at_end (by omega) (by omega)) a3 b3 fun d hd => ?_
          obtain ⟨m, rfl, m0, m1⟩ : ∃ m, d = D.int m ∧ 0 < m ∧ m ≤ 1000000 := by
            simp only [List.mem_cons, List.not_mem_nil, or_false] at hd
            rcases hd with rfl | rfl | rfl <;> exact ⟨_, rfl, by decide, by decide⟩
          refine (draw_ok W3 m0 (by omega)).imp ?_
          rintro _ M4 ⟨⟨u, rfl, a4, b4⟩, W4, e4⟩
          have e34 : Ext k c M' M4 := Pe.app.ext.trans (e3.trans e4)
          rw [ok_app (e34.at hp (by omega) (by omega)) (hlen 0)]
          have := fin u M4 (num_of (by omega) (by omega)) W4 e34
          exact ⟨_, _, by simp [hn], rfl, this.1, this.2.1, this.2.2.1, this.2.2.2⟩
    · rintro δ M' ⟨ps, x5, hn, rfl, hp, hbd, W', e'⟩
      rw [Nat.zero_add, List.length_map] at hn
      exact hK _ _ ⟨ps, x5, rfl, hp, by rw [hn]; exact (sign_of hs).2, hbd, W', e'⟩
  rintro f M3 ⟨ps, x5, rfl, hp, hpl, hbd, W3, e3⟩
  dsimp only
  walk_at "okw"
  rw [ok_tupL hp]
  exact ⟨⟨(w, ps), rfl, hw, hpl, hbd⟩, W3, e3⟩
end
section
/-! the stretch that is drawn -/
theorem rng_at {n i : Nat} {d : D} (h : (rngI 0 (n : Int)).items[i]? = some d) : i < n ∧ d = .int (i : Nat) := by
  unfold rngI at h
  simp only [Int.sub_zero, Int.toNat_natCast, List.getElem?_map] at h
  have hi : i < n := by
    cases hr : (List.range n)[i]? with
    | none => rw [hr] at h; cases h
    | some z => have := (List.getElem?_eq_some_iff.mp hr).1; simpa using this
  rw [List.getElem?_range hi] at h
  cases h
  exact ⟨hi, by simp⟩
theorem rng_len {n : Nat} : (rngI 0 (n : Int)).items.length = n := by simp [rngI]
theorem okR_nat {n : Nat} (h : n ≤ 1000) : okR (n : Int) = true := by
  unfold okR
  simp only [Bool.and_eq_true, decide_eq_true_eq]
  omega
theorem rngl_ok {M : Mem} {n : Nat} (h : n ≤ 500) : fListRng [.int (n : Nat)] M = some (.obj M.length, M ++ [.lst (((List.range n).map fun a : Nat => (a : Int)).map .int)]) := by
  dsimp only [fListRng]
  rw [if_pos (by omega)]
  simp
theorem ix_q {M : Mem} {Q : D → Mem → Prop} {q : Dq} : Ok (ixD (dqD q) (.int 0) M) Q ↔ Q (.str q.1) M := by unfold dqD; exact ix_tup0
theorem there_ok {M : Mem} {g : Nat} {ds : List Dq} (hg : g ≤ 6) (hl : ds.length ≤ 30) :
    Ok (f__law_there [.tup [.int (g : Nat), .tup (ds.map dqD), .tup []]] M) fun x M' => ∃ (n : Nat) (ts : List Int), x = .obj n ∧ M.length ≤ n ∧ M'[n]? = some (.lst (ts.map .int)) ∧ ts.length ≤ 100 ∧ (∀ v ∈ ts, Num v) ∧ Pe M M' := by
  unfold f__law_there; rw [ok_fn]; unfold m__law_there
  walk_at "slots"
  refine seq_cut fun K hK => ?_; walk_at "okw"
  subst hK; dsimp only
  walk_at "okw"
  rw [rngl_ok (by omega), ok_some]
  have p1 : Pe M (M ++ [MO.lst (((List.range g).map fun a : Nat => (a : Int)).map .int)]) := Pe.app
  have a1 : (M ++ [MO.lst (((List.range g).map fun a : Nat => (a : Int)).map .int)])[M.length]? = some (.lst (((List.range g).map fun a : Nat => (a : Int)).map .int)) := at_end
  generalize M ++ [MO.lst (((List.range g).map fun a : Nat => (a : Int)).map .int)] = M1 at p1 a1 ⊢
  refine Ok.imp (ok_lcI (Q := fun xs M' => ∃ ts : List Int, xs = ts.map .int ∧ ts.length ≤ ds.length ∧ (∀ v ∈ ts, Num v) ∧ M' = M1)
    (fun n acc M' => ∃ ts : List Int, acc = ts.map .int ∧ ts.length ≤ n ∧ (∀ v ∈ ts, Num v) ∧ M' = M1) _ 0 [] M1 ⟨[], rfl, Nat.le_refl _, by simp, rfl⟩ (fun _ _ _ _ => guarded_nil') ?_ ?_) ?_
  · rintro i d acc M' hd ⟨ts, rfl, hn, hb, rfl⟩
    obtain ⟨q, hq, rfl⟩ := enum_map hd
    have hi := (List.getElem?_eq_some_iff.mp hq).1
    refine ⟨_, rfl, ?_⟩
    dsimp only [setAll, List.set]
    walk_at "okw"
    rw [ix_q]
    refine ⟨by decide, ?_⟩
    rw [show ∀ M : Mem, notInD (.str q.1) (.tup [.str "write", .str "keep"]) M = some (.bl (!(([D.str "write", D.str "keep"]).any fun z => eqF z (.str q.1))), M) from fun _ => rfl, ok_some]
    generalize (!(([D.str "write", D.str "keep"]).any fun z => eqF z (.str q.1))) = b
    refine ⟨_, rfl, ?_⟩
    cases b with
    | true =>
      rw [if_pos rfl]
      walk_at "okw"
      refine ⟨ts ++ [(g : Int) + (i : Nat)], by simp, by simp; omega, fun v hv => ?_⟩
      rcases List.mem_append.mp hv with h | h
      · exact hb v h
      · rw [List.mem_singleton.mp h]; exact num_of (by omega) (by omega)
    | false =>
      rw [if_neg (by decide)]
      exact ⟨ts, rfl, by omega, hb, rfl⟩
  · rintro acc M' ⟨ts, rfl, hn, hb, rfl⟩
    exact ⟨ts, rfl, by rw [len_enum, List.length_map, Nat.zero_add] at hn; exact hn, hb, rfl⟩
  · rintro xs M' ⟨ts, h, hn, hb, rfl⟩
    rw [List.nil_append] at h
    subst h
    refine ⟨by rw [List.length_map]; exact Nat.le_trans (show ts.length ≤ 100 by omega) (by decide), ?_⟩
    rw [add_lst (at_old a1) at_end (by simp only [List.length_map, List.length_range]; omega)]
    refine ⟨_, (List.range g).map (fun a : Nat => (a : Int)) ++ ts, rfl, ?_, by rw [at_end]; simp, by simp; omega, fun v hv => ?_, p1.trans (Pe.app.trans Pe.app)⟩
    · have := p1.len
      simp only [List.length_append]; omega
    · rcases List.mem_append.mp hv with h | h
      · obtain ⟨a, ha, rfl⟩ := List.mem_map.mp h
        have := List.mem_range.mp ha
        exact num_of (by omega) (by omega)
      · exact hb v h
def kinds1 : List Str := cs_KINDS.eraseIdx 3
theorem rem_times : (cs_KINDS.map D.str).all (fun z => (remD (.str "times") z).isSome) = true ∧ (cs_KINDS.map D.str).findIdx? (fun z => remD (.str "times") z == some true) = some 3 := by decide +kernel
theorem remove_ok {M : Mem} {n : Nat} {Q : D → Mem → Prop} (h : M[n]? = some (.lst (cs_KINDS.map .str))) : Ok (fRemove (.obj n) [.str "times"] M) Q ↔ Q .non (M.set n (.lst (kinds1.map .str))) := by
  unfold fRemove
  rw [asLst_of h]
  simp only [Option.bind_some]
  rw [if_pos rem_times.1, rem_times.2]
  exact ok_some
theorem kind_lay {w : Str} (h : w ∈ cs_KINDS) : PyData.canLay0 (.str w) = true := by
  have : ∀ w ∈ cs_KINDS, PyData.canLay0 (.str w) = true := by decide +kernel
  exact this w h
theorem menu_ok {M : Mem} {ds : List Dq} (hd : ∀ q ∈ ds, DqOk q) (hl : ds.length ≤ 30) :
    Ok (f__law_menu [.tup (ds.map dqD)] M) fun x M' => ∃ (n : Nat) (ks : List Str), x = .obj n ∧ M.length ≤ n ∧ M'[n]? = some (.lst (ks.map .str)) ∧ (∀ w ∈ ks, w ∈ cs_KINDS) ∧ 0 < ks.length ∧ ks.length ≤ 20 ∧ Pe M M' := by
  unfold f__law_menu; rw [ok_fn]; unfold m__law_menu
  walk_at "slots"
  refine seq_cut fun K hK => ?_; walk_at "okw"
  refine words_ok.imp ?_
  rintro _ _ ⟨rfl, rfl⟩
  subst hK; dsimp only
  have p1 : Pe M (M ++ [MO.lst (cs_KINDS.map D.str)]) := Pe.app
  have a1 : (M ++ [MO.lst (cs_KINDS.map D.str)])[M.length]? = some (.lst (cs_KINDS.map .str)) := at_end
  generalize M ++ [MO.lst (cs_KINDS.map D.str)] = M1 at p1 a1 ⊢
  have hln : M.length ≤ M.length := Nat.le_refl _
  generalize hn : M.length = n at a1 ⊢
  walk_at "okw"
  rw [lc_pure (inj := dqD) (b := fun q => q.1 == ("times" : Str)) (e := dqD) guard0 ds fun q hq => ⟨_, rfl, of_ok (by
    dsimp only [gOne, List.set]
    walk_at "okw"
    rw [ix_q, ok_eqS (kind_lay (hd q hq).1) (by decide +kernel)]
    exact ⟨_, rfl, rfl, rfl⟩), fun _ => rfl⟩]
  walk_at "okw"
  have hf : (ds.filter fun q => q.1 == ("times" : Str)).length ≤ 30 := Nat.le_trans (List.length_filter_le _ _) hl
  refine ⟨by rw [List.length_map]; exact Nat.le_trans hf (by decide), ?_⟩
  rw [ok_len_lst at_end, List.length_map]
  walk_at "okw"
  by_cases h5 : (5 : Int) < (ds.filter fun q => q.1 == ("times" : Str)).length
  · rw [ifp_pos (decide_eq_true h5)]
    walk_at "okw"
    refine ⟨listAt (at_old a1), ?_⟩
    rw [remove_ok (at_old a1)]
    refine ⟨n, kinds1, rfl, by omega, at_set (at_old a1), fun w hw => List.mem_of_mem_eraseIdx hw, by decide, by decide, pe_set (p1.trans Pe.app) (by omega)⟩
  · rw [ifp_neg (decide_eq_false h5)]
    exact ⟨n, cs_KINDS, rfl, by omega, at_old a1, fun w h => h, by decide, by decide, p1.trans Pe.app⟩
theorem dq_nam {q : Dq} (h : DqOk q) : Nam q.1 ∧ q.2.length ≤ 5 ∧ ∀ n ∈ q.2, Num n := ⟨nam_kind h.1, Nat.le_trans h.2.1 (by decide), h.2.2⟩
theorem stretch_ok {M : Mem} {k c many : Nat} (W : Well M k c) (hmany : many ≤ 24) :
    Ok (f__law_stretch [.obj k, .int (many : Nat)] M) fun x M' => (∃ (g : Int) (ds : List Dq) (os : List Int), x = strD g ds os ∧ Num g ∧ ds.length ≤ 30 ∧ (∀ d ∈ ds, DqOk d) ∧ os.length ≤ 10 ∧ ∀ n ∈ os, Num n) ∧ Well M' k c ∧ Ext k c M M' := by
  unfold f__law_stretch; rw [ok_fn]; unfold m__law_stretch
  walk_at "slots"
  have hlt := W.lt
  refine seq_mid (Q0 := fun f M1 => ∃ g : Nat, g ≤ 6 ∧ f = .nx [some (.obj k), some (.int (many : Nat)), some (.int (g : Nat)), none, none, none, none] ∧ Well M1 k c ∧ Ext k c M M1) (fun K hK => ?_) ?_
  · walk_at "okw"
    refine (draw_ok W (by decide) (by decide)).imp ?_
    rintro _ M1 ⟨⟨u, rfl, u0, u1⟩, W1, e1⟩
    refine (draw_ok W1 (by decide) (by decide)).imp ?_
    rintro _ M2 ⟨⟨v, rfl, v0, v1⟩, W2, e2⟩
    walk_at "okw"
    refine ⟨by decide, ?_⟩
    have hlt2 := W2.lt
    refine (draw_ok (W2.pe Pe.app) (by decide) (by decide)).imp ?_
    rintro _ M3 ⟨⟨z, rfl, z0, z1⟩, W3, e3⟩
    refine ok_pick (e3.at at_end (by omega) (by omega)) z0 z1 fun d hd => ?_
    have e03 := (e1.trans e2).trans (Pe.app.ext.trans e3)
    simp only [List.mem_cons, List.not_mem_nil, or_false] at hd
    rcases hd with rfl | rfl
    · exact hK _ _ ⟨u.toNat, by omega, by rw [Int.toNat_of_nonneg u0], W3, e03⟩
    · exact hK _ _ ⟨v.toNat, by omega, by rw [Int.toNat_of_nonneg v0], W3, e03⟩
  rintro f M1 ⟨g, hg, rfl, W1, e1⟩
  dsimp only
  refine seq_cut fun K hK => ?_; walk_at "okw"
  refine ⟨by decide, ?_⟩
  subst hK; dsimp only
  refine seq_mid (Q0 := fun f M2 => ∃ (ds : List Dq) (x4 : Option D), f = .nx [some (.obj k), some (.int (many : Nat)), some (.int (g : Nat)), some (.tup (ds.map dqD)), x4, none, none] ∧ ds.length ≤ 24 ∧ (∀ d ∈ ds, DqOk d) ∧ Well M2 k c ∧ Ext k c M M2) (fun K hK => ?_) ?_
  · walk_at "okw"
    refine ⟨okR_nat (by omega), ?_⟩
    refine ok_loop (fun i δ M2 => ∃ (ds : List Dq) (x4 : Option D), δ = [some (.obj k), some (.int (many : Nat)), some (.int (g : Nat)), some (.tup (ds.map dqD)), x4, none, none] ∧ ds.length = i ∧ (∀ d ∈ ds, DqOk d) ∧ Well M2 k c ∧ Ext k c M M2) _ 0 _ _ ⟨[], none, rfl, rfl, by simp, W1, e1⟩ (fun _ _ _ _ => guarded_nil') ?_ ?_
    · rintro i d δ M2 hd ⟨ds, x4, rfl, hn, hb, W2, e2⟩
      obtain ⟨hi, rfl⟩ := rng_at hd
      rw [Nat.zero_add] at hn ⊢
      refine ⟨_, rfl, ?_⟩
      dsimp only [gOne, List.set]
      walk_at "okw"
      refine (menu_ok hb (by omega)).imp ?_
      rintro _ M3 ⟨mn, ks, rfl, hmn, am, hks, k0, k1, p3⟩
      walk_at "okw"
      refine ⟨by decide, by decide, ?_⟩
      refine (there_ok hg (by omega)).imp ?_
      rintro _ M4 ⟨tn, ts, rfl, htn, at4, tl, tb, p4⟩
      have hlt2 := W2.lt
      have hl3 := p3.len
      refine (deed_ok (W2.pe (p3.trans p4)) (p4.at am) hks k0 k1 at4 tb tl (by omega) (by omega) (by omega) (by omega)).imp ?_
      rintro _ M5 ⟨⟨q, rfl, hq⟩, W5, e5⟩
      refine ⟨by decide, by rw [List.length_map]; exact Nat.le_trans (show ds.length + 1 ≤ 100 by omega) (by decide), ?_⟩
      refine ⟨ds ++ [q], _, by rw [List.map_append]; rfl, by simp [hn], fun d hd => ?_, W5, e2.trans ((p3.trans p4).ext.trans e5)⟩
      rcases List.mem_append.mp hd with h | h
      · exact hb d h
      · rw [List.mem_singleton.mp h]; exact hq
    · rintro δ M2 ⟨ds, x4, rfl, hn, hb, W2, e2⟩
      rw [rng_len, Nat.zero_add] at hn
      exact hK _ _ ⟨ds, x4, rfl, by omega, hb, W2, e2⟩
  clear W1 e1
  rintro f M2 ⟨ds, x4, rfl, hdl, hdb, W2, e2⟩
  dsimp only
  refine seq_cut fun K hK => ?_; walk_at "okw"
  refine ⟨by decide, by decide, ?_⟩
  refine (there_ok hg (by omega)).imp ?_
  rintro _ M3 ⟨tn, ts, rfl, htn, at3, tl, tb, p3⟩
  subst hK; dsimp only
  have hlt2 := W2.lt
  have W3 := W2.pe p3
  have e3 := e2.trans p3.ext
  refine seq_mid (Q0 := fun f M4 => ∃ (os : List Int) (on : Nat) (x4 : Option D), f = .nx [some (.obj k), some (.int (many : Nat)), some (.int (g : Nat)), some (.tup (ds.map dqD)), x4, some (.obj tn), some (.obj on)] ∧ M4[on]? = some (.lst (os.map .int)) ∧ os.length ≤ 10 ∧ (∀ n ∈ os, Num n) ∧ Well M4 k c ∧ Ext k c M M4) (fun K hK => ?_) ?_
  · walk_at "okw"
    refine (draw_ok W3 (by decide) (by decide)).imp ?_
    rintro _ M4 ⟨⟨u, rfl, u0, u1⟩, W4, e4⟩
    have at4 := e4.at at3 (by omega) (by omega)
    walk_at "okw"
    refine ⟨by decide, ?_⟩
    rw [ne_il at4, ok_some]
    have at5 := at_old (l := [MO.lst []]) at4
    have W5 := W4.pe (M' := M4 ++ [MO.lst []]) Pe.app
    have e5 : Ext k c M (M4 ++ [MO.lst []]) := (e3.trans e4).trans Pe.app.ext
    generalize M4 ++ [MO.lst []] = M5 at at5 W5 e5 ⊢
    rw [show ∀ b : Bool, fInt [.bl b] M5 = some (.int (if b then 1 else 0), M5) from fun _ => rfl, ok_some]
    obtain ⟨m, hm, hm6, hmz⟩ : ∃ m : Nat, u * (if (!ts.isEmpty) = true then 1 else 0) = (m : Int) ∧ m ≤ 6 ∧ (0 < m → ts ≠ []) := by
      cases ts with
      | nil => exact ⟨0, by simp, by omega, by omega⟩
      | cons a r => exact ⟨u.toNat, by simp; omega, by omega, by simp⟩
    walk_at "okw"
    rw [hm]
    refine ⟨mul_left (by omega) (by omega), okR_nat (by omega), ?_⟩
    refine (lc_draw (P := fun d => ∃ v, d = D.int v ∧ Num v) (k := k) (c := c) W5 fun d hd M' W' e' => ?_).imp ?_
    · obtain ⟨i, hi⟩ := List.getElem?_of_mem hd
      have hlt := (rng_at hi).1
      refine ⟨_, rfl, ?_⟩
      dsimp only [gOne, List.set]
      walk_at "okw"
      refine (worth_ok W' (e'.at at5 (by omega) (by omega)) (by omega) (by omega) (List.length_pos_iff.mpr (hmz (by omega))) tl).imp ?_
      rintro _ M'' ⟨⟨v, rfl, hv⟩, W'', e''⟩
      exact ⟨⟨v, rfl, tb v hv⟩, W'', e''⟩
    · rintro xs M' ⟨hx, hl, W', e'⟩
      obtain ⟨os, rfl, hos⟩ := ints_of hx
      rw [List.length_map, rng_len] at hl
      refine ⟨by rw [List.length_map]; exact Nat.le_trans (show os.length ≤ 10 by omega) (by decide), ?_⟩
      exact hK _ _ ⟨os, _, _, rfl, at_end, by omega, hos, W'.pe Pe.app, (e5.trans e').trans Pe.app.ext⟩
  rintro f M4 ⟨os, on, x4', rfl, ao, hol, hos, W4, e4⟩
  dsimp only
  walk_at "okw"
  rw [ok_tupL ao]
  exact ⟨by decide, ⟨g, ds, os, rfl, num_of (by omega) (by omega), by omega, hdb, hol, hos⟩, W4, e4⟩
end
section
/-! the machine that is drawn -/
def lets : Str := "abcdefghijklmnopqrstuvwxyz"
theorem lets_len : lets.cps.toList.length = 26 := by decide +kernel
theorem lets_all : ∀ n : Nat, n < 26 → ∃ c, lets.cps.toList[n]? = some c ∧ c < 1114112 := by
  have h : ∀ n : Fin 26, lets.cps.toList[n.1]? = some (97 + n.1) := by decide +kernel
  intro n hn
  exact ⟨_, h ⟨n, hn⟩, by omega⟩
def One (x : Str) : Prop := PyData.strOk x = true ∧ x.length = 1
theorem letter_ok {i : Int} {M : Mem} {Q : D → Mem → Prop} (h0 : 0 ≤ i) (h1 : i < 26) (q : ∀ x, One x → Q (.str x) M) : Ok (ixD (.str lets) (.int i) M) Q := by
  obtain ⟨c, hc, hb⟩ := lets_all i.toNat (by omega)
  have e : atI lets.cps.toList i = some c := by
    unfold atI ixN
    rw [lets_len, if_pos h0, if_pos (by exact h1)]
    exact hc
  simp only [ixD]
  rw [if_pos (show lets.length ≤ sizeLine by decide +kernel), e]
  refine ok_some.mpr (q _ ⟨?_, rfl⟩)
  unfold PyData.strOk
  simp
  exact hb
theorem cut_nam {z : Str} {lo hi : Option Int} (h : Nam z) : Nam (cutS z lo hi) ∧ (cutS z lo hi).length ≤ z.length := by
  have hl : (cutS z lo hi).length ≤ z.length := by
    unfold cutS
    show (((z.cps.toList.drop _).take _).toArray).size ≤ z.cps.size
    simp only [List.size_toArray, List.length_take, List.length_drop, Array.length_toList]
    omega
  refine ⟨⟨?_, Nat.le_trans hl h.2⟩, hl⟩
  rw [ok_iff]
  intro c hc
  have h2 := ok_iff.mp h.1
  unfold TL.tl cutS at hc
  have hc : c ∈ z.cps.toList := by
    have : c ∈ (z.cps.toList.drop (HT.sIx z.length 0 lo)).take (HT.sIx z.length z.length hi - HT.sIx z.length 0 lo) := by simpa using hc
    exact List.mem_of_mem_drop (List.mem_of_mem_take this)
  exact h2 c (by unfold TL.tl; exact hc)
theorem sl_str {M : Mem} {z : Str} {lo hi : Option Int} {Q : D → Mem → Prop} (h : Nam z) : Ok (slD2 (.str z) lo hi M) Q ↔ Q (.str (cutS z lo hi)) M := by
  have e : slD2 (.str z) lo hi M = some (.str (cutS z lo hi), M) := by
    show (if z.length ≤ sizeLine then _ else _) = _
    rw [if_pos (Nat.le_trans h.2 (by decide))]
  rw [e, ok_some]
theorem sl_lst {M : Mem} {n : Nat} {xs : List D} {lo hi : Option Int} {Q : D → Mem → Prop} (h : M[n]? = some (.lst xs)) : Ok (slD2 (.obj n) lo hi M) Q ↔ Q (.obj M.length) (M ++ [.lst (cutD xs lo hi)]) := by
  have e : slD2 (.obj n) lo hi M = some (.obj M.length, M ++ [.lst (cutD xs lo hi)]) := by
    simp only [slD2, asList, h]
  rw [e, ok_some]
theorem strs_of {P : Str → Prop} : ∀ {xs : List D}, (∀ x ∈ xs, ∃ v, x = D.str v ∧ P v) → ∃ ns : List Str, xs = ns.map D.str ∧ ∀ v ∈ ns, P v
  | [], _ => ⟨[], rfl, by simp⟩
  | x :: xs, h => by
    obtain ⟨v, rfl, p⟩ := h x List.mem_cons_self
    obtain ⟨ns, rfl, q⟩ := strs_of fun y hy => h y (List.mem_cons_of_mem _ hy)
    exact ⟨v :: ns, rfl, fun u hu => (List.mem_cons.mp hu).elim (fun e => e ▸ p) (q u)⟩
def txtW : List Str := ["unit", "work", "givens", "outs", "number", "plus", "laid", "run", "share"]
theorem txt_nam : ∀ w ∈ txtW, Nam w := by unfold Nam; decide +kernel
theorem names_ok {M : Mem} {k c many : Nat} (W : Well M k c) (h0 : 0 < many) (h8 : many ≤ 8) :
    Ok (f__law_unit_names [.obj k, .int (many : Nat)] M) fun x M' => (∃ (n : Nat) (ls : List Str), x = .obj n ∧ M.length ≤ n ∧ M'[n]? = some (.lst (ls.map .str)) ∧ (∀ w ∈ ls, Nam w) ∧ 0 < ls.length ∧ ls.length ≤ 8) ∧ Well M' k c ∧ Ext k c M M' := by
  unfold f__law_unit_names; rw [ok_fn]; unfold m__law_unit_names
  rw [show (("abcdefghijklmnopqrstuvwxyz" : Str)) = lets from rfl]
  walk_at "slots"
  refine seq_cut fun K hK => ?_; walk_at "okw"
  subst hK; dsimp only
  refine seq_mid (Q0 := fun f M1 => ∃ (b : Str) (x12 : Option D), f = .nx [some (.obj k), some (.int (many : Nat)), some (.str lets), some (.str b), none, none, none, none, none, none, none, none, x12] ∧ PyData.strOk b = true ∧ b.length ≤ 8 ∧ Well M1 k c ∧ Ext k c M M1) (fun K hK => ?_) ?_
  · walk_at "okw"
    refine ⟨by decide, ?_⟩
    refine (lc_draw (P := fun d => ∃ v, d = D.str v ∧ One v) (k := k) (c := c) W fun d hd M' W' e' => ?_).imp ?_
    · refine ⟨_, rfl, ?_⟩
      dsimp only [gOne, List.set]
      walk_at "okw"
      refine (draw_ok W' (by decide) (by decide)).imp ?_
      rintro _ M2 ⟨⟨v, rfl, v0, v1⟩, W2, e2⟩
      exact letter_ok v0 v1 fun x hx => ⟨⟨x, rfl, hx⟩, W2, e2⟩
    · rintro xs M' ⟨hx, hl, W', e'⟩
      obtain ⟨ss, rfl, hss⟩ := strs_of hx
      rw [List.length_map] at hl
      have hl : ss.length = 8 := hl
      refine ⟨by rw [List.length_map, hl]; decide, ?_⟩
      have hb : ∀ x ∈ ss, x.length ≤ 1 := fun x hx => Nat.le_of_eq (hss x hx).2
      rw [join_okT (b := 1) (m := 8) at_end hb (by omega) (by decide +kernel)]
      refine hK _ _ ⟨_, _, rfl, join_str (by decide +kernel) fun x hx => (hss x hx).1, ?_, W'.pe Pe.app, e'.trans Pe.app.ext⟩
      refine Nat.le_trans (join_len hb) ?_
      rw [hl, show ("" : Str).length = 0 by decide +kernel]
      decide
  rintro f M1 ⟨b, x12, rfl, hb, hbl, W1, e1⟩
  dsimp only
  have hbN : Nam b := ⟨hb, by omega⟩
  refine seq_cut fun K hK => ?_; walk_at "okw"
  refine (draw_ok W1 (by decide) (by decide)).imp ?_
  rintro _ M2 ⟨⟨u, rfl, u0, u1⟩, W2, e2⟩
  walk_at "okw"
  subst hK; dsimp only
  refine seq_cut fun K hK => ?_; walk_at "okw"
  refine (draw_ok W2 (by omega) (by omega)).imp ?_
  rintro _ M3 ⟨⟨a, rfl, a0, a1⟩, W3, e3⟩
  subst hK; dsimp only
  refine seq_cut fun K hK => ?_; walk_at "okw"
  refine (draw_ok W3 (by decide) (by decide)).imp ?_
  rintro _ M4 ⟨⟨w, rfl, w0, w1⟩, W4, e4⟩
  subst hK; dsimp only
  refine seq_cut fun K hK => ?_; walk_at "okw"
  refine (draw_ok W4 (by decide) (by decide)).imp ?_
  rintro _ M5 ⟨⟨f0, rfl, f00, f01⟩, W5, e5⟩
  subst hK; dsimp only
  have e15 := e1.trans (e2.trans (e3.trans (e4.trans e5)))
  clear e1 e2 e3 e4 e5 W1 W2 W3 W4
  refine seq_mid (Q0 := fun f M6 => ∃ st : Int, 0 < st ∧ st ≤ 7 ∧ f = .nx [some (.obj k), some (.int (many : Nat)), some (.str lets), some (.str b), some (.int (1 + u)), some (.int a), some (.int w), some (.int f0), some (.int st), none, none, none, x12] ∧ Well M6 k c ∧ Ext k c M M6) (fun K hK => ?_) ?_
  · walk_at "okw"
    refine ⟨by decide, ?_⟩
    have hlt := W5.lt
    refine (draw_ok (W5.pe Pe.app) (by decide) (by decide)).imp ?_
    rintro _ M6 ⟨⟨v, rfl, v0, v1⟩, W6, e6⟩
    refine ok_pick (e6.at at_end (by omega) (by omega)) v0 v1 fun d hd => ?_
    obtain ⟨m, rfl, m0, m1⟩ : ∃ m, d = D.int m ∧ 0 < m ∧ m ≤ 7 := by
      simp only [List.mem_cons, List.not_mem_nil, or_false] at hd
      rcases hd with rfl | rfl | rfl | rfl <;> exact ⟨_, rfl, by decide, by decide⟩
    exact hK _ _ ⟨m, m0, m1, rfl, W6, e15.trans (Pe.app.ext.trans e6)⟩
  clear e15 W5
  rintro f M6 ⟨st, s0, s1, rfl, W6, e6⟩
  dsimp only
  -- the prefixes
  refine seq_mid (Q0 := fun f M7 => match f with
    | .nx δ => δ = [some (.obj k), some (.int (many : Nat)), some (.str lets), some (.str b), some (.int (1 + u)), some (.int a), some (.int w), some (.int f0), some (.int st), none, none, none, x12] ∧ M7 = M6
    | .rt x => (∃ (n : Nat) (ls : List Str), x = .obj n ∧ M.length ≤ n ∧ M7[n]? = some (.lst (ls.map .str)) ∧ (∀ w ∈ ls, Nam w) ∧ 0 < ls.length ∧ ls.length ≤ 8) ∧ Well M7 k c ∧ Ext k c M M7
    | _ => False) (fun K hK => ?_) ?_
  · walk_at "okw"
    by_cases hw : w = 0
    · rw [ifp_pos (by simpa using hw)]
      walk_at "okw"
      refine ⟨okR_nat (by omega), ?_⟩
      refine (lc_draw (P := fun d => ∃ v, d = D.str v ∧ Nam v) (k := k) (c := c) W6 fun d hd M' W' e' => ?_).imp ?_
      · obtain ⟨i, hi⟩ := List.getElem?_of_mem hd
        obtain ⟨_, rfl⟩ := rng_at hi
        refine ⟨_, rfl, ?_⟩
        dsimp only [gOne, List.set]
        walk_at "okw"
        rw [sl_str hbN]
        exact ⟨⟨_, rfl, (cut_nam hbN).1⟩, W', .refl⟩
      · rintro xs M' ⟨hx, hl, W', e'⟩
        obtain ⟨ss, rfl, hss⟩ := strs_of hx
        rw [List.length_map, rng_len] at hl
        refine ⟨by rw [List.length_map, hl]; exact Nat.le_trans h8 (by decide), ?_⟩
        exact hK _ _ ⟨⟨_, ss, rfl, (e6.trans e').len, at_end, hss, by omega, by omega⟩, W'.pe Pe.app, (e6.trans e').trans Pe.app.ext⟩
    · rw [ifp_neg (by simpa using hw)]
      exact hK _ _ ⟨rfl, rfl⟩
  rintro f M7 hf
  cases f with
  | bk _ => exact hf.elim
  | ct _ => exact hf.elim
  | rt x => exact hf
  | nx δ =>
  obtain ⟨rfl, rfl⟩ := hf
  dsimp only
  refine seq_mid (Q0 := fun f M8 => match f with
    | .nx δ => δ = [some (.obj k), some (.int (many : Nat)), some (.str lets), some (.str b), some (.int (1 + u)), some (.int a), some (.int w), some (.int f0), some (.int st), none, none, none, x12] ∧ M8 = M7
    | .rt x => (∃ (n : Nat) (ls : List Str), x = .obj n ∧ M.length ≤ n ∧ M8[n]? = some (.lst (ls.map .str)) ∧ (∀ w ∈ ls, Nam w) ∧ 0 < ls.length ∧ ls.length ≤ 8) ∧ Well M8 k c ∧ Ext k c M M8
    | _ => False) (fun K hK => ?_) ?_
  · walk_at "okw"
    by_cases hw : w = 1
    · rw [ifp_pos (by simpa using hw)]
      walk_at "okw"
      refine ⟨by decide, ?_⟩
      have a8 : (M7 ++ [MO.lst (txtW.map D.str)])[M7.length]? = some (.lst (txtW.map .str)) := at_end
      have p8 : Pe M7 (M7 ++ [MO.lst (txtW.map D.str)]) := Pe.app
      obtain ⟨j, hj, hj9⟩ : ∃ j : Nat, f0.fmod 9 = (j : Nat) ∧ j < 9 := by
        rw [fmod_pos (by decide)]
        exact ⟨(f0 % 9).toNat, by omega, by omega⟩
      rw [hj]
      rw [show (M7 ++ [MO.lst [D.str "unit", D.str "work", D.str "givens", D.str "outs", D.str "number", D.str "plus", D.str "laid", D.str "run", D.str "share"]]) = M7 ++ [MO.lst (txtW.map D.str)] from rfl]
      have hl6 := e6.len
      have hl8 := p8.len
      generalize M7 ++ [MO.lst (txtW.map D.str)] = M8 at a8 p8 hl8 ⊢
      have htl : txtW.length = 9 := rfl
      rw [sl_lst a8, cut_drop]
      walk_at "okw"
      rw [sl_lst (at_old a8), cut_take, add_lst (at_old at_end) at_end (by simp only [List.length_drop, List.length_take, List.length_map]; omega)]
      walk_at "okw"
      rw [sl_lst at_end, cut_take]
      have hx : (((txtW.map D.str).drop j ++ (txtW.map D.str).take j).take many) = ((txtW.drop j ++ txtW.take j).take many).map D.str := by
        simp only [List.map_take, List.map_append, List.map_drop]
      refine ⟨by decide, by decide, hK _ _ ?_⟩
      refine ⟨⟨_, (txtW.drop j ++ txtW.take j).take many, rfl, ?_, by rw [at_end, hx], fun w hw => ?_, ?_, ?_⟩, W6.pe (p8.trans (Pe.app.trans (Pe.app.trans (Pe.app.trans Pe.app)))), e6.trans (p8.trans (Pe.app.trans (Pe.app.trans (Pe.app.trans Pe.app)))).ext⟩
      · simp only [List.length_append]; omega
      · have := List.mem_of_mem_take hw
        rcases List.mem_append.mp this with h | h
        · exact txt_nam w (List.mem_of_mem_drop h)
        · exact txt_nam w (List.mem_of_mem_take h)
      · rw [List.length_take, List.length_append, List.length_drop, List.length_take]; omega
      · rw [List.length_take]; omega
    · rw [ifp_neg (by simpa using hw)]
      exact hK _ _ ⟨rfl, rfl⟩
  rintro f M8 hf
  cases f with
  | bk _ => exact hf.elim
  | ct _ => exact hf.elim
  | rt x => exact hf
  | nx δ =>
  obtain ⟨rfl, rfl⟩ := hf
  dsimp only
  refine seq_cut fun K hK => ?_; walk_at "okw"
  rw [sl_str hbN]
  subst hK; dsimp only
  refine seq_cut fun K hK => ?_; walk_at "okw"
  rw [sl_str hbN]
  subst hK; dsimp only
  have h1 := cut_nam (lo := none) (hi := some a) hbN
  have h2 := cut_nam (lo := some (a + 1)) (hi := some (1 + u)) hbN
  generalize cutS b none (some a) = y1 at h1 ⊢
  generalize cutS b (some (a + 1)) (some (1 + u)) = y2 at h2 ⊢
  walk_at "okw"
  refine ⟨okR_nat (by omega), ?_⟩
  refine (lc_draw (P := fun d => ∃ v, d = D.str v ∧ Nam v) (k := k) (c := c) W6 fun d hd M' W' e' => ?_).imp ?_
  · obtain ⟨i, hi⟩ := List.getElem?_of_mem hd
    obtain ⟨hi', rfl⟩ := rng_at hi
    refine ⟨_, rfl, ?_⟩
    dsimp only [gOne, List.set]
    walk_at "okw"
    refine ⟨mul_left (by omega) (by omega), by decide, ?_⟩
    have hf := fmod_pos (i := f0 + (i : Nat) * st) (j := 26) (by decide)
    refine letter_ok (by rw [fmod_pos (by decide)]; omega) (by rw [fmod_pos (by decide)]; omega) fun x hx => ?_
    have ad : ∀ (y z : Str) (M : Mem), y.length + z.length ≤ 100 → addD (.str y) (.str z) M = some (.str (y ++ z), M) := fun y z M h => by
      show (if y.length + z.length ≤ sizeLine then _ else _) = _
      rw [if_pos (Nat.le_trans h (by decide))]
    have la : ∀ y z : Str, (y ++ z).length = y.length + z.length := fun y z => by
      rw [← tl_len, TL.tl_append, List.length_append, tl_len, tl_len]
    have hx1 := hx.2
    have hy1 := h1.2
    have hy2 := h2.2
    rw [ad _ _ _ (by omega), ok_some, ad _ _ _ (by rw [la]; omega), ok_some]
    exact ⟨⟨_, rfl, ok_app2 (ok_app2 h1.1.1 hx.1) h2.1.1, by rw [la, la]; omega⟩, W', .refl⟩
  · rintro xs M' ⟨hx, hl, W', e'⟩
    obtain ⟨ss, rfl, hss⟩ := strs_of hx
    rw [List.length_map, rng_len] at hl
    refine ⟨by rw [List.length_map, hl]; exact Nat.le_trans h8 (by decide), ?_⟩
    exact ⟨⟨_, ss, rfl, (e6.trans e').len, at_end, hss, by omega, by omega⟩, W'.pe Pe.app, (e6.trans e').trans Pe.app.ext⟩
theorem nam_at {M : Mem} {k c n : Nat} {ls : List Str} (W : Well M k c) (hn : M[n]? = some (.lst (ls.map .str))) (h0 : 0 < ls.length) (h8 : ls.length ≤ 8) (nk : n ≠ k) (nc : n ≠ c) (hN : ∀ w ∈ ls, Nam w) :
    Ok (f__law_work [.obj k, .obj n, .int 6] M) fun x M' => (∃ w : Str × Int × Int, x = wD w ∧ Nam w.1 ∧ Num w.2.1 ∧ Num w.2.2) ∧ Well M' k c ∧ Ext k c M M' := by
  unfold f__law_work; rw [ok_fn]; unfold m__law_work
  walk_at "slots"
  refine seq_mid (Q0 := fun f M1 => ∃ w : Str, Nam w ∧ f = .nx [some (.obj k), some (.obj n), some (.int 6), some (.str w)] ∧ Well M1 k c ∧ Ext k c M M1) (fun K hK => ?_) ?_
  · walk_at "okw"
    rw [ok_len_lst hn, List.length_map]
    refine (draw_ok W (by omega) (by omega)).imp ?_
    rintro _ M1 ⟨⟨v, rfl, v0, v1⟩, W1, e1⟩
    refine ok_pick (e1.at hn nk nc) v0 (by rw [List.length_map]; exact v1) fun d hd => ?_
    obtain ⟨w, hw, rfl⟩ := List.mem_map.mp hd
    exact hK _ _ ⟨w, hN w hw, rfl, W1, e1⟩
  rintro f M1 ⟨w, hw, rfl, W1, e1⟩
  dsimp only
  walk_at "okw"
  refine (draw_ok W1 (by decide) (by decide)).imp ?_
  rintro _ M2 ⟨⟨u, rfl, u0, u1⟩, W2, e2⟩
  walk_at "okw"
  refine (draw_ok W2 (by decide) (by decide)).imp ?_
  rintro _ M3 ⟨⟨v, rfl, v0, v1⟩, W3, e3⟩
  walk_at "okw"
  exact ⟨by decide, ⟨(w, 1 + u, 1 + v), rfl, hw, num_of (v := 1 + u) (by omega) (by omega), num_of (v := 1 + v) (by omega) (by omega)⟩, W3, e1.trans (e2.trans e3)⟩
theorem units_of {P : Str × Int → Prop} : ∀ {xs : List D}, (∀ x ∈ xs, ∃ v, x = uD v ∧ P v) → ∃ ns : List (Str × Int), xs = ns.map uD ∧ ∀ v ∈ ns, P v
  | [], _ => ⟨[], rfl, by simp⟩
  | x :: xs, h => by
    obtain ⟨v, rfl, p⟩ := h x List.mem_cons_self
    obtain ⟨ns, rfl, q⟩ := units_of fun y hy => h y (List.mem_cons_of_mem _ hy)
    exact ⟨v :: ns, rfl, fun u hu => (List.mem_cons.mp hu).elim (fun e => e ▸ p) (q u)⟩
theorem works_of {P : Str × Int × Int → Prop} : ∀ {xs : List D}, (∀ x ∈ xs, ∃ v, x = wD v ∧ P v) → ∃ ns : List (Str × Int × Int), xs = ns.map wD ∧ ∀ v ∈ ns, P v
  | [], _ => ⟨[], rfl, by simp⟩
  | x :: xs, h => by
    obtain ⟨v, rfl, p⟩ := h x List.mem_cons_self
    obtain ⟨ns, rfl, q⟩ := works_of fun y hy => h y (List.mem_cons_of_mem _ hy)
    exact ⟨v :: ns, rfl, fun u hu => (List.mem_cons.mp hu).elim (fun e => e ▸ p) (q u)⟩
/-- a comprehension with draws that reads a list -/
theorem lc_drawG {M : Mem} {k c n : Nat} {g : mG} {te : mE} {δ : DSt} {P : D → Prop} {l xs0 : List D} (W : Well M k c) (hn : M[n]? = some (.lst xs0)) (nk : n ≠ k) (nc : n ≠ c) (h : ∀ d ∈ l, ∀ M', Well M' k c → Ext k c M M' → ∃ δ1, g d δ = some δ1 ∧ Ok (te δ1 M') fun y M2 => P y ∧ Well M2 k c ∧ Ext k c M' M2) :
    Ok (lcM [(n, .lst xs0)] g mYes te δ l M) fun xs M' => (∀ x ∈ xs, P x) ∧ xs.length = l.length ∧ Well M' k c ∧ Ext k c M M' := by
  have := ok_lcI (gd := [(n, .lst xs0)]) (g := g) (tt := mYes) (te := te) (δ := δ) (Q := fun xs M' => (∀ x ∈ xs, P x) ∧ xs.length = l.length ∧ Well M' k c ∧ Ext k c M M') (fun n acc M' => (∀ x ∈ acc, P x) ∧ acc.length = n ∧ Well M' k c ∧ Ext k c M M') l 0 [] M ⟨by simp, rfl, W, .refl⟩ (fun _ _ _ hI => guard_lst (hI.2.2.2.at hn nk nc)) ?_ ?_
  · simpa using this
  · rintro i d acc M' hd ⟨h1, h2, W', e'⟩
    obtain ⟨δ1, hg, ho⟩ := h d (List.mem_of_getElem? hd) M' W' e'
    refine ⟨δ1, hg, ?_⟩
    rw [ok_Yes, if_pos rfl]
    refine ho.imp ?_
    rintro y M2 ⟨p, W2, e2⟩
    refine ⟨fun x hx => ?_, by simp [h2], W2, e'.trans e2⟩
    rcases List.mem_append.mp hx with hx | hx
    · exact h1 x hx
    · rw [List.mem_singleton.mp hx]; exact p
  · rintro acc M' ⟨h1, h2, h3, h4⟩
    exact ⟨h1, by simpa using h2, h3, h4⟩
def MOk (us : List (Str × Int)) (wk : List (Str × Int × Int)) : Prop := us.length ≤ 10 ∧ (∀ u ∈ us, Nam u.1 ∧ Num u.2) ∧ wk.length = 11 ∧ ∀ w ∈ wk, Nam w.1 ∧ Num w.2.1 ∧ Num w.2.2
theorem machine_ok {M : Mem} {k c : Nat} (W : Well M k c) :
    Ok (f__law_machine [.obj k, .int 6] M) fun x M' => (∃ us wk, x = plantD us wk ∧ MOk us wk) ∧ Well M' k c ∧ Ext k c M M' := by
  unfold f__law_machine; rw [ok_fn]; unfold m__law_machine
  walk_at "slots"
  have hlt := W.lt
  refine seq_mid (Q0 := fun f M1 => ∃ g : Nat, 0 < g ∧ g ≤ 8 ∧ f = .nx [some (.obj k), some (.int 6), some (.int (g : Nat)), none, none, none, none] ∧ Well M1 k c ∧ Ext k c M M1) (fun K hK => ?_) ?_
  · walk_at "okw"
    refine (draw_ok W (by decide) (by decide)).imp ?_
    rintro _ M1 ⟨⟨u, rfl, u0, u1⟩, W1, e1⟩
    walk_at "okw"
    refine (draw_ok W1 (by decide) (by decide)).imp ?_
    rintro _ M2 ⟨⟨v, rfl, v0, v1⟩, W2, e2⟩
    walk_at "okw"
    refine ⟨by decide, ?_⟩
    have hlt2 := W2.lt
    refine (draw_ok (W2.pe Pe.app) (by decide) (by decide)).imp ?_
    rintro _ M3 ⟨⟨z, rfl, z0, z1⟩, W3, e3⟩
    refine ok_pick (e3.at at_end (by omega) (by omega)) z0 z1 fun d hd => ?_
    have e03 := (e1.trans e2).trans (Pe.app.ext.trans e3)
    simp only [List.mem_cons, List.not_mem_nil, or_false] at hd
    rcases hd with rfl | rfl
    · exact hK _ _ ⟨(1 + u).toNat, by omega, by omega, by rw [Int.toNat_of_nonneg (by omega)], W3, e03⟩
    · exact hK _ _ ⟨(1 + v).toNat, by omega, by omega, by rw [Int.toNat_of_nonneg (by omega)], W3, e03⟩
  rintro f M1 ⟨g, g0, g8, rfl, W1, e1⟩
  dsimp only
  refine seq_cut fun K hK => ?_; walk_at "okw"
  refine (names_ok W1 g0 g8).imp ?_
  rintro _ M2 ⟨⟨n, ls, rfl, hn, an, hN, l0, l8⟩, W2, e2⟩
  subst hK; dsimp only
  have hl1 := e1.len
  have nk : n ≠ k := by omega
  have nc : n ≠ c := by omega
  have e02 := e1.trans e2
  clear e1 e2 W1
  refine seq_mid (Q0 := fun f M3 => ∃ (us : List (Str × Int)) (x5 : Option D), f = .nx [some (.obj k), some (.int 6), some (.int (g : Nat)), some (.obj n), some (.tup (us.map uD)), x5, none] ∧ us.length ≤ 10 ∧ (∀ u ∈ us, Nam u.1 ∧ Num u.2) ∧ Well M3 k c ∧ Ext k c M2 M3) (fun K hK => ?_) ?_
  · walk_at "okw"
    refine ⟨_, itAny_lst an, ?_⟩
    dsimp only
    refine (lc_drawG (P := fun d => ∃ v, d = uD v ∧ Nam v.1 ∧ Num v.2) (k := k) (c := c) W2 an nk nc fun d hd M' W' e' => ?_).imp ?_
    · obtain ⟨w, hw, rfl⟩ := List.mem_map.mp hd
      refine ⟨_, rfl, ?_⟩
      dsimp only [gOne, List.set]
      walk_at "okw"
      refine (draw_ok W' (by decide) (by decide)).imp ?_
      rintro _ M3 ⟨⟨v, rfl, v0, v1⟩, W3, e3⟩
      walk_at "okw"
      exact ⟨by decide, ⟨(w, 1 + v), rfl, hN w hw, num_of (v := 1 + v) (by omega) (by omega)⟩, W3, e3⟩
    · rintro xs M' ⟨hx, hl, W', e'⟩
      obtain ⟨us, rfl, hus⟩ := units_of hx
      rw [List.length_map, List.length_map] at hl
      refine ⟨by rw [List.length_map]; exact Nat.le_trans (show us.length ≤ 8 by omega) (by decide), ?_⟩
      rw [ok_tupL at_end]
      exact hK _ _ ⟨us, _, rfl, by omega, hus, W'.pe Pe.app, e'.trans Pe.app.ext⟩
  rintro f M3 ⟨us, x5, rfl, hul, hus, W3, e3⟩
  dsimp only
  walk_at "okw"
  refine words_ok.imp ?_
  rintro _ _ ⟨rfl, rfl⟩
  refine ⟨_, itAny_lst at_end, ?_⟩
  dsimp only
  have hlt3 := W3.lt
  have an3 : (M3 ++ [MO.lst (cs_KINDS.map D.str)])[n]? = some (.lst (ls.map .str)) := at_old (e3.at an nk nc)
  refine (lc_drawG (P := fun d => ∃ w, d = wD w ∧ Nam w.1 ∧ Num w.2.1 ∧ Num w.2.2) (k := k) (c := c) (W3.pe Pe.app) at_end (by omega) (by omega) fun d hd M' W' e' => ?_).imp ?_
  · refine ⟨_, rfl, ?_⟩
    dsimp only [gOne, List.set]
    walk_at "okw"
    exact nam_at W' (e'.at an3 nk nc) l0 l8 nk nc hN
  · rintro xs M' ⟨hx, hl, W', e'⟩
    obtain ⟨wk, rfl, hwk⟩ := works_of hx
    rw [List.length_map, List.length_map] at hl
    have hl : wk.length = 11 := hl
    refine ⟨by rw [List.length_map, hl]; decide, ?_⟩
    rw [ok_tupL at_end]
    exact ⟨by decide, ⟨us, wk, rfl, hul, hus, hl, hwk⟩, W'.pe Pe.app, e02.trans (e3.trans (Pe.app.ext.trans (e'.trans Pe.app.ext)))⟩
end
section
def SOk (g : Int) (ds : List Dq) (os : List Int) : Prop := Num g ∧ ds.length ≤ 30 ∧ (∀ d ∈ ds, DqOk d) ∧ os.length ≤ 10 ∧ ∀ n ∈ os, Num n
theorem both {us wk g ds os} (hm : MOk us wk) (hs : SOk g ds os) : ShowOk us wk g ds os :=
  ⟨hm.1, hm.2.1, hm.2.2.1, hm.2.2.2, hs.1, hs.2.1, fun d hd => dq_nam (hs.2.2.1 d hd), hs.2.2.2.1, hs.2.2.2.2⟩
def fiveL : List D := [.tup [.int 0, .int 0], .tup [.int 1, .int 0], .tup [.int 0, .int 1], .tup [.int 1, .int 1], .tup [.int 0, .int 0]]
theorem five_at {d : D} (h : d ∈ fiveL) : ∃ i j : Nat, d = .tup [.int (i : Nat), .int (j : Nat)] ∧ i < 2 ∧ j < 2 := by
  simp only [fiveL, List.mem_cons, List.not_mem_nil, or_false] at h
  rcases h with rfl | rfl | rfl | rfl | rfl
  · exact ⟨0, 0, rfl, by decide, by decide⟩
  · exact ⟨1, 0, rfl, by decide, by decide⟩
  · exact ⟨0, 1, rfl, by decide, by decide⟩
  · exact ⟨1, 1, rfl, by decide, by decide⟩
  · exact ⟨0, 0, rfl, by decide, by decide⟩
theorem law_all : ∀ ns : List Int, ns.length ≤ 63 → Ok (f_law [.rol (ns.map D.int)] []) fun d _ => d = .bl true := by
  intro ns hns
  unfold f_law; rw [ok_fn]; unfold m_law
  walk_at "slots"
  refine seq_cut fun K hK => ?_
  walk_at "okw"
  refine (deck_ok hns).imp ?_
  rintro _ M0 ⟨k, c, rfl, W0⟩
  subst hK; dsimp only
  generalize hR : D.rol (ns.map D.int) = R
  -- the machines
  refine seq_mid (Q0 := fun f M1 => ∃ (mn : Nat) (ms : List D), f = .nx [some R, some (.obj k), some (.obj mn), none, none, none, none, none, none, none] ∧ M1[mn]? = some (.lst ms) ∧ ms.length = 2 ∧ (∀ d ∈ ms, ∃ us wk, d = plantD us wk ∧ MOk us wk) ∧ mn ≠ k ∧ mn ≠ c ∧ Well M1 k c) (fun K hK => ?_) ?_
  · walk_at "okw"
    refine (machine_ok W0).imp ?_
    rintro _ M1 ⟨⟨us, wk, rfl, h1⟩, W1, e1⟩
    walk_at "okw"
    refine (machine_ok W1).imp ?_
    rintro _ M2 ⟨⟨us2, wk2, rfl, h2⟩, W2, e2⟩
    have hlt := W2.lt
    walk_at "okw"
    refine ⟨by decide, ?_⟩
    refine hK _ _ ⟨_, _, rfl, at_end, rfl, fun d hd => ?_, by omega, by omega, W2.pe Pe.app⟩
    simp only [List.mem_cons, List.not_mem_nil, or_false] at hd
    rcases hd with rfl | rfl
    · exact ⟨_, _, rfl, h1⟩
    · exact ⟨_, _, rfl, h2⟩
  rintro f M1 ⟨mn, ms, rfl, a1, m2, hms, mk, mc, W1⟩
  dsimp only
  have hlt1 := W1.lt
  -- the sizes
  refine seq_mid (Q0 := fun f M2 => ∃ (zn : Nat) (zs : List Int) (x8 : Option D), f = .nx [some R, some (.obj k), some (.obj mn), some (.obj zn), none, none, none, none, x8, none] ∧ M2[zn]? = some (.lst (zs.map .int)) ∧ zs.length = 2 ∧ (∀ z ∈ zs, 0 ≤ z ∧ z ≤ 24) ∧ zn ≠ k ∧ zn ≠ c ∧ M2[mn]? = some (.lst ms) ∧ Well M2 k c) (fun K hK => ?_) ?_
  · walk_at "okw"
    refine ⟨by decide, ?_⟩
    refine (lc_draw (P := fun d => ∃ z, d = D.int z ∧ 0 ≤ z ∧ z ≤ 24) (k := k) (c := c) W1 fun d hd M' W' e' => ?_).imp ?_
    · refine ⟨_, rfl, ?_⟩
      dsimp only [gOne, List.set]
      walk_at "okw"
      refine (draw_ok W' (by decide) (by decide)).imp ?_
      rintro _ M2 ⟨⟨u, rfl, u0, u1⟩, W2, e2⟩
      refine (draw_ok W2 (by decide) (by decide)).imp ?_
      rintro _ M3 ⟨⟨v, rfl, v0, v1⟩, W3, e3⟩
      walk_at "okw"
      refine ⟨by decide, ?_⟩
      have hlt := W3.lt
      refine (draw_ok (W3.pe Pe.app) (by decide) (by decide)).imp ?_
      rintro _ M4 ⟨⟨w, rfl, w0, w1⟩, W4, e4⟩
      refine ok_pick (e4.at at_end (by omega) (by omega)) w0 w1 fun d hd => ?_
      have E := (e2.trans e3).trans (Pe.app.ext.trans e4)
      simp only [List.mem_cons, List.not_mem_nil, or_false] at hd
      rcases hd with rfl | rfl
      · exact ⟨⟨_, rfl, by omega, by omega⟩, W4, E⟩
      · exact ⟨⟨_, rfl, by omega, by omega⟩, W4, E⟩
    · rintro xs M2 ⟨hx, hl, W2, e2⟩
      obtain ⟨zs, rfl, hzs⟩ := ints_of hx
      have hl : zs.length = 2 := by rw [List.length_map] at hl; exact hl
      have hlt := W2.lt
      refine ⟨by rw [List.length_map, hl]; decide, ?_⟩
      exact hK _ _ ⟨_, zs, _, rfl, at_end, hl, hzs, by omega, by omega, at_old (e2.at a1 mk mc), W2.pe Pe.app⟩
  clear a1 hlt1 W1
  rintro f M2 ⟨zn, zs, x8, rfl, az, z2, hzs, zk, zc, a1, W2⟩
  dsimp only
  -- the stretches
  refine seq_mid (Q0 := fun f M3 => ∃ (sn : Nat) (ss : List D) (x8 x9 : Option D), f = .nx [some R, some (.obj k), some (.obj mn), some (.obj zn), some (.obj sn), none, none, none, x8, x9] ∧ M3[sn]? = some (.lst ss) ∧ ss.length = 2 ∧ (∀ d ∈ ss, ∃ g ds os, d = strD g ds os ∧ SOk g ds os) ∧ M3[mn]? = some (.lst ms)) (fun K hK => ?_) ?_
  · walk_at "okw"
    refine ⟨_, itAny_lst az, ?_⟩
    dsimp only
    refine (lc_drawG (P := fun d => ∃ g ds os, d = strD g ds os ∧ SOk g ds os) (k := k) (c := c) W2 az zk zc fun d hd M' W' e' => ?_).imp ?_
    · obtain ⟨z, hz, rfl⟩ := List.mem_map.mp hd
      obtain ⟨z0, z1⟩ := hzs z hz
      obtain ⟨m, rfl⟩ : ∃ m : Nat, z = (m : Nat) := ⟨z.toNat, by omega⟩
      refine ⟨_, rfl, ?_⟩
      dsimp only [gOne, List.set]
      walk_at "okw"
      refine (stretch_ok W' (by omega)).imp ?_
      rintro _ M3 ⟨⟨g, ds, os, rfl, q1, q2, q3, q4, q5⟩, W3, e3⟩
      exact ⟨⟨g, ds, os, rfl, q1, q2, q3, q4, q5⟩, W3, e3⟩
    · rintro xs M3 ⟨hx, hl, W3, e3⟩
      have hl : xs.length = 2 := by rw [List.length_map] at hl; omega
      refine ⟨by rw [hl]; decide, ?_⟩
      exact hK _ _ ⟨_, xs, _, _, rfl, at_end, hl, hx, at_old (e3.at a1 mk mc)⟩
  clear az a1 W2
  rintro f M3 ⟨sn, ss, x8, x9, rfl, a4, s2, hss, a2⟩
  dsimp only
  refine seq_mid (Q0 := fun f M' => ∃ δ, f = .nx δ) (fun K hK => ?_) ?_
  · walk_at "okw"
    refine ⟨by decide, by decide, by decide, by decide, by decide, by decide, ?_⟩
    rw [show (M3 ++ [MO.lst [D.tup [D.int 0, D.int 0], D.tup [D.int 1, D.int 0], D.tup [D.int 0, D.int 1], D.tup [D.int 1, D.int 1], D.tup [D.int 0, D.int 0]]]) = M3 ++ [MO.lst fiveL] from rfl]
    refine ⟨_, itAny_lst at_end, ?_⟩
    dsimp only
    have a4' := at_old (l := [MO.lst fiveL]) a4
    have a2' := at_old (l := [MO.lst fiveL]) a2
    have a0' : (M3 ++ [MO.lst fiveL])[M3.length]? = some (.lst fiveL) := at_end
    generalize M3 ++ [MO.lst fiveL] = M4 at a4' a2' a0' ⊢
    refine ok_loop (fun i δ M' => ∃ x5 x6 x7 : Option D, δ = [some R, some (.obj k), some (.obj mn), some (.obj zn), some (.obj sn), x5, x6, x7, x8, x9] ∧ Pe M4 M') _ 0 _ _ ⟨_, _, _, rfl, .refl⟩ (fun _ _ _ hI => by
      obtain ⟨_, _, _, _, p⟩ := hI
      exact guard_lst (p.at a0')) ?_ ?_
    · rintro i d δ M' hd ⟨x5, x6, x7, rfl, p⟩
      obtain ⟨i1, j1, rfl, hi, hj⟩ := five_at (List.mem_of_getElem? hd)
      refine ⟨_, rfl, ?_⟩
      dsimp only [setAll, List.set]
      obtain ⟨us, wk, hX, hm⟩ := hms (ms[i1]'(by omega)) (List.getElem_mem _)
      have hX : ms[((i1 : Nat) : Int).toNat]? = some (plantD us wk) := by rw [Int.toNat_natCast, List.getElem?_eq_getElem (by omega), hX]
      obtain ⟨g, ds, os, hY, hs⟩ := hss (ss[j1]'(by omega)) (List.getElem_mem _)
      have hY : ss[((j1 : Nat) : Int).toNat]? = some (strD g ds os) := by rw [Int.toNat_natCast, List.getElem?_eq_getElem (by omega), hY]
      have hB := both hm hs
      refine seq_cut fun K1 hK1 => ?_; walk_at "okw"
      rw [ok_ixL (p.at a2') (by omega) (by omega) hX, ok_ixL (p.at a4') (by omega) (by omega) hY]
      refine (show_ok hB).imp ?_
      rintro _ M5 ⟨rfl, p5⟩
      subst hK1; dsimp only
      have p' := p.trans p5
      walk_at "okw"
      generalize hT : textP us wk g ds os = T
      rw [show fIsi [.str T, .ty "str"] M5 = some (.bl true, M5) from rfl, ok_some]
      refine ⟨_, rfl, ?_⟩
      rw [ifp_neg (by rfl)]
      rw [ok_ixL (p'.at a2') (by omega) (by omega) hX, ok_ixL (p'.at a4') (by omega) (by omega) hY]
      refine (law_rows_ok hB).imp ?_
      rintro _ M6 ⟨r, rfl, hr, p6⟩
      rw [join_rows hB hr, hT]
      rw [ok_ne_refl (n := 0) (.str (hT ▸ text_ok hB)) (by decide)]
      walk_at "okw"
      exact ⟨_, _, _, rfl, p'.trans p6⟩
    · rintro δ M' ⟨x5, x6, x7, rfl, p⟩
      exact hK _ _ ⟨_, rfl⟩
  rintro f M' ⟨δ, rfl⟩
  dsimp only
  walk_at "okw"
theorem law_ok (ns : List Int) (h : ns.length ≤ 63) : ∃ M', f_law [.rol (ns.map D.int)] [] = some (.bl true, M') := by
  obtain ⟨d, M', e, rfl⟩ := law_all ns h
  exact ⟨M', e⟩
end
end Lk77
set_option Elab.async false
set_option linter.all false
set_option maxRecDepth 100000
set_option maxHeartbeats 4000000
namespace Lk77
open PySem PySem.Spec L2 Mir
def top (i : Nat) : Stmt := PySem.Challenge.pw_widerows_k77_texts_written.main.body.getD i (.Pass ⟨0, 0, 0, 0⟩)
section
variable {P : Program} {w : World} {K : PySem.W.Frag} {mg : Str → Option Value} {base : Heap}
abbrev s_figures : Stmt := top 4
theorem sc_figures : FnScope ["number", "parts", "part"] ["number"] (defScope s_figures) := ⟨rfl, rfl, rfl, by decide +kernel, rfl, by decide +kernel, by decide +kernel⟩
theorem ok_figures__1 {a : Addr} {fd : FuncData} (F : Fun K "figures" "figures" s_figures a fd) (d_figures__0 : Def P w K mg base "figures" 1 ["number"] f_figures__0) (z_str : mg "str" = none) (g_PART : Glob K mg "PART" c_PART) : FnOk P w K mg base CX0 2 a fd ["number"] (spM K 1 f_figures__1) :=
  fn_ok F sc_figures fun cdv A outer s H E hr => (@ms_cons _ _ _ _ _ (@ms_if _ _ _ _ _ _ _ _ (@mt_lt _ _ _ _ _ _ (@mv _ _ 0 _ (by rfl) (by first | exact Or.inl rfl | exact Or.inr (Or.inl rfl) | exact Or.inr (Or.inr rfl)) (by decide) (by decide)) me_int) (@ms_one _ _ _ (@ms_ret _ _ _ _ (@me_add _ _ _ _ _ _ me_str (@me_def _ _ _ _ _ _ _ _ _ _ _ d_figures__0 hr (by decide) (by rfl) (@ma_cons _ _ _ _ _ (@me_neg _ _ _ _ (@mv _ _ 0 _ (by rfl) (by first | exact Or.inl rfl | exact Or.inr (Or.inl rfl) | exact Or.inr (Or.inr rfl)) (by decide) (by decide))) ma_nil (by rfl)) (len_cons (fun δ M r h => len_nil h)) (by decide) (by rfl) (by rfl))))) ms_nil) (@ms_cons _ _ _ _ _ (@ms_set _ _ _ _ (@ps_set _ _ (1) _ _ _ _ sc_figures.nd rfl (by first | exact Or.inl rfl | exact Or.inr rfl) (@me_lst _ _ _ _ ma_nil) (by rfl) (by first | exact .inl rfl | exact .inr rfl | assumption))) (@ms_cons _ _ _ _ _ (@ms_while _ _ _ _ _ _ 1000000 PassesOwn.never (@mt_ge _ _ _ _ _ _ (@mv _ _ 0 _ (by rfl) (by first | exact Or.inl rfl | exact Or.inr (Or.inl rfl) | exact Or.inr (Or.inr rfl)) (by decide) (by decide)) (@me_glob _ _ _ _ (by rfl) g_PART (by decide))) (@ms_cons _ _ _ _ _ (@ms_asg _ _ _ (.Name "" ⟨0, 0, 0, 0⟩) _ ([0, 2]) (@ps_asg _ _ _ _ _ _ me_no (@mg_many _ _ ([0, 2]) (@pg_tup _ _ _ _ _ _ rfl (@pgs_cons _ _ _ _ _ (@pg_name _ _ (0) _ sc_figures.nd rfl (by first | exact Or.inl rfl | exact Or.inr rfl) (by first | exact .inl rfl | exact .inr rfl | assumption)) (@pgs_cons _ _ _ _ _ (@pg_name _ _ (2) _ sc_figures.nd rfl (by first | exact Or.inl rfl | exact Or.inr rfl) (by first | exact .inl rfl | exact .inr rfl | assumption)) pgs_nil (by rfl)) (by rfl)) (by rfl) (by rfl)) _ (by decide)) (by rfl) (by rfl) (by rfl))) (@ms_one _ _ _ (@ms_expr _ _ _ _ (@me_methL _ _ _ _ _ _ _ _ _ ("list.append") _ _ append_m (@pe_bm _ _ _ _ _ _ _ _ _ _ _ _ PySem.F.plainAttrs_list PySem.F.slot_list_append PySem.F.type_list_append mt_append (@mv _ _ 1 _ (by rfl) (by first | exact Or.inl rfl | exact Or.inr (Or.inl rfl) | exact Or.inr (Or.inr rfl)) (by decide) (by decide)) (@ma_cons _ _ _ _ _ me_no ma_nil (by rfl)) (by rfl) (by rfl) (by rfl) (by rfl) (by rfl))) (by rfl))))) (@ms_cons _ _ _ _ _ (@ms_expr _ _ _ _ (@me_methL _ _ _ _ _ _ _ _ _ ("list.append") _ _ append_m (@pe_bm _ _ _ _ _ _ _ _ _ _ _ _ PySem.F.plainAttrs_list PySem.F.slot_list_append PySem.F.type_list_append mt_append (@mv _ _ 1 _ (by rfl) (by first | exact Or.inl rfl | exact Or.inr (Or.inl rfl) | exact Or.inr (Or.inr rfl)) (by decide) (by decide)) (@ma_cons _ _ _ _ _ (@me_callTy _ _ _ _ _ _ _ _ _ _ call_str_any strA_m (by rfl) z_str boot_str (@ma_cons _ _ _ _ _ (@mv _ _ 0 _ (by rfl) (by first | exact Or.inl rfl | exact Or.inr (Or.inl rfl) | exact Or.inr (Or.inr rfl)) (by decide) (by decide)) ma_nil (by rfl)) (by decide) (by decide) (by rfl) (by rfl)) ma_nil (by rfl)) (by rfl) (by rfl) (by rfl) (by rfl) (by rfl))) (by rfl)) (@ms_one _ _ _ (@ms_ret _ _ _ _ (@me_join _ _ _ _ _ _ _ me_str (@me_rev _ _ _ _ _ _ _ (@mv _ _ 1 _ (by rfl) (by first | exact Or.inl rfl | exact Or.inr (Or.inl rfl) | exact Or.inr (Or.inr rfl)) (by decide) (by decide))) (by rfl) (by rfl) (by rfl))))))))
theorem ok_figures {a : Addr} {fd : FuncData} (F : Fun K "figures" "figures" s_figures a fd) (d_figures__1 : Def P w K mg base "figures" 2 ["number"] f_figures__1) (z_str : mg "str" = none) (g_PART : Glob K mg "PART" c_PART) : FnOk P w K mg base CX0 3 a fd ["number"] (spM K 1 f_figures) :=
  fn_ok F sc_figures fun cdv A outer s H E hr => (@ms_cons _ _ _ _ _ (@ms_if _ _ _ _ _ _ _ _ (@mt_lt _ _ _ _ _ _ (@mv _ _ 0 _ (by rfl) (by first | exact Or.inl rfl | exact Or.inr (Or.inl rfl) | exact Or.inr (Or.inr rfl)) (by decide) (by decide)) me_int) (@ms_one _ _ _ (@ms_ret _ _ _ _ (@me_add _ _ _ _ _ _ me_str (@me_def _ _ _ _ _ _ _ _ _ _ _ d_figures__1 hr (by decide) (by rfl) (@ma_cons _ _ _ _ _ (@me_neg _ _ _ _ (@mv _ _ 0 _ (by rfl) (by first | exact Or.inl rfl | exact Or.inr (Or.inl rfl) | exact Or.inr (Or.inr rfl)) (by decide) (by decide))) ma_nil (by rfl)) (len_cons (fun δ M r h => len_nil h)) (by decide) (by rfl) (by rfl))))) ms_nil) (@ms_cons _ _ _ _ _ (@ms_set _ _ _ _ (@ps_set _ _ (1) _ _ _ _ sc_figures.nd rfl (by first | exact Or.inl rfl | exact Or.inr rfl) (@me_lst _ _ _ _ ma_nil) (by rfl) (by first | exact .inl rfl | exact .inr rfl | assumption))) (@ms_cons _ _ _ _ _ (@ms_while _ _ _ _ _ _ 1000000 PassesOwn.never (@mt_ge _ _ _ _ _ _ (@mv _ _ 0 _ (by rfl) (by first | exact Or.inl rfl | exact Or.inr (Or.inl rfl) | exact Or.inr (Or.inr rfl)) (by decide) (by decide)) (@me_glob _ _ _ _ (by rfl) g_PART (by decide))) (@ms_cons _ _ _ _ _ (@ms_asg _ _ _ (.Name "" ⟨0, 0, 0, 0⟩) _ ([0, 2]) (@ps_asg _ _ _ _ _ _ me_no (@mg_many _ _ ([0, 2]) (@pg_tup _ _ _ _ _ _ rfl (@pgs_cons _ _ _ _ _ (@pg_name _ _ (0) _ sc_figures.nd rfl (by first | exact Or.inl rfl | exact Or.inr rfl) (by first | exact .inl rfl | exact .inr rfl | assumption)) (@pgs_cons _ _ _ _ _ (@pg_name _ _ (2) _ sc_figures.nd rfl (by first | exact Or.inl rfl | exact Or.inr rfl) (by first | exact .inl rfl | exact .inr rfl | assumption)) pgs_nil (by rfl)) (by rfl)) (by rfl) (by rfl)) _ (by decide)) (by rfl) (by rfl) (by rfl))) (@ms_one _ _ _ (@ms_expr _ _ _ _ (@me_methL _ _ _ _ _ _ _ _ _ ("list.append") _ _ append_m (@pe_bm _ _ _ _ _ _ _ _ _ _ _ _ PySem.F.plainAttrs_list PySem.F.slot_list_append PySem.F.type_list_append mt_append (@mv _ _ 1 _ (by rfl) (by first | exact Or.inl rfl | exact Or.inr (Or.inl rfl) | exact Or.inr (Or.inr rfl)) (by decide) (by decide)) (@ma_cons _ _ _ _ _ me_no ma_nil (by rfl)) (by rfl) (by rfl) (by rfl) (by rfl) (by rfl))) (by rfl))))) (@ms_cons _ _ _ _ _ (@ms_expr _ _ _ _ (@me_methL _ _ _ _ _ _ _ _ _ ("list.append") _ _ append_m (@pe_bm _ _ _ _ _ _ _ _ _ _ _ _ PySem.F.plainAttrs_list PySem.F.slot_list_append PySem.F.type_list_append mt_append (@mv _ _ 1 _ (by rfl) (by first | exact Or.inl rfl | exact Or.inr (Or.inl rfl) | exact Or.inr (Or.inr rfl)) (by decide) (by decide)) (@ma_cons _ _ _ _ _ (@me_callTy _ _ _ _ _ _ _ _ _ _ call_str_any strA_m (by rfl) z_str boot_str (@ma_cons _ _ _ _ _ (@mv _ _ 0 _ (by rfl) (by first | exact Or.inl rfl | exact Or.inr (Or.inl rfl) | exact Or.inr (Or.inr rfl)) (by decide) (by decide)) ma_nil (by rfl)) (by decide) (by decide) (by rfl) (by rfl)) ma_nil (by rfl)) (by rfl) (by rfl) (by rfl) (by rfl) (by rfl))) (by rfl)) (@ms_one _ _ _ (@ms_ret _ _ _ _ (@me_join _ _ _ _ _ _ _ me_str (@me_rev _ _ _ _ _ _ _ (@mv _ _ 1 _ (by rfl) (by first | exact Or.inl rfl | exact Or.inr (Or.inl rfl) | exact Or.inr (Or.inr rfl)) (by decide) (by decide))) (by rfl) (by rfl) (by rfl))))))))
abbrev s_row_of : Stmt := top 5
theorem sc_row_of : FnScope ["words", "numbers", "number"] ["words", "numbers"] (defScope s_row_of) := ⟨rfl, rfl, rfl, by decide +kernel, rfl, by decide +kernel, by decide +kernel⟩
theorem ok_row_of {a : Addr} {fd : FuncData} (F : Fun K "row_of" "row_of" s_row_of a fd) (d_figures : Def P w K mg base "figures" 3 ["number"] f_figures) (z_list : mg "list" = none) : FnOk P w K mg base CX0 4 a fd ["words", "numbers"] (spM K 2 f_row_of) :=
  fn_ok F sc_row_of fun cdv A outer s H E hr => (@ms_one _ _ _ (@ms_ret _ _ _ _ (@me_join _ _ _ _ _ _ _ me_str (@me_add _ _ _ _ _ _ (@me_callTy _ _ _ _ _ _ _ _ _ _ call_list_of list_m (by rfl) z_list boot_list (@ma_cons _ _ _ _ _ (@mv _ _ 0 _ (by rfl) (by first | exact Or.inl rfl | exact Or.inr (Or.inl rfl) | exact Or.inr (Or.inr rfl)) (by decide) (by decide)) ma_nil (by rfl)) (by decide) (by decide) (by rfl) (by rfl)) (@me_lc _ _ _ _ _ _ _ ([("number", 2)]) _ ((gOne 2)) _ _ (by rfl) sc_row_of.nd (@mi_any _ _ _ _ (@mv _ _ 1 _ (by rfl) (by first | exact Or.inl rfl | exact Or.inr (Or.inl rfl) | exact Or.inr (Or.inr rfl)) (by decide) (by decide))) (blkOk_by (own := [("number", 2)]) (N := ["words", "numbers", "number"]) (sc := defScope s_row_of) (by decide +kernel)) (fun _ _ _ _ _ => (@mg_nameV _ _ (2) _ sc_row_of.nd rfl (by first | exact Or.inl rfl | exact Or.inr rfl) _ (by decide) (by first | exact .inl rfl | exact .inr rfl | assumption))) (fun _ _ _ _ _ => mts_nil) (fun _ _ _ _ _ => (@me_def _ _ _ _ _ _ _ _ _ _ _ d_figures hr (by decide) (by rfl) (@ma_cons _ _ _ _ _ (@mv _ _ 2 _ (by rfl) (by first | exact Or.inl rfl | exact Or.inr (Or.inl rfl) | exact Or.inr (Or.inr rfl)) (by decide) (by decide)) ma_nil (by rfl)) (len_cons (fun δ M r h => len_nil h)) (by decide) (by rfl) (by rfl))) (by intro _; rfl))) (by rfl) (by rfl) (by rfl))))
abbrev s_show : Stmt := top 6
theorem sc_show : FnScope ["machine", "stretch", "units", "works", "givens", "deeds", "outs", "rows", "name", "many", "kind", "holds", "comes", "deed"] ["machine", "stretch"] (defScope s_show) := ⟨rfl, rfl, rfl, by decide +kernel, rfl, by decide +kernel, by decide +kernel⟩
theorem ok_show {a : Addr} {fd : FuncData} (F : Fun K "show" "show" s_show a fd) (d_row_of : Def P w K mg base "row_of" 4 ["words", "numbers"] f_row_of) (z_zip : mg "zip" = none) (g_KINDS : Glob K mg "KINDS" c_KINDS) : FnOk P w K mg base CX0 5 a fd ["machine", "stretch"] (spM K 2 f_show) :=
  fn_ok F sc_show fun cdv A outer s H E hr => (@ms_cons _ _ _ _ _ (@ms_asg _ _ _ (.Name "" ⟨0, 0, 0, 0⟩) _ ([2, 3]) (@ps_asg _ _ _ _ _ _ (@mv _ _ 0 _ (by rfl) (by first | exact Or.inl rfl | exact Or.inr (Or.inl rfl) | exact Or.inr (Or.inr rfl)) (by decide) (by decide)) (@mg_many _ _ ([2, 3]) (@pg_tup _ _ _ _ _ _ rfl (@pgs_cons _ _ _ _ _ (@pg_name _ _ (2) _ sc_show.nd rfl (by first | exact Or.inl rfl | exact Or.inr rfl) (by first | exact .inl rfl | exact .inr rfl | assumption)) (@pgs_cons _ _ _ _ _ (@pg_name _ _ (3) _ sc_show.nd rfl (by first | exact Or.inl rfl | exact Or.inr rfl) (by first | exact .inl rfl | exact .inr rfl | assumption)) pgs_nil (by rfl)) (by rfl)) (by rfl) (by rfl)) _ (by decide)) (by rfl) (by rfl) (by rfl))) (@ms_cons _ _ _ _ _ (@ms_asg _ _ _ (.Name "" ⟨0, 0, 0, 0⟩) _ ([4, 5, 6]) (@ps_asg _ _ _ _ _ _ (@mv _ _ 1 _ (by rfl) (by first | exact Or.inl rfl | exact Or.inr (Or.inl rfl) | exact Or.inr (Or.inr rfl)) (by decide) (by decide)) (@mg_many _ _ ([4, 5, 6]) (@pg_tup _ _ _ _ _ _ rfl (@pgs_cons _ _ _ _ _ (@pg_name _ _ (4) _ sc_show.nd rfl (by first | exact Or.inl rfl | exact Or.inr rfl) (by first | exact .inl rfl | exact .inr rfl | assumption)) (@pgs_cons _ _ _ _ _ (@pg_name _ _ (5) _ sc_show.nd rfl (by first | exact Or.inl rfl | exact Or.inr rfl) (by first | exact .inl rfl | exact .inr rfl | assumption)) (@pgs_cons _ _ _ _ _ (@pg_name _ _ (6) _ sc_show.nd rfl (by first | exact Or.inl rfl | exact Or.inr rfl) (by first | exact .inl rfl | exact .inr rfl | assumption)) pgs_nil (by rfl)) (by rfl)) (by rfl)) (by rfl) (by rfl)) _ (by decide)) (by rfl) (by rfl) (by rfl))) (@ms_cons _ _ _ _ _ (@ms_setLc _ _ _ (7) _ _ _ _ _ _ ([("name", 8), ("many", 9)]) _ _ ((gMany [8, 9])) _ _ (by rfl) sc_show.nd rfl rfl (sw_true rfl rfl rfl (by decide +kernel)) (@mi_any _ _ _ _ (@mv _ _ 2 _ (by rfl) (by first | exact Or.inl rfl | exact Or.inr (Or.inl rfl) | exact Or.inr (Or.inr rfl)) (by decide) (by decide))) (blkOk_by (own := [("name", 8), ("many", 9)]) (N := ["machine", "stretch", "units", "works", "givens", "deeds", "outs", "rows", "name", "many", "kind", "holds", "comes", "deed"]) (sc := defScope s_show) (by decide +kernel)) (fun _ _ _ _ _ => (@mg_many _ _ ([8, 9]) (@pg_tup _ _ _ _ _ _ rfl (@pgs_cons _ _ _ _ _ (@pg_name _ _ (8) _ sc_show.nd rfl (by first | exact Or.inl rfl | exact Or.inr rfl) (by first | exact .inl rfl | exact .inr rfl | assumption)) (@pgs_cons _ _ _ _ _ (@pg_name _ _ (9) _ sc_show.nd rfl (by first | exact Or.inl rfl | exact Or.inr rfl) (by first | exact .inl rfl | exact .inr rfl | assumption)) pgs_nil (by rfl)) (by rfl)) (by rfl) (by rfl)) _ (by decide))) (fun _ _ _ _ _ => mts_nil) (fun _ _ _ _ _ => (@me_def _ _ _ _ _ _ _ _ _ _ _ d_row_of hr (by decide) (by rfl) (@ma_cons _ _ _ _ _ (@me_tup _ _ _ _ _ (@ma_cons _ _ _ _ _ me_str (@ma_cons _ _ _ _ _ (@mv _ _ 8 _ (by rfl) (by first | exact Or.inl rfl | exact Or.inr (Or.inl rfl) | exact Or.inr (Or.inr rfl)) (by decide) (by decide)) ma_nil (by rfl)) (by rfl))) (@ma_cons _ _ _ _ _ (@me_tup _ _ _ _ _ (@ma_cons _ _ _ _ _ (@mv _ _ 9 _ (by rfl) (by first | exact Or.inl rfl | exact Or.inr (Or.inl rfl) | exact Or.inr (Or.inr rfl)) (by decide) (by decide)) ma_nil (by rfl))) ma_nil (by rfl)) (by rfl)) (len_cons (len_cons (fun δ M r h => len_nil h))) (by decide) (by rfl) (by rfl))) (by intro _; rfl)) (@ms_cons _ _ _ _ _ (ms_aug (@ps_aug _ _ (7) _ _ _ _ _ _ sc_show.nd rfl (by first | exact Or.inl rfl | exact Or.inr rfl) (@me_lc _ _ _ _ _ _ _ ([("kind", 10), ("name", 8), ("holds", 11), ("comes", 12)]) _ ((gNest 10 [8, 11, 12])) _ _ (by rfl) sc_show.nd (@mi_zip _ _ _ _ _ _ _ _ _ rfl z_zip (@ma_cons _ _ _ _ _ (@me_glob _ _ _ _ (by rfl) g_KINDS (by decide)) (@ma_cons _ _ _ _ _ (@mv _ _ 3 _ (by rfl) (by first | exact Or.inl rfl | exact Or.inr (Or.inl rfl) | exact Or.inr (Or.inr rfl)) (by decide) (by decide)) ma_nil (by rfl)) (by rfl)) (by rfl) (by rfl)) (blkOk_by (own := [("kind", 10), ("name", 8), ("holds", 11), ("comes", 12)]) (N := ["machine", "stretch", "units", "works", "givens", "deeds", "outs", "rows", "name", "many", "kind", "holds", "comes", "deed"]) (sc := defScope s_show) (by decide +kernel)) (fun _ _ _ _ _ => (mg_nest (i := 10) (js := [8, 11, 12]) (@pg_tup _ _ _ _ _ _ rfl (@pgs_cons _ _ _ _ _ (@pg_name _ _ (10) _ sc_show.nd rfl (by first | exact Or.inl rfl | exact Or.inr rfl) (by first | exact .inl rfl | exact .inr rfl | assumption)) (@pgs_cons _ _ _ _ _ (@pg_tup _ _ _ _ _ _ rfl (@pgs_cons _ _ _ _ _ (@pg_name _ _ (8) _ sc_show.nd rfl (by first | exact Or.inl rfl | exact Or.inr rfl) (by first | exact .inl rfl | exact .inr rfl | assumption)) (@pgs_cons _ _ _ _ _ (@pg_name _ _ (11) _ sc_show.nd rfl (by first | exact Or.inl rfl | exact Or.inr rfl) (by first | exact .inl rfl | exact .inr rfl | assumption)) (@pgs_cons _ _ _ _ _ (@pg_name _ _ (12) _ sc_show.nd rfl (by first | exact Or.inl rfl | exact Or.inr rfl) (by first | exact .inl rfl | exact .inr rfl | assumption)) pgs_nil (by rfl)) (by rfl)) (by rfl)) (by rfl) (by rfl)) pgs_nil (by rfl)) (by rfl)) (by rfl) (by rfl)) (by decide) (by decide))) (fun _ _ _ _ _ => mts_nil) (fun _ _ _ _ _ => (@me_def _ _ _ _ _ _ _ _ _ _ _ d_row_of hr (by decide) (by rfl) (@ma_cons _ _ _ _ _ (@me_tup _ _ _ _ _ (@ma_cons _ _ _ _ _ me_str (@ma_cons _ _ _ _ _ (@mv _ _ 10 _ (by rfl) (by first | exact Or.inl rfl | exact Or.inr (Or.inl rfl) | exact Or.inr (Or.inr rfl)) (by decide) (by decide)) (@ma_cons _ _ _ _ _ (@mv _ _ 8 _ (by rfl) (by first | exact Or.inl rfl | exact Or.inr (Or.inl rfl) | exact Or.inr (Or.inr rfl)) (by decide) (by decide)) ma_nil (by rfl)) (by rfl)) (by rfl))) (@ma_cons _ _ _ _ _ (@me_tup _ _ _ _ _ (@ma_cons _ _ _ _ _ (@mv _ _ 11 _ (by rfl) (by first | exact Or.inl rfl | exact Or.inr (Or.inl rfl) | exact Or.inr (Or.inr rfl)) (by decide) (by decide)) (@ma_cons _ _ _ _ _ (@mv _ _ 12 _ (by rfl) (by first | exact Or.inl rfl | exact Or.inr (Or.inl rfl) | exact Or.inr (Or.inr rfl)) (by decide) (by decide)) ma_nil (by rfl)) (by rfl))) ma_nil (by rfl)) (by rfl)) (len_cons (len_cons (fun δ M r h => len_nil h))) (by decide) (by rfl) (by rfl))) (by intro _; rfl)) (ip_or ip_add ip_addL) (by first | exact .inl rfl | exact .inr rfl | assumption))) (@ms_cons _ _ _ _ _ (@ms_expr _ _ _ _ (@me_methL _ _ _ _ _ _ _ _ _ ("list.append") _ _ append_m (@pe_bm _ _ _ _ _ _ _ _ _ _ _ _ PySem.F.plainAttrs_list PySem.F.slot_list_append PySem.F.type_list_append mt_append (@mv _ _ 7 _ (by rfl) (by first | exact Or.inl rfl | exact Or.inr (Or.inl rfl) | exact Or.inr (Or.inr rfl)) (by decide) (by decide)) (@ma_cons _ _ _ _ _ (@me_def _ _ _ _ _ _ _ _ _ _ _ d_row_of hr (by decide) (by rfl) (@ma_cons _ _ _ _ _ (@me_tup _ _ _ _ _ (@ma_cons _ _ _ _ _ me_str ma_nil (by rfl))) (@ma_cons _ _ _ _ _ (@me_tup _ _ _ _ _ (@ma_cons _ _ _ _ _ (@mv _ _ 4 _ (by rfl) (by first | exact Or.inl rfl | exact Or.inr (Or.inl rfl) | exact Or.inr (Or.inr rfl)) (by decide) (by decide)) ma_nil (by rfl))) ma_nil (by rfl)) (by rfl)) (len_cons (len_cons (fun δ M r h => len_nil h))) (by decide) (by rfl) (by rfl)) ma_nil (by rfl)) (by rfl) (by rfl) (by rfl) (by rfl) (by rfl))) (by rfl)) (@ms_cons _ _ _ _ _ (ms_aug (@ps_aug _ _ (7) _ _ _ _ _ _ sc_show.nd rfl (by first | exact Or.inl rfl | exact Or.inr rfl) (@me_lc _ _ _ _ _ _ _ ([("deed", 13)]) _ ((gOne 13)) _ _ (by rfl) sc_show.nd (@mi_any _ _ _ _ (@mv _ _ 5 _ (by rfl) (by first | exact Or.inl rfl | exact Or.inr (Or.inl rfl) | exact Or.inr (Or.inr rfl)) (by decide) (by decide))) (blkOk_by (own := [("deed", 13)]) (N := ["machine", "stretch", "units", "works", "givens", "deeds", "outs", "rows", "name", "many", "kind", "holds", "comes", "deed"]) (sc := defScope s_show) (by decide +kernel)) (fun _ _ _ _ _ => (@mg_nameV _ _ (13) _ sc_show.nd rfl (by first | exact Or.inl rfl | exact Or.inr rfl) _ (by decide) (by first | exact .inl rfl | exact .inr rfl | assumption))) (fun _ _ _ _ _ => mts_nil) (fun _ _ _ _ _ => (@me_def _ _ _ _ _ _ _ _ _ _ _ d_row_of hr (by decide) (by rfl) (@ma_cons _ _ _ _ _ (@me_slice2 _ _ _ _ _ _ _ _ _ (@mv _ _ 13 _ (by rfl) (by first | exact Or.inl rfl | exact Or.inr (Or.inl rfl) | exact Or.inr (Or.inr rfl)) (by decide) (by decide)) mo_none (@mo_some _ _ _ me_int)) (@ma_cons _ _ _ _ _ (@me_slice2 _ _ _ _ _ _ _ _ _ (@mv _ _ 13 _ (by rfl) (by first | exact Or.inl rfl | exact Or.inr (Or.inl rfl) | exact Or.inr (Or.inr rfl)) (by decide) (by decide)) (@mo_some _ _ _ me_int) mo_none) ma_nil (by rfl)) (by rfl)) (len_cons (len_cons (fun δ M r h => len_nil h))) (by decide) (by rfl) (by rfl))) (by intro _; rfl)) (ip_or ip_add ip_addL) (by first | exact .inl rfl | exact .inr rfl | assumption))) (@ms_cons _ _ _ _ _ (@ms_expr _ _ _ _ (@me_methL _ _ _ _ _ _ _ _ _ ("list.append") _ _ append_m (@pe_bm _ _ _ _ _ _ _ _ _ _ _ _ PySem.F.plainAttrs_list PySem.F.slot_list_append PySem.F.type_list_append mt_append (@mv _ _ 7 _ (by rfl) (by first | exact Or.inl rfl | exact Or.inr (Or.inl rfl) | exact Or.inr (Or.inr rfl)) (by decide) (by decide)) (@ma_cons _ _ _ _ _ (@me_def _ _ _ _ _ _ _ _ _ _ _ d_row_of hr (by decide) (by rfl) (@ma_cons _ _ _ _ _ (@me_tup _ _ _ _ _ (@ma_cons _ _ _ _ _ me_str ma_nil (by rfl))) (@ma_cons _ _ _ _ _ (@mv _ _ 6 _ (by rfl) (by first | exact Or.inl rfl | exact Or.inr (Or.inl rfl) | exact Or.inr (Or.inr rfl)) (by decide) (by decide)) ma_nil (by rfl)) (by rfl)) (len_cons (len_cons (fun δ M r h => len_nil h))) (by decide) (by rfl) (by rfl)) ma_nil (by rfl)) (by rfl) (by rfl) (by rfl) (by rfl) (by rfl))) (by rfl)) (@ms_one _ _ _ (@ms_ret _ _ _ _ (@me_join _ _ _ _ _ _ _ me_str (@mv _ _ 7 _ (by rfl) (by first | exact Or.inl rfl | exact Or.inr (Or.inl rfl) | exact Or.inr (Or.inr rfl)) (by decide) (by decide)) (by rfl) (by rfl) (by rfl)))))))))))
abbrev s__law_deck : Stmt := top 8
theorem sc__law_deck : FnScope ["_law_script", "_law_cells"] ["_law_script"] (defScope s__law_deck) := ⟨rfl, rfl, rfl, by decide +kernel, rfl, by decide +kernel, by decide +kernel⟩
theorem ok__law_deck {a : Addr} {fd : FuncData} (F : Fun K "_law_deck" "_law_deck" s__law_deck a fd) (z_len : mg "len" = none) (z_list : mg "list" = none) (z_sum : mg "sum" = none) : FnOk P w K mg base CX0 1 a fd ["_law_script"] (spM K 1 f__law_deck) :=
  fn_ok F sc__law_deck fun cdv A outer s H E hr => (@ms_cons _ _ _ _ _ (@ms_set _ _ _ _ (@ps_set _ _ (1) _ _ _ _ sc__law_deck.nd rfl (by first | exact Or.inl rfl | exact Or.inr rfl) (@me_callTy _ _ _ _ _ _ _ _ _ _ call_list_of list_m (by rfl) z_list boot_list (@ma_cons _ _ _ _ _ (@me_slice _ _ _ _ _ _ _ _ _ (@mv _ _ 0 _ (by rfl) (by first | exact Or.inl rfl | exact Or.inr (Or.inl rfl) | exact Or.inr (Or.inr rfl)) (by decide) (by decide)) mo_none (@mo_some _ _ _ me_int)) ma_nil (by rfl)) (by decide) (by decide) (by rfl) (by rfl)) (by rfl) (by first | exact .inl rfl | exact .inr rfl | assumption))) (@ms_one _ _ _ (@ms_ret _ _ _ _ (@me_dispQ _ _ _ _ 2 _ (@pq_cons _ _ _ _ _ _ _ _ (2) _ me_str (@mv _ _ 1 _ (by rfl) (by first | exact Or.inl rfl | exact Or.inr (Or.inl rfl) | exact Or.inr (Or.inr rfl)) (by decide) (by decide)) (@pq_cons _ _ _ _ _ _ _ _ (1) _ me_str (@me_add _ _ _ _ _ _ (@me_mod _ _ _ _ _ _ (@me_callB _ _ _ _ _ _ _ _ _ _ (cr_sum rfl) sum_m (by rfl) z_sum boot_sum (@ma_cons _ _ _ _ _ (@mv _ _ 1 _ (by rfl) (by first | exact Or.inl rfl | exact Or.inr (Or.inl rfl) | exact Or.inr (Or.inr rfl)) (by decide) (by decide)) ma_nil (by rfl)) (by decide) (by decide) (by rfl) (by rfl)) me_int) (@me_len _ _ _ _ _ (by rfl) z_len (@ma_cons _ _ _ _ _ (@mv _ _ 1 _ (by rfl) (by first | exact Or.inl rfl | exact Or.inr (Or.inl rfl) | exact Or.inr (Or.inr rfl)) (by decide) (by decide)) ma_nil (by rfl)) (by rfl))) (@pq_cons _ _ _ _ _ _ _ _ (0) _ me_str me_int pq_nil))) (by decide)))))
abbrev s__law_mixed : Stmt := top 9
theorem sc__law_mixed : FnScope ["_law_cell", "_law_k", "_law_number_here", "_law_other"] ["_law_cell", "_law_k"] (defScope s__law_mixed) := ⟨rfl, rfl, rfl, by decide +kernel, rfl, by decide +kernel, by decide +kernel⟩
theorem ok__law_mixed {a : Addr} {fd : FuncData} (F : Fun K "_law_mixed" "_law_mixed" s__law_mixed a fd) : FnOk P w K mg base CX0 1 a fd ["_law_cell", "_law_k"] (spM K 2 f__law_mixed) :=
  fn_ok F sc__law_mixed fun cdv A outer s H E hr => (@ms_cons _ _ _ _ _ (@ms_set _ _ _ _ (@ps_set _ _ (2) _ _ _ _ sc__law_mixed.nd rfl (by first | exact Or.inl rfl | exact Or.inr rfl) (@me_mod _ _ _ _ _ _ (@me_add _ _ _ _ _ _ (@me_add _ _ _ _ _ _ (@me_mul _ _ _ _ _ _ (@me_mod _ _ _ _ _ _ (@mv _ _ 0 _ (by rfl) (by first | exact Or.inl rfl | exact Or.inr (Or.inl rfl) | exact Or.inr (Or.inr rfl)) (by decide) (by decide)) me_int) me_int) (@me_mul _ _ _ _ _ _ me_int (@mv _ _ 1 _ (by rfl) (by first | exact Or.inl rfl | exact Or.inr (Or.inl rfl) | exact Or.inr (Or.inr rfl)) (by decide) (by decide)))) me_int) me_int) (by rfl) (by first | exact .inl rfl | exact .inr rfl | assumption))) (@ms_cons _ _ _ _ _ (@ms_set _ _ _ _ (@ps_set _ _ (2) _ _ _ _ sc__law_mixed.nd rfl (by first | exact Or.inl rfl | exact Or.inr rfl) (@me_mod _ _ _ _ _ _ (@me_mul _ _ _ _ _ _ (@mv _ _ 2 _ (by rfl) (by first | exact Or.inl rfl | exact Or.inr (Or.inl rfl) | exact Or.inr (Or.inr rfl)) (by decide) (by decide)) (@mv _ _ 2 _ (by rfl) (by first | exact Or.inl rfl | exact Or.inr (Or.inl rfl) | exact Or.inr (Or.inr rfl)) (by decide) (by decide))) me_int) (by rfl) (by first | exact .inl rfl | exact .inr rfl | assumption))) (@ms_cons _ _ _ _ _ (@ms_set _ _ _ _ (@ps_set _ _ (3) _ _ _ _ sc__law_mixed.nd rfl (by first | exact Or.inl rfl | exact Or.inr rfl) (@me_mod _ _ _ _ _ _ (@me_add _ _ _ _ _ _ (@me_add _ _ _ _ _ _ (@me_mul _ _ _ _ _ _ (@mv _ _ 2 _ (by rfl) (by first | exact Or.inl rfl | exact Or.inr (Or.inl rfl) | exact Or.inr (Or.inr rfl)) (by decide) (by decide)) me_int) (@me_mul _ _ _ _ _ _ me_int (@mv _ _ 1 _ (by rfl) (by first | exact Or.inl rfl | exact Or.inr (Or.inl rfl) | exact Or.inr (Or.inr rfl)) (by decide) (by decide)))) me_int) me_int) (by rfl) (by first | exact .inl rfl | exact .inr rfl | assumption))) (@ms_one _ _ _ (@ms_ret _ _ _ _ (@me_add _ _ _ _ _ _ (@me_fdiv _ _ _ _ _ _ (@mv _ _ 2 _ (by rfl) (by first | exact Or.inl rfl | exact Or.inr (Or.inl rfl) | exact Or.inr (Or.inr rfl)) (by decide) (by decide)) me_int) (@me_mul _ _ _ _ _ _ me_int (@me_fdiv _ _ _ _ _ _ (@mv _ _ 3 _ (by rfl) (by first | exact Or.inl rfl | exact Or.inr (Or.inl rfl) | exact Or.inr (Or.inr rfl)) (by decide) (by decide)) me_int))))))))
abbrev s__law_draw : Stmt := top 10
theorem sc__law_draw : FnScope ["_law_deck_here", "_law_most", "_law_cells", "_law_cell"] ["_law_deck_here", "_law_most"] (defScope s__law_draw) := ⟨rfl, rfl, rfl, by decide +kernel, rfl, by decide +kernel, by decide +kernel⟩
theorem ok__law_draw {a : Addr} {fd : FuncData} (F : Fun K "_law_draw" "_law_draw" s__law_draw a fd) (d__law_mixed : Def P w K mg base "_law_mixed" 1 ["_law_cell", "_law_k"] f__law_mixed) : FnOk P w K mg base CX0 2 a fd ["_law_deck_here", "_law_most"] (spM K 2 f__law_draw) :=
  fn_ok F sc__law_draw fun cdv A outer s H E hr => (@ms_cons _ _ _ _ _ (@ms_sub _ _ _ _ _ (@ps_asg _ _ _ _ _ _ (@me_add _ _ _ _ _ _ (@me_ix _ _ _ _ _ _ (hu_of hr) (@mv _ _ 0 _ (by rfl) (by first | exact Or.inl rfl | exact Or.inr (Or.inl rfl) | exact Or.inr (Or.inr rfl)) (by decide) (by decide)) me_str (fun _ _ => rfl)) me_int) (@pg_sub _ _ _ _ _ _ _ (@mv _ _ 0 _ (by rfl) (by first | exact Or.inl rfl | exact Or.inr (Or.inl rfl) | exact Or.inr (Or.inr rfl)) (by decide) (by decide)) me_str (set_any (hu_of hr)) (by intro _; rfl)) (by rfl) (by rfl) (by rfl))) (@ms_cons _ _ _ _ _ (@ms_set _ _ _ _ (@ps_set _ _ (2) _ _ _ _ sc__law_draw.nd rfl (by first | exact Or.inl rfl | exact Or.inr rfl) (@me_ix _ _ _ _ _ _ (hu_of hr) (@mv _ _ 0 _ (by rfl) (by first | exact Or.inl rfl | exact Or.inr (Or.inl rfl) | exact Or.inr (Or.inr rfl)) (by decide) (by decide)) me_str (fun _ _ => rfl)) (by rfl) (by first | exact .inl rfl | exact .inr rfl | assumption))) (@ms_cons _ _ _ _ _ (@ms_set _ _ _ _ (@ps_set _ _ (3) _ _ _ _ sc__law_draw.nd rfl (by first | exact Or.inl rfl | exact Or.inr rfl) (@me_ix _ _ _ _ _ _ (hu_of hr) (@mv _ _ 0 _ (by rfl) (by first | exact Or.inl rfl | exact Or.inr (Or.inl rfl) | exact Or.inr (Or.inr rfl)) (by decide) (by decide)) me_str (fun _ _ => rfl)) (by rfl) (by first | exact .inl rfl | exact .inr rfl | assumption))) (@ms_cons _ _ _ _ _ (@ms_if _ _ _ _ _ _ _ _ (@mt_ne _ _ _ _ _ _ hr.units (@mv _ _ 2 _ (by rfl) (by first | exact Or.inl rfl | exact Or.inr (Or.inl rfl) | exact Or.inr (Or.inr rfl)) (by decide) (by decide)) (@me_lst _ _ _ _ ma_nil)) (@ms_cons _ _ _ _ _ (@ms_set _ _ _ _ (@ps_set _ _ (3) _ _ _ _ sc__law_draw.nd rfl (by first | exact Or.inl rfl | exact Or.inr rfl) (@me_methL _ _ _ _ _ _ _ _ _ ("list.pop") _ _ popAt_m (@pe_bm _ _ _ _ _ _ _ _ _ _ _ _ PySem.F.plainAttrs_list PySem.F.slot_list_pop PySem.F.type_list_pop mt_popAt (@mv _ _ 2 _ (by rfl) (by first | exact Or.inl rfl | exact Or.inr (Or.inl rfl) | exact Or.inr (Or.inr rfl)) (by decide) (by decide)) (@ma_cons _ _ _ _ _ me_int ma_nil (by rfl)) (by rfl) (by rfl) (by rfl) (by rfl) (by rfl))) (by rfl) (by first | exact .inl rfl | exact .inr rfl | assumption))) (@ms_one _ _ _ (@ms_if _ _ _ _ _ _ _ _ (@mt_ge _ _ _ _ _ _ (@mv _ _ 3 _ (by rfl) (by first | exact Or.inl rfl | exact Or.inr (Or.inl rfl) | exact Or.inr (Or.inr rfl)) (by decide) (by decide)) (@me_pow _ _ _ _ _ _ me_int me_int)) (@ms_cons _ _ _ _ _ (@ms_expr _ _ _ _ (@me_methL _ _ _ _ _ _ _ _ _ ("list.insert") _ _ insert_m (@pe_bm _ _ _ _ _ _ _ _ _ _ _ _ PySem.F.plainAttrs_list PySem.F.slot_list_insert PySem.F.type_list_insert mt_insert (@mv _ _ 2 _ (by rfl) (by first | exact Or.inl rfl | exact Or.inr (Or.inl rfl) | exact Or.inr (Or.inr rfl)) (by decide) (by decide)) (@ma_cons _ _ _ _ _ me_int (@ma_cons _ _ _ _ _ (@me_fdiv _ _ _ _ _ _ (@mv _ _ 3 _ (by rfl) (by first | exact Or.inl rfl | exact Or.inr (Or.inl rfl) | exact Or.inr (Or.inr rfl)) (by decide) (by decide)) (@mv _ _ 1 _ (by rfl) (by first | exact Or.inl rfl | exact Or.inr (Or.inl rfl) | exact Or.inr (Or.inr rfl)) (by decide) (by decide))) ma_nil (by rfl)) (by rfl)) (by rfl) (by rfl) (by rfl) (by rfl) (by rfl))) (by rfl)) (@ms_one _ _ _ (@ms_ret _ _ _ _ (@me_mod _ _ _ _ _ _ (@mv _ _ 3 _ (by rfl) (by first | exact Or.inl rfl | exact Or.inr (Or.inl rfl) | exact Or.inr (Or.inr rfl)) (by decide) (by decide)) (@mv _ _ 1 _ (by rfl) (by first | exact Or.inl rfl | exact Or.inr (Or.inl rfl) | exact Or.inr (Or.inr rfl)) (by decide) (by decide)))))) ms_nil))) ms_nil) (@ms_one _ _ _ (@ms_ret _ _ _ _ (@me_mod _ _ _ _ _ _ (@me_def _ _ _ _ _ _ _ _ _ _ _ d__law_mixed hr (by decide) (by rfl) (@ma_cons _ _ _ _ _ (@mv _ _ 3 _ (by rfl) (by first | exact Or.inl rfl | exact Or.inr (Or.inl rfl) | exact Or.inr (Or.inr rfl)) (by decide) (by decide)) (@ma_cons _ _ _ _ _ (@me_ix _ _ _ _ _ _ (hu_of hr) (@mv _ _ 0 _ (by rfl) (by first | exact Or.inl rfl | exact Or.inr (Or.inl rfl) | exact Or.inr (Or.inr rfl)) (by decide) (by decide)) me_str (fun _ _ => rfl)) ma_nil (by rfl)) (by rfl)) (len_cons (len_cons (fun δ M r h => len_nil h))) (by decide) (by rfl) (by rfl)) (@mv _ _ 1 _ (by rfl) (by first | exact Or.inl rfl | exact Or.inr (Or.inl rfl) | exact Or.inr (Or.inr rfl)) (by decide) (by decide)))))))))
abbrev s__law_signs : Stmt := top 11
theorem sc__law_signs : FnScope ["_law_word", "_law_signs_here"] ["_law_word"] (defScope s__law_signs) := ⟨rfl, rfl, rfl, by decide +kernel, rfl, by decide +kernel, by decide +kernel⟩
theorem ok__law_signs {a : Addr} {fd : FuncData} (F : Fun K "_law_signs" "_law_signs" s__law_signs a fd) : FnOk P w K mg base CX0 1 a fd ["_law_word"] (spM K 1 f__law_signs) :=
  fn_okH F sc__law_signs fun cdv A outer s H E hr => (@hs_cons _ _ _ _ _ (@hs_setD _ _ _ _ (1) _ _ _ _ _ sc__law_signs.nd rfl (by first | exact Or.inl rfl | exact Or.inr rfl) (@pq_cons _ _ _ _ _ _ _ _ (6) _ me_str me_str (@pq_cons _ _ _ _ _ _ _ _ (5) _ me_str me_str (@pq_cons _ _ _ _ _ _ _ _ (4) _ me_str me_str (@pq_cons _ _ _ _ _ _ _ _ (3) _ me_str me_str (@pq_cons _ _ _ _ _ _ _ _ (2) _ me_str me_str (@pq_cons _ _ _ _ _ _ _ _ (1) _ me_str me_str (@pq_cons _ _ _ _ _ _ _ _ (0) _ me_str me_str pq_nil))))))) (by decide) (by first | exact .inl rfl | exact .inr rfl | assumption)) (@ms_cons _ _ _ _ _ (@ms_sub _ _ _ _ _ (@ps_asg _ _ _ _ _ _ me_str (@pg_sub _ _ _ _ _ _ _ (@mv _ _ 1 _ (by rfl) (by first | exact Or.inl rfl | exact Or.inr (Or.inl rfl) | exact Or.inr (Or.inr rfl)) (by decide) (by decide)) me_str (set_any (hu_of hr)) (by intro _; rfl)) (by rfl) (by rfl) (by rfl))) (@ms_cons _ _ _ _ _ (@ms_sub _ _ _ _ _ (@ps_asg _ _ _ _ _ _ me_str (@pg_sub _ _ _ _ _ _ _ (@mv _ _ 1 _ (by rfl) (by first | exact Or.inl rfl | exact Or.inr (Or.inl rfl) | exact Or.inr (Or.inr rfl)) (by decide) (by decide)) me_str (set_any (hu_of hr)) (by intro _; rfl)) (by rfl) (by rfl) (by rfl))) (@ms_cons _ _ _ _ _ (@ms_sub _ _ _ _ _ (@ps_asg _ _ _ _ _ _ me_str (@pg_sub _ _ _ _ _ _ _ (@mv _ _ 1 _ (by rfl) (by first | exact Or.inl rfl | exact Or.inr (Or.inl rfl) | exact Or.inr (Or.inr rfl)) (by decide) (by decide)) me_str (set_any (hu_of hr)) (by intro _; rfl)) (by rfl) (by rfl) (by rfl))) (@ms_cons _ _ _ _ _ (@ms_sub _ _ _ _ _ (@ps_asg _ _ _ _ _ _ me_str (@pg_sub _ _ _ _ _ _ _ (@mv _ _ 1 _ (by rfl) (by first | exact Or.inl rfl | exact Or.inr (Or.inl rfl) | exact Or.inr (Or.inr rfl)) (by decide) (by decide)) me_str (set_any (hu_of hr)) (by intro _; rfl)) (by rfl) (by rfl) (by rfl))) (@ms_one _ _ _ (@ms_ret _ _ _ _ (@me_ix _ _ _ _ _ _ (hu_of hr) (@mv _ _ 1 _ (by rfl) (by first | exact Or.inl rfl | exact Or.inr (Or.inl rfl) | exact Or.inr (Or.inr rfl)) (by decide) (by decide)) (@mv _ _ 0 _ (by rfl) (by first | exact Or.inl rfl | exact Or.inr (Or.inl rfl) | exact Or.inr (Or.inr rfl)) (by decide) (by decide)) (fun _ _ => rfl)))))))))
abbrev s__law_words : Stmt := top 12
theorem sc__law_words : FnScope [] [] (defScope s__law_words) := ⟨rfl, rfl, rfl, by decide +kernel, rfl, by decide +kernel, by decide +kernel⟩
theorem ok__law_words {a : Addr} {fd : FuncData} (F : Fun K "_law_words" "_law_words" s__law_words a fd) : FnOk P w K mg base CX0 1 a fd [] (spM K 0 f__law_words) :=
  fn_ok F sc__law_words fun cdv A outer s H E hr => (@ms_one _ _ _ (@ms_ret _ _ _ _ (@me_lst _ _ _ _ (@ma_cons _ _ _ _ _ me_str (@ma_cons _ _ _ _ _ me_str (@ma_cons _ _ _ _ _ me_str (@ma_cons _ _ _ _ _ me_str (@ma_cons _ _ _ _ _ me_str (@ma_cons _ _ _ _ _ me_str (@ma_cons _ _ _ _ _ me_str (@ma_cons _ _ _ _ _ me_str (@ma_cons _ _ _ _ _ me_str (@ma_cons _ _ _ _ _ me_str (@ma_cons _ _ _ _ _ me_str ma_nil (by rfl)) (by rfl)) (by rfl)) (by rfl)) (by rfl)) (by rfl)) (by rfl)) (by rfl)) (by rfl)) (by rfl)) (by rfl)))))
abbrev s__law_number : Stmt := top 13
theorem sc__law_number : FnScope ["_law_deck_here", "_law_way"] ["_law_deck_here"] (defScope s__law_number) := ⟨rfl, rfl, rfl, by decide +kernel, rfl, by decide +kernel, by decide +kernel⟩
theorem ok__law_number {a : Addr} {fd : FuncData} (F : Fun K "_law_number" "_law_number" s__law_number a fd) (d__law_draw : Def P w K mg base "_law_draw" 2 ["_law_deck_here", "_law_most"] f__law_draw) : FnOk P w K mg base CX0 3 a fd ["_law_deck_here"] (spM K 1 f__law_number) :=
  fn_ok F sc__law_number fun cdv A outer s H E hr => (@ms_cons _ _ _ _ _ (@ms_set _ _ _ _ (@ps_set _ _ (1) _ _ _ _ sc__law_number.nd rfl (by first | exact Or.inl rfl | exact Or.inr rfl) (@me_def _ _ _ _ _ _ _ _ _ _ _ d__law_draw hr (by decide) (by rfl) (@ma_cons _ _ _ _ _ (@mv _ _ 0 _ (by rfl) (by first | exact Or.inl rfl | exact Or.inr (Or.inl rfl) | exact Or.inr (Or.inr rfl)) (by decide) (by decide)) (@ma_cons _ _ _ _ _ me_int ma_nil (by rfl)) (by rfl)) (len_cons (len_cons (fun δ M r h => len_nil h))) (by decide) (by rfl) (by rfl)) (by rfl) (by first | exact .inl rfl | exact .inr rfl | assumption))) (@ms_cons _ _ _ _ _ (@ms_if _ _ _ _ _ _ _ _ (@mt_gt _ _ _ _ _ _ (@mv _ _ 1 _ (by rfl) (by first | exact Or.inl rfl | exact Or.inr (Or.inl rfl) | exact Or.inr (Or.inr rfl)) (by decide) (by decide)) me_int) (@ms_one _ _ _ (@ms_ret _ _ _ _ (@me_sub _ _ _ _ _ _ (@me_def _ _ _ _ _ _ _ _ _ _ _ d__law_draw hr (by decide) (by rfl) (@ma_cons _ _ _ _ _ (@mv _ _ 0 _ (by rfl) (by first | exact Or.inl rfl | exact Or.inr (Or.inl rfl) | exact Or.inr (Or.inr rfl)) (by decide) (by decide)) (@ma_cons _ _ _ _ _ (@me_ix _ _ _ _ _ _ (hu_of hr) (@me_lst _ _ _ _ (@ma_cons _ _ _ _ _ me_int (@ma_cons _ _ _ _ _ (@me_add _ _ _ _ _ _ (@me_mul _ _ _ _ _ _ me_int (@me_pow _ _ _ _ _ _ me_int me_int)) me_int) ma_nil (by rfl)) (by rfl))) (@me_sub _ _ _ _ _ _ (@mv _ _ 1 _ (by rfl) (by first | exact Or.inl rfl | exact Or.inr (Or.inl rfl) | exact Or.inr (Or.inr rfl)) (by decide) (by decide)) me_int) (fun _ _ => rfl)) ma_nil (by rfl)) (by rfl)) (len_cons (len_cons (fun δ M r h => len_nil h))) (by decide) (by rfl) (by rfl)) (@me_ix _ _ _ _ _ _ (hu_of hr) (@me_lst _ _ _ _ (@ma_cons _ _ _ _ _ me_int (@ma_cons _ _ _ _ _ (@me_pow _ _ _ _ _ _ me_int me_int) ma_nil (by rfl)) (by rfl))) (@me_sub _ _ _ _ _ _ (@mv _ _ 1 _ (by rfl) (by first | exact Or.inl rfl | exact Or.inr (Or.inl rfl) | exact Or.inr (Or.inr rfl)) (by decide) (by decide)) me_int) (fun _ _ => rfl))))) ms_nil) (@ms_one _ _ _ (@ms_ret _ _ _ _ (@me_ix _ _ _ _ _ _ (hu_of hr) (@me_lst _ _ _ _ (@ma_cons _ _ _ _ _ me_int (@ma_cons _ _ _ _ _ me_int (@ma_cons _ _ _ _ _ (@me_neg _ _ _ _ me_int) (@ma_cons _ _ _ _ _ me_int (@ma_cons _ _ _ _ _ (@me_pow _ _ _ _ _ _ me_int me_int) (@ma_cons _ _ _ _ _ (@me_sub _ _ _ _ _ _ me_int (@me_pow _ _ _ _ _ _ me_int me_int)) ma_nil (by rfl)) (by rfl)) (by rfl)) (by rfl)) (by rfl)) (by rfl))) (@mv _ _ 1 _ (by rfl) (by first | exact Or.inl rfl | exact Or.inr (Or.inl rfl) | exact Or.inr (Or.inr rfl)) (by decide) (by decide)) (fun _ _ => rfl))))))
abbrev s__law_worth : Stmt := top 14
theorem sc__law_worth : FnScope ["_law_deck_here", "_law_there_here"] ["_law_deck_here", "_law_there_here"] (defScope s__law_worth) := ⟨rfl, rfl, rfl, by decide +kernel, rfl, by decide +kernel, by decide +kernel⟩
theorem ok__law_worth {a : Addr} {fd : FuncData} (F : Fun K "_law_worth" "_law_worth" s__law_worth a fd) (d__law_draw : Def P w K mg base "_law_draw" 2 ["_law_deck_here", "_law_most"] f__law_draw) (z_len : mg "len" = none) (z_min : mg "min" = none) : FnOk P w K mg base CX0 3 a fd ["_law_deck_here", "_law_there_here"] (spM K 2 f__law_worth) :=
  fn_ok F sc__law_worth fun cdv A outer s H E hr => (@ms_cons _ _ _ _ _ (@ms_if _ _ _ _ _ _ _ _ (@mt_eq _ _ _ _ _ _ hr.units (@me_def _ _ _ _ _ _ _ _ _ _ _ d__law_draw hr (by decide) (by rfl) (@ma_cons _ _ _ _ _ (@mv _ _ 0 _ (by rfl) (by first | exact Or.inl rfl | exact Or.inr (Or.inl rfl) | exact Or.inr (Or.inr rfl)) (by decide) (by decide)) (@ma_cons _ _ _ _ _ me_int ma_nil (by rfl)) (by rfl)) (len_cons (len_cons (fun δ M r h => len_nil h))) (by decide) (by rfl) (by rfl)) me_int) (@ms_one _ _ _ (@ms_ret _ _ _ _ (@me_ix _ _ _ _ _ _ (hu_of hr) (@mv _ _ 1 _ (by rfl) (by first | exact Or.inl rfl | exact Or.inr (Or.inl rfl) | exact Or.inr (Or.inr rfl)) (by decide) (by decide)) (@me_sub _ _ _ _ _ _ (@me_neg _ _ _ _ me_int) (@me_def _ _ _ _ _ _ _ _ _ _ _ d__law_draw hr (by decide) (by rfl) (@ma_cons _ _ _ _ _ (@mv _ _ 0 _ (by rfl) (by first | exact Or.inl rfl | exact Or.inr (Or.inl rfl) | exact Or.inr (Or.inr rfl)) (by decide) (by decide)) (@ma_cons _ _ _ _ _ (@me_callB _ _ _ _ _ _ _ _ _ _ (call_min2 rfl) min2_m (by rfl) z_min boot_min (@ma_cons _ _ _ _ _ me_int (@ma_cons _ _ _ _ _ (@me_len _ _ _ _ _ (by rfl) z_len (@ma_cons _ _ _ _ _ (@mv _ _ 1 _ (by rfl) (by first | exact Or.inl rfl | exact Or.inr (Or.inl rfl) | exact Or.inr (Or.inr rfl)) (by decide) (by decide)) ma_nil (by rfl)) (by rfl)) ma_nil (by rfl)) (by rfl)) (by decide) (by decide) (by rfl) (by rfl)) ma_nil (by rfl)) (by rfl)) (len_cons (len_cons (fun δ M r h => len_nil h))) (by decide) (by rfl) (by rfl))) (fun _ _ => rfl)))) ms_nil) (@ms_one _ _ _ (@ms_ret _ _ _ _ (@me_ix _ _ _ _ _ _ (hu_of hr) (@mv _ _ 1 _ (by rfl) (by first | exact Or.inl rfl | exact Or.inr (Or.inl rfl) | exact Or.inr (Or.inr rfl)) (by decide) (by decide)) (@me_def _ _ _ _ _ _ _ _ _ _ _ d__law_draw hr (by decide) (by rfl) (@ma_cons _ _ _ _ _ (@mv _ _ 0 _ (by rfl) (by first | exact Or.inl rfl | exact Or.inr (Or.inl rfl) | exact Or.inr (Or.inr rfl)) (by decide) (by decide)) (@ma_cons _ _ _ _ _ (@me_len _ _ _ _ _ (by rfl) z_len (@ma_cons _ _ _ _ _ (@mv _ _ 1 _ (by rfl) (by first | exact Or.inl rfl | exact Or.inr (Or.inl rfl) | exact Or.inr (Or.inr rfl)) (by decide) (by decide)) ma_nil (by rfl)) (by rfl)) ma_nil (by rfl)) (by rfl)) (len_cons (len_cons (fun δ M r h => len_nil h))) (by decide) (by rfl) (by rfl)) (fun _ _ => rfl)))))
abbrev s__law_deed : Stmt := top 15
theorem sc__law_deed : FnScope ["_law_deck_here", "_law_menu_here", "_law_there_here", "_law_word", "_law_parts", "_law_sign"] ["_law_deck_here", "_law_menu_here", "_law_there_here"] (defScope s__law_deed) := ⟨rfl, rfl, rfl, by decide +kernel, rfl, by decide +kernel, by decide +kernel⟩
theorem ok__law_deed {a : Addr} {fd : FuncData} (F : Fun K "_law_deed" "_law_deed" s__law_deed a fd) (d__law_draw : Def P w K mg base "_law_draw" 2 ["_law_deck_here", "_law_most"] f__law_draw) (d__law_number : Def P w K mg base "_law_number" 3 ["_law_deck_here"] f__law_number) (d__law_signs : Def P w K mg base "_law_signs" 1 ["_law_word"] f__law_signs) (d__law_worth : Def P w K mg base "_law_worth" 3 ["_law_deck_here", "_law_there_here"] f__law_worth) (z_len : mg "len" = none) (z_tuple : mg "tuple" = none) : FnOk P w K mg base CX0 4 a fd ["_law_deck_here", "_law_menu_here", "_law_there_here"] (spM K 3 f__law_deed) :=
  fn_ok F sc__law_deed fun cdv A outer s H E hr => (@ms_cons _ _ _ _ _ (@ms_set _ _ _ _ (@ps_set _ _ (3) _ _ _ _ sc__law_deed.nd rfl (by first | exact Or.inl rfl | exact Or.inr rfl) (@me_ix _ _ _ _ _ _ (hu_of hr) (@mv _ _ 1 _ (by rfl) (by first | exact Or.inl rfl | exact Or.inr (Or.inl rfl) | exact Or.inr (Or.inr rfl)) (by decide) (by decide)) (@me_def _ _ _ _ _ _ _ _ _ _ _ d__law_draw hr (by decide) (by rfl) (@ma_cons _ _ _ _ _ (@mv _ _ 0 _ (by rfl) (by first | exact Or.inl rfl | exact Or.inr (Or.inl rfl) | exact Or.inr (Or.inr rfl)) (by decide) (by decide)) (@ma_cons _ _ _ _ _ (@me_len _ _ _ _ _ (by rfl) z_len (@ma_cons _ _ _ _ _ (@mv _ _ 1 _ (by rfl) (by first | exact Or.inl rfl | exact Or.inr (Or.inl rfl) | exact Or.inr (Or.inr rfl)) (by decide) (by decide)) ma_nil (by rfl)) (by rfl)) ma_nil (by rfl)) (by rfl)) (len_cons (len_cons (fun δ M r h => len_nil h))) (by decide) (by rfl) (by rfl)) (fun _ _ => rfl)) (by rfl) (by first | exact .inl rfl | exact .inr rfl | assumption))) (@ms_cons _ _ _ _ _ (@ms_if _ _ _ _ _ _ _ _ (PW.pt (@mw_and _ _ _ _ _ _ _ (@mt_eq _ _ _ _ _ _ hr.units (@mv _ _ 2 _ (by rfl) (by first | exact Or.inl rfl | exact Or.inr (Or.inl rfl) | exact Or.inr (Or.inr rfl)) (by decide) (by decide)) (@me_lst _ _ _ _ ma_nil)) (@mw_and1 _ _ _ _ (@mt_inE _ _ _ _ _ _ (hu_of hr) me_str (@me_def _ _ _ _ _ _ _ _ _ _ _ d__law_signs hr (by decide) (by rfl) (@ma_cons _ _ _ _ _ (@mv _ _ 3 _ (by rfl) (by first | exact Or.inl rfl | exact Or.inr (Or.inl rfl) | exact Or.inr (Or.inr rfl)) (by decide) (by decide)) ma_nil (by rfl)) (len_cons (fun δ M r h => len_nil h)) (by decide) (by rfl) (by rfl)) (by rfl))))) (@ms_one _ _ _ (@ms_set _ _ _ _ (@ps_set _ _ (3) _ _ _ _ sc__law_deed.nd rfl (by first | exact Or.inl rfl | exact Or.inr rfl) me_str (by rfl) (by first | exact .inl rfl | exact .inr rfl | assumption)))) ms_nil) (@ms_cons _ _ _ _ _ (@ms_set _ _ _ _ (@ps_set _ _ (4) _ _ _ _ sc__law_deed.nd rfl (by first | exact Or.inl rfl | exact Or.inr rfl) (@me_lst _ _ _ _ (@ma_cons _ _ _ _ _ (@mv _ _ 3 _ (by rfl) (by first | exact Or.inl rfl | exact Or.inr (Or.inl rfl) | exact Or.inr (Or.inr rfl)) (by decide) (by decide)) ma_nil (by rfl))) (by rfl) (by first | exact .inl rfl | exact .inr rfl | assumption))) (@ms_cons _ _ _ _ _ (@ms_for _ _ _ _ _ _ _ ([5]) _ PassesOwn.never rfl (@mi_any _ _ _ _ (@me_def _ _ _ _ _ _ _ _ _ _ _ d__law_signs hr (by decide) (by rfl) (@ma_cons _ _ _ _ _ (@mv _ _ 3 _ (by rfl) (by first | exact Or.inl rfl | exact Or.inr (Or.inl rfl) | exact Or.inr (Or.inr rfl)) (by decide) (by decide)) ma_nil (by rfl)) (len_cons (fun δ M r h => len_nil h)) (by decide) (by rfl) (by rfl))) (@mg_nameV _ _ (5) _ sc__law_deed.nd rfl (by first | exact Or.inl rfl | exact Or.inr rfl) _ (by decide) (by first | exact .inl rfl | exact .inr rfl | assumption)) (@ms_one _ _ _ (@ms_if _ _ _ _ _ _ _ _ (@mt_eq _ _ _ _ _ _ hr.units (@mv _ _ 5 _ (by rfl) (by first | exact Or.inl rfl | exact Or.inr (Or.inl rfl) | exact Or.inr (Or.inr rfl)) (by decide) (by decide)) me_str) (@ms_one _ _ _ (@ms_expr _ _ _ _ (@me_methL _ _ _ _ _ _ _ _ _ ("list.append") _ _ append_m (@pe_bm _ _ _ _ _ _ _ _ _ _ _ _ PySem.F.plainAttrs_list PySem.F.slot_list_append PySem.F.type_list_append mt_append (@mv _ _ 4 _ (by rfl) (by first | exact Or.inl rfl | exact Or.inr (Or.inl rfl) | exact Or.inr (Or.inr rfl)) (by decide) (by decide)) (@ma_cons _ _ _ _ _ (@me_def _ _ _ _ _ _ _ _ _ _ _ d__law_worth hr (by decide) (by rfl) (@ma_cons _ _ _ _ _ (@mv _ _ 0 _ (by rfl) (by first | exact Or.inl rfl | exact Or.inr (Or.inl rfl) | exact Or.inr (Or.inr rfl)) (by decide) (by decide)) (@ma_cons _ _ _ _ _ (@mv _ _ 2 _ (by rfl) (by first | exact Or.inl rfl | exact Or.inr (Or.inl rfl) | exact Or.inr (Or.inr rfl)) (by decide) (by decide)) ma_nil (by rfl)) (by rfl)) (len_cons (len_cons (fun δ M r h => len_nil h))) (by decide) (by rfl) (by rfl)) ma_nil (by rfl)) (by rfl) (by rfl) (by rfl) (by rfl) (by rfl))) (by rfl))) (@ms_one _ _ _ (@ms_if _ _ _ _ _ _ _ _ (@mt_eq _ _ _ _ _ _ hr.units (@mv _ _ 5 _ (by rfl) (by first | exact Or.inl rfl | exact Or.inr (Or.inl rfl) | exact Or.inr (Or.inr rfl)) (by decide) (by decide)) me_str) (@ms_one _ _ _ (@ms_expr _ _ _ _ (@me_methL _ _ _ _ _ _ _ _ _ ("list.append") _ _ append_m (@pe_bm _ _ _ _ _ _ _ _ _ _ _ _ PySem.F.plainAttrs_list PySem.F.slot_list_append PySem.F.type_list_append mt_append (@mv _ _ 4 _ (by rfl) (by first | exact Or.inl rfl | exact Or.inr (Or.inl rfl) | exact Or.inr (Or.inr rfl)) (by decide) (by decide)) (@ma_cons _ _ _ _ _ (@me_def _ _ _ _ _ _ _ _ _ _ _ d__law_number hr (by decide) (by rfl) (@ma_cons _ _ _ _ _ (@mv _ _ 0 _ (by rfl) (by first | exact Or.inl rfl | exact Or.inr (Or.inl rfl) | exact Or.inr (Or.inr rfl)) (by decide) (by decide)) ma_nil (by rfl)) (len_cons (fun δ M r h => len_nil h)) (by decide) (by rfl) (by rfl)) ma_nil (by rfl)) (by rfl) (by rfl) (by rfl) (by rfl) (by rfl))) (by rfl))) (@ms_one _ _ _ (@ms_expr _ _ _ _ (@me_methL _ _ _ _ _ _ _ _ _ ("list.append") _ _ append_m (@pe_bm _ _ _ _ _ _ _ _ _ _ _ _ PySem.F.plainAttrs_list PySem.F.slot_list_append PySem.F.type_list_append mt_append (@mv _ _ 4 _ (by rfl) (by first | exact Or.inl rfl | exact Or.inr (Or.inl rfl) | exact Or.inr (Or.inr rfl)) (by decide) (by decide)) (@ma_cons _ _ _ _ _ (@me_def _ _ _ _ _ _ _ _ _ _ _ d__law_draw hr (by decide) (by rfl) (@ma_cons _ _ _ _ _ (@mv _ _ 0 _ (by rfl) (by first | exact Or.inl rfl | exact Or.inr (Or.inl rfl) | exact Or.inr (Or.inr rfl)) (by decide) (by decide)) (@ma_cons _ _ _ _ _ (@me_ix _ _ _ _ _ _ (hu_of hr) (@me_lst _ _ _ _ (@ma_cons _ _ _ _ _ me_int (@ma_cons _ _ _ _ _ me_int (@ma_cons _ _ _ _ _ (@me_pow _ _ _ _ _ _ me_int me_int) ma_nil (by rfl)) (by rfl)) (by rfl))) (@me_def _ _ _ _ _ _ _ _ _ _ _ d__law_draw hr (by decide) (by rfl) (@ma_cons _ _ _ _ _ (@mv _ _ 0 _ (by rfl) (by first | exact Or.inl rfl | exact Or.inr (Or.inl rfl) | exact Or.inr (Or.inr rfl)) (by decide) (by decide)) (@ma_cons _ _ _ _ _ me_int ma_nil (by rfl)) (by rfl)) (len_cons (len_cons (fun δ M r h => len_nil h))) (by decide) (by rfl) (by rfl)) (fun _ _ => rfl)) ma_nil (by rfl)) (by rfl)) (len_cons (len_cons (fun δ M r h => len_nil h))) (by decide) (by rfl) (by rfl)) ma_nil (by rfl)) (by rfl) (by rfl) (by rfl) (by rfl) (by rfl))) (by rfl))))))) (by intro _; rfl)) (@ms_one _ _ _ (@ms_ret _ _ _ _ (@me_callTy _ _ _ _ _ _ _ _ _ _ call_tuple_of tuple_m (by rfl) z_tuple boot_tuple (@ma_cons _ _ _ _ _ (@mv _ _ 4 _ (by rfl) (by first | exact Or.inl rfl | exact Or.inr (Or.inl rfl) | exact Or.inr (Or.inr rfl)) (by decide) (by decide)) ma_nil (by rfl)) (by decide) (by decide) (by rfl) (by rfl))))))))
abbrev s__law_there : Stmt := top 16
theorem sc__law_there : FnScope ["_law_stretch_here", "_law_givens", "_law_deeds", "_law_outs", "_law_k", "_law_deed_here"] ["_law_stretch_here"] (defScope s__law_there) := ⟨rfl, rfl, rfl, by decide +kernel, rfl, by decide +kernel, by decide +kernel⟩
theorem ok__law_there {a : Addr} {fd : FuncData} (F : Fun K "_law_there" "_law_there" s__law_there a fd) (z_enumerate : mg "enumerate" = none) (z_list : mg "list" = none) (z_range : mg "range" = none) : FnOk P w K mg base CX0 1 a fd ["_law_stretch_here"] (spM K 1 f__law_there) :=
  fn_ok F sc__law_there fun cdv A outer s H E hr => (@ms_cons _ _ _ _ _ (@ms_asg _ _ _ (.Name "" ⟨0, 0, 0, 0⟩) _ ([1, 2, 3]) (@ps_asg _ _ _ _ _ _ (@mv _ _ 0 _ (by rfl) (by first | exact Or.inl rfl | exact Or.inr (Or.inl rfl) | exact Or.inr (Or.inr rfl)) (by decide) (by decide)) (@mg_many _ _ ([1, 2, 3]) (@pg_tup _ _ _ _ _ _ rfl (@pgs_cons _ _ _ _ _ (@pg_name _ _ (1) _ sc__law_there.nd rfl (by first | exact Or.inl rfl | exact Or.inr rfl) (by first | exact .inl rfl | exact .inr rfl | assumption)) (@pgs_cons _ _ _ _ _ (@pg_name _ _ (2) _ sc__law_there.nd rfl (by first | exact Or.inl rfl | exact Or.inr rfl) (by first | exact .inl rfl | exact .inr rfl | assumption)) (@pgs_cons _ _ _ _ _ (@pg_name _ _ (3) _ sc__law_there.nd rfl (by first | exact Or.inl rfl | exact Or.inr rfl) (by first | exact .inl rfl | exact .inr rfl | assumption)) pgs_nil (by rfl)) (by rfl)) (by rfl)) (by rfl) (by rfl)) _ (by decide)) (by rfl) (by rfl) (by rfl))) (@ms_one _ _ _ (@ms_ret _ _ _ _ (@me_add _ _ _ _ _ _ (@me_list_range _ _ _ _ _ _ _ (by rfl) (by rfl) z_list z_range (@ma_cons _ _ _ _ _ (@mv _ _ 1 _ (by rfl) (by first | exact Or.inl rfl | exact Or.inr (Or.inl rfl) | exact Or.inr (Or.inr rfl)) (by decide) (by decide)) ma_nil (by rfl)) (by rfl) (by rfl) (by rfl)) (@me_lc _ _ _ _ _ _ _ ([("_law_k", 4), ("_law_deed_here", 5)]) _ ((gMany [4, 5])) _ _ (by rfl) sc__law_there.nd (@mi_enumerate _ _ _ _ _ _ _ _ rfl z_enumerate (@ma_cons _ _ _ _ _ (@mv _ _ 2 _ (by rfl) (by first | exact Or.inl rfl | exact Or.inr (Or.inl rfl) | exact Or.inr (Or.inr rfl)) (by decide) (by decide)) ma_nil (by rfl)) (by rfl)) (blkOk_by (own := [("_law_k", 4), ("_law_deed_here", 5)]) (N := ["_law_stretch_here", "_law_givens", "_law_deeds", "_law_outs", "_law_k", "_law_deed_here"]) (sc := defScope s__law_there) (by decide +kernel)) (fun _ _ _ _ _ => (@mg_many _ _ ([4, 5]) (@pg_tup _ _ _ _ _ _ rfl (@pgs_cons _ _ _ _ _ (@pg_name _ _ (4) _ sc__law_there.nd rfl (by first | exact Or.inl rfl | exact Or.inr rfl) (by first | exact .inl rfl | exact .inr rfl | assumption)) (@pgs_cons _ _ _ _ _ (@pg_name _ _ (5) _ sc__law_there.nd rfl (by first | exact Or.inl rfl | exact Or.inr rfl) (by first | exact .inl rfl | exact .inr rfl | assumption)) pgs_nil (by rfl)) (by rfl)) (by rfl) (by rfl)) _ (by decide))) (fun _ _ _ _ _ => (@mts_one _ _ _ (@mt_notin _ _ _ _ _ _ (hu_of hr) (@me_ix _ _ _ _ _ _ (hu_of hr) (@mv _ _ 5 _ (by rfl) (by first | exact Or.inl rfl | exact Or.inr (Or.inl rfl) | exact Or.inr (Or.inr rfl)) (by decide) (by decide)) me_int (fun _ _ => rfl)) (@me_tup _ _ _ _ _ (@ma_cons _ _ _ _ _ me_str (@ma_cons _ _ _ _ _ me_str ma_nil (by rfl)) (by rfl))) (by rfl)))) (fun _ _ _ _ _ => (@me_add _ _ _ _ _ _ (@mv _ _ 1 _ (by rfl) (by first | exact Or.inl rfl | exact Or.inr (Or.inl rfl) | exact Or.inr (Or.inr rfl)) (by decide) (by decide)) (@mv _ _ 4 _ (by rfl) (by first | exact Or.inl rfl | exact Or.inr (Or.inl rfl) | exact Or.inr (Or.inr rfl)) (by decide) (by decide)))) (by intro _; rfl))))))
abbrev s__law_menu : Stmt := top 17
theorem sc__law_menu : FnScope ["_law_deeds", "_law_words_here", "_law_deed_here"] ["_law_deeds"] (defScope s__law_menu) := ⟨rfl, rfl, rfl, by decide +kernel, rfl, by decide +kernel, by decide +kernel⟩
theorem ok__law_menu {a : Addr} {fd : FuncData} (F : Fun K "_law_menu" "_law_menu" s__law_menu a fd) (d__law_words : Def P w K mg base "_law_words" 1 [] f__law_words) (z_len : mg "len" = none) : FnOk P w K mg base CX0 2 a fd ["_law_deeds"] (spM K 1 f__law_menu) :=
  fn_ok F sc__law_menu fun cdv A outer s H E hr => (@ms_cons _ _ _ _ _ (@ms_set _ _ _ _ (@ps_set _ _ (1) _ _ _ _ sc__law_menu.nd rfl (by first | exact Or.inl rfl | exact Or.inr rfl) (@me_def0 _ _ _ _ _ _ _ d__law_words hr (by decide) (by rfl) (by decide)) (by rfl) (by first | exact .inl rfl | exact .inr rfl | assumption))) (@ms_cons _ _ _ _ _ (@ms_if _ _ _ _ _ _ _ _ (@mt_gt _ _ _ _ _ _ (@me_len _ _ _ _ _ (by rfl) z_len (@ma_cons _ _ _ _ _ (@me_lc _ _ _ _ _ _ _ ([("_law_deed_here", 2)]) _ ((gOne 2)) _ _ (by rfl) sc__law_menu.nd (@mi_any _ _ _ _ (@mv _ _ 0 _ (by rfl) (by first | exact Or.inl rfl | exact Or.inr (Or.inl rfl) | exact Or.inr (Or.inr rfl)) (by decide) (by decide))) (blkOk_by (own := [("_law_deed_here", 2)]) (N := ["_law_deeds", "_law_words_here", "_law_deed_here"]) (sc := defScope s__law_menu) (by decide +kernel)) (fun _ _ _ _ _ => (@mg_nameV _ _ (2) _ sc__law_menu.nd rfl (by first | exact Or.inl rfl | exact Or.inr rfl) _ (by decide) (by first | exact .inl rfl | exact .inr rfl | assumption))) (fun _ _ _ _ _ => (@mts_one _ _ _ (@mt_eq _ _ _ _ _ _ hr.units (@me_ix _ _ _ _ _ _ (hu_of hr) (@mv _ _ 2 _ (by rfl) (by first | exact Or.inl rfl | exact Or.inr (Or.inl rfl) | exact Or.inr (Or.inr rfl)) (by decide) (by decide)) me_int (fun _ _ => rfl)) me_str))) (fun _ _ _ _ _ => (@mv _ _ 2 _ (by rfl) (by first | exact Or.inl rfl | exact Or.inr (Or.inl rfl) | exact Or.inr (Or.inr rfl)) (by decide) (by decide))) (by intro _; rfl)) ma_nil (by rfl)) (by rfl)) me_int) (@ms_one _ _ _ (@ms_expr _ _ _ _ (@me_methL _ _ _ _ _ _ _ _ _ ("list.remove") _ _ remove_m (@pe_bm _ _ _ _ _ _ _ _ _ _ _ _ PySem.F.plainAttrs_list PySem.F.slot_list_remove PySem.F.type_list_remove mt_remove (@mv _ _ 1 _ (by rfl) (by first | exact Or.inl rfl | exact Or.inr (Or.inl rfl) | exact Or.inr (Or.inr rfl)) (by decide) (by decide)) (@ma_cons _ _ _ _ _ me_str ma_nil (by rfl)) (by rfl) (by rfl) (by rfl) (by rfl) (by rfl))) (by rfl))) ms_nil) (@ms_one _ _ _ (@ms_ret _ _ _ _ (@mv _ _ 1 _ (by rfl) (by first | exact Or.inl rfl | exact Or.inr (Or.inl rfl) | exact Or.inr (Or.inr rfl)) (by decide) (by decide))))))
abbrev s__law_stretch : Stmt := top 18
theorem sc__law_stretch : FnScope ["_law_deck_here", "_law_many", "_law_givens", "_law_deeds", "_law_k", "_law_there_here", "_law_outs"] ["_law_deck_here", "_law_many"] (defScope s__law_stretch) := ⟨rfl, rfl, rfl, by decide +kernel, rfl, by decide +kernel, by decide +kernel⟩
theorem ok__law_stretch {a : Addr} {fd : FuncData} (F : Fun K "_law_stretch" "_law_stretch" s__law_stretch a fd) (d__law_deed : Def P w K mg base "_law_deed" 4 ["_law_deck_here", "_law_menu_here", "_law_there_here"] f__law_deed) (d__law_draw : Def P w K mg base "_law_draw" 2 ["_law_deck_here", "_law_most"] f__law_draw) (d__law_menu : Def P w K mg base "_law_menu" 2 ["_law_deeds"] f__law_menu) (d__law_there : Def P w K mg base "_law_there" 1 ["_law_stretch_here"] f__law_there) (d__law_worth : Def P w K mg base "_law_worth" 3 ["_law_deck_here", "_law_there_here"] f__law_worth) (z_int : mg "int" = none) (z_range : mg "range" = none) (z_tuple : mg "tuple" = none) : FnOk P w K mg base CX0 5 a fd ["_law_deck_here", "_law_many"] (spM K 2 f__law_stretch) :=
  fn_ok F sc__law_stretch fun cdv A outer s H E hr => (@ms_cons _ _ _ _ _ (@ms_set _ _ _ _ (@ps_set _ _ (2) _ _ _ _ sc__law_stretch.nd rfl (by first | exact Or.inl rfl | exact Or.inr rfl) (@me_ix _ _ _ _ _ _ (hu_of hr) (@me_lst _ _ _ _ (@ma_cons _ _ _ _ _ (@me_def _ _ _ _ _ _ _ _ _ _ _ d__law_draw hr (by decide) (by rfl) (@ma_cons _ _ _ _ _ (@mv _ _ 0 _ (by rfl) (by first | exact Or.inl rfl | exact Or.inr (Or.inl rfl) | exact Or.inr (Or.inr rfl)) (by decide) (by decide)) (@ma_cons _ _ _ _ _ me_int ma_nil (by rfl)) (by rfl)) (len_cons (len_cons (fun δ M r h => len_nil h))) (by decide) (by rfl) (by rfl)) (@ma_cons _ _ _ _ _ (@me_def _ _ _ _ _ _ _ _ _ _ _ d__law_draw hr (by decide) (by rfl) (@ma_cons _ _ _ _ _ (@mv _ _ 0 _ (by rfl) (by first | exact Or.inl rfl | exact Or.inr (Or.inl rfl) | exact Or.inr (Or.inr rfl)) (by decide) (by decide)) (@ma_cons _ _ _ _ _ me_int ma_nil (by rfl)) (by rfl)) (len_cons (len_cons (fun δ M r h => len_nil h))) (by decide) (by rfl) (by rfl)) ma_nil (by rfl)) (by rfl))) (@me_def _ _ _ _ _ _ _ _ _ _ _ d__law_draw hr (by decide) (by rfl) (@ma_cons _ _ _ _ _ (@mv _ _ 0 _ (by rfl) (by first | exact Or.inl rfl | exact Or.inr (Or.inl rfl) | exact Or.inr (Or.inr rfl)) (by decide) (by decide)) (@ma_cons _ _ _ _ _ me_int ma_nil (by rfl)) (by rfl)) (len_cons (len_cons (fun δ M r h => len_nil h))) (by decide) (by rfl) (by rfl)) (fun _ _ => rfl)) (by rfl) (by first | exact .inl rfl | exact .inr rfl | assumption))) (@ms_cons _ _ _ _ _ (@ms_set _ _ _ _ (@ps_set _ _ (3) _ _ _ _ sc__law_stretch.nd rfl (by first | exact Or.inl rfl | exact Or.inr rfl) (@me_tup _ _ _ _ _ ma_nil) (by rfl) (by first | exact .inl rfl | exact .inr rfl | assumption))) (@ms_cons _ _ _ _ _ (@ms_for _ _ _ _ _ _ _ ([4]) _ PassesOwn.never rfl (@mi_rng1 _ _ _ _ _ _ (@pi_range1 _ _ _ _ _ _ rfl z_range (@ma_cons _ _ _ _ _ (@mv _ _ 1 _ (by rfl) (by first | exact Or.inl rfl | exact Or.inr (Or.inl rfl) | exact Or.inr (Or.inr rfl)) (by decide) (by decide)) ma_nil (by rfl)) (by rfl))) (@mg_nameV _ _ (4) _ sc__law_stretch.nd rfl (by first | exact Or.inl rfl | exact Or.inr rfl) _ (by decide) (by first | exact .inl rfl | exact .inr rfl | assumption)) (@ms_one _ _ _ (@ms_set _ _ _ _ (@ps_set _ _ (3) _ _ _ _ sc__law_stretch.nd rfl (by first | exact Or.inl rfl | exact Or.inr rfl) (@me_add _ _ _ _ _ _ (@mv _ _ 3 _ (by rfl) (by first | exact Or.inl rfl | exact Or.inr (Or.inl rfl) | exact Or.inr (Or.inr rfl)) (by decide) (by decide)) (@me_tup _ _ _ _ _ (@ma_cons _ _ _ _ _ (@me_def _ _ _ _ _ _ _ _ _ _ _ d__law_deed hr (by decide) (by rfl) (@ma_cons _ _ _ _ _ (@mv _ _ 0 _ (by rfl) (by first | exact Or.inl rfl | exact Or.inr (Or.inl rfl) | exact Or.inr (Or.inr rfl)) (by decide) (by decide)) (@ma_cons _ _ _ _ _ (@me_def _ _ _ _ _ _ _ _ _ _ _ d__law_menu hr (by decide) (by rfl) (@ma_cons _ _ _ _ _ (@mv _ _ 3 _ (by rfl) (by first | exact Or.inl rfl | exact Or.inr (Or.inl rfl) | exact Or.inr (Or.inr rfl)) (by decide) (by decide)) ma_nil (by rfl)) (len_cons (fun δ M r h => len_nil h)) (by decide) (by rfl) (by rfl)) (@ma_cons _ _ _ _ _ (@me_def _ _ _ _ _ _ _ _ _ _ _ d__law_there hr (by decide) (by rfl) (@ma_cons _ _ _ _ _ (@me_tup _ _ _ _ _ (@ma_cons _ _ _ _ _ (@mv _ _ 2 _ (by rfl) (by first | exact Or.inl rfl | exact Or.inr (Or.inl rfl) | exact Or.inr (Or.inr rfl)) (by decide) (by decide)) (@ma_cons _ _ _ _ _ (@mv _ _ 3 _ (by rfl) (by first | exact Or.inl rfl | exact Or.inr (Or.inl rfl) | exact Or.inr (Or.inr rfl)) (by decide) (by decide)) (@ma_cons _ _ _ _ _ (@me_tup _ _ _ _ _ ma_nil) ma_nil (by rfl)) (by rfl)) (by rfl))) ma_nil (by rfl)) (len_cons (fun δ M r h => len_nil h)) (by decide) (by rfl) (by rfl)) ma_nil (by rfl)) (by rfl)) (by rfl)) (len_cons (len_cons (len_cons (fun δ M r h => len_nil h)))) (by decide) (by rfl) (by rfl)) ma_nil (by rfl)))) (by rfl) (by first | exact .inl rfl | exact .inr rfl | assumption)))) (by intro _; rfl)) (@ms_cons _ _ _ _ _ (@ms_set _ _ _ _ (@ps_set _ _ (5) _ _ _ _ sc__law_stretch.nd rfl (by first | exact Or.inl rfl | exact Or.inr rfl) (@me_def _ _ _ _ _ _ _ _ _ _ _ d__law_there hr (by decide) (by rfl) (@ma_cons _ _ _ _ _ (@me_tup _ _ _ _ _ (@ma_cons _ _ _ _ _ (@mv _ _ 2 _ (by rfl) (by first | exact Or.inl rfl | exact Or.inr (Or.inl rfl) | exact Or.inr (Or.inr rfl)) (by decide) (by decide)) (@ma_cons _ _ _ _ _ (@mv _ _ 3 _ (by rfl) (by first | exact Or.inl rfl | exact Or.inr (Or.inl rfl) | exact Or.inr (Or.inr rfl)) (by decide) (by decide)) (@ma_cons _ _ _ _ _ (@me_tup _ _ _ _ _ ma_nil) ma_nil (by rfl)) (by rfl)) (by rfl))) ma_nil (by rfl)) (len_cons (fun δ M r h => len_nil h)) (by decide) (by rfl) (by rfl)) (by rfl) (by first | exact .inl rfl | exact .inr rfl | assumption))) (@ms_cons _ _ _ _ _ (@ms_setLc _ _ _ (6) _ _ _ _ _ _ ([("_law_k", 4)]) _ _ ((gOne 4)) _ _ (by rfl) sc__law_stretch.nd rfl rfl (sw_true rfl rfl rfl (by decide +kernel)) (@mi_rng1 _ _ _ _ _ _ (@pi_range1 _ _ _ _ _ _ rfl z_range (@ma_cons _ _ _ _ _ (@me_mul _ _ _ _ _ _ (@me_def _ _ _ _ _ _ _ _ _ _ _ d__law_draw hr (by decide) (by rfl) (@ma_cons _ _ _ _ _ (@mv _ _ 0 _ (by rfl) (by first | exact Or.inl rfl | exact Or.inr (Or.inl rfl) | exact Or.inr (Or.inr rfl)) (by decide) (by decide)) (@ma_cons _ _ _ _ _ me_int ma_nil (by rfl)) (by rfl)) (len_cons (len_cons (fun δ M r h => len_nil h))) (by decide) (by rfl) (by rfl)) (@me_callTy _ _ _ _ _ _ _ _ _ _ call_int1 int_c (by rfl) z_int boot_int (@ma_cons _ _ _ _ _ (@me_ne _ _ _ _ _ _ hr.units (@mv _ _ 5 _ (by rfl) (by first | exact Or.inl rfl | exact Or.inr (Or.inl rfl) | exact Or.inr (Or.inr rfl)) (by decide) (by decide)) (@me_lst _ _ _ _ ma_nil)) ma_nil (by rfl)) (by decide) (by decide) (by rfl) (by rfl))) ma_nil (by rfl)) (by rfl))) (blkOk_by (own := [("_law_k", 4)]) (N := ["_law_deck_here", "_law_many", "_law_givens", "_law_deeds", "_law_k", "_law_there_here", "_law_outs"]) (sc := defScope s__law_stretch) (by decide +kernel)) (fun _ _ _ _ _ => (@mg_nameV _ _ (4) _ sc__law_stretch.nd rfl (by first | exact Or.inl rfl | exact Or.inr rfl) _ (by decide) (by first | exact .inl rfl | exact .inr rfl | assumption))) (fun _ _ _ _ _ => mts_nil) (fun _ _ _ _ _ => (@me_def _ _ _ _ _ _ _ _ _ _ _ d__law_worth hr (by decide) (by rfl) (@ma_cons _ _ _ _ _ (@mv _ _ 0 _ (by rfl) (by first | exact Or.inl rfl | exact Or.inr (Or.inl rfl) | exact Or.inr (Or.inr rfl)) (by decide) (by decide)) (@ma_cons _ _ _ _ _ (@mv _ _ 5 _ (by rfl) (by first | exact Or.inl rfl | exact Or.inr (Or.inl rfl) | exact Or.inr (Or.inr rfl)) (by decide) (by decide)) ma_nil (by rfl)) (by rfl)) (len_cons (len_cons (fun δ M r h => len_nil h))) (by decide) (by rfl) (by rfl))) (by intro _; rfl)) (@ms_one _ _ _ (@ms_ret _ _ _ _ (@me_tup _ _ _ _ _ (@ma_cons _ _ _ _ _ (@mv _ _ 2 _ (by rfl) (by first | exact Or.inl rfl | exact Or.inr (Or.inl rfl) | exact Or.inr (Or.inr rfl)) (by decide) (by decide)) (@ma_cons _ _ _ _ _ (@mv _ _ 3 _ (by rfl) (by first | exact Or.inl rfl | exact Or.inr (Or.inl rfl) | exact Or.inr (Or.inr rfl)) (by decide) (by decide)) (@ma_cons _ _ _ _ _ (@me_callTy _ _ _ _ _ _ _ _ _ _ call_tuple_of tuple_m (by rfl) z_tuple boot_tuple (@ma_cons _ _ _ _ _ (@mv _ _ 6 _ (by rfl) (by first | exact Or.inl rfl | exact Or.inr (Or.inl rfl) | exact Or.inr (Or.inr rfl)) (by decide) (by decide)) ma_nil (by rfl)) (by decide) (by decide) (by rfl) (by rfl)) ma_nil (by rfl)) (by rfl)) (by rfl))))))))))
abbrev s__law_unit_names : Stmt := top 19
theorem sc__law_unit_names : FnScope ["_law_deck_here", "_law_many", "_law_letters", "_law_base", "_law_size", "_law_at", "_law_way", "_law_first", "_law_step", "_law_words_here", "_law_ahead", "_law_behind", "_law_k"] ["_law_deck_here", "_law_many"] (defScope s__law_unit_names) := ⟨rfl, rfl, rfl, by decide +kernel, rfl, by decide +kernel, by decide +kernel⟩
theorem ok__law_unit_names {a : Addr} {fd : FuncData} (F : Fun K "_law_unit_names" "_law_unit_names" s__law_unit_names a fd) (d__law_draw : Def P w K mg base "_law_draw" 2 ["_law_deck_here", "_law_most"] f__law_draw) (z_range : mg "range" = none) : FnOk P w K mg base CX0 3 a fd ["_law_deck_here", "_law_many"] (spM K 2 f__law_unit_names) :=
  fn_ok F sc__law_unit_names fun cdv A outer s H E hr => (@ms_cons _ _ _ _ _ (@ms_set _ _ _ _ (@ps_set _ _ (2) _ _ _ _ sc__law_unit_names.nd rfl (by first | exact Or.inl rfl | exact Or.inr rfl) me_str (by rfl) (by first | exact .inl rfl | exact .inr rfl | assumption))) (@ms_cons _ _ _ _ _ (@ms_set _ _ _ _ (@ps_set _ _ (3) _ _ _ _ sc__law_unit_names.nd rfl (by first | exact Or.inl rfl | exact Or.inr rfl) (@me_join _ _ _ _ _ _ _ me_str (@me_lc _ _ _ _ _ _ _ ([("_law_k", 12)]) _ ((gOne 12)) _ _ (by rfl) sc__law_unit_names.nd (@mi_rng1 _ _ _ _ _ _ (@pi_range1 _ _ _ _ _ _ rfl z_range (@ma_cons _ _ _ _ _ me_int ma_nil (by rfl)) (by rfl))) (blkOk_by (own := [("_law_k", 12)]) (N := ["_law_deck_here", "_law_many", "_law_letters", "_law_base", "_law_size", "_law_at", "_law_way", "_law_first", "_law_step", "_law_words_here", "_law_ahead", "_law_behind", "_law_k"]) (sc := defScope s__law_unit_names) (by decide +kernel)) (fun _ _ _ _ _ => (@mg_nameV _ _ (12) _ sc__law_unit_names.nd rfl (by first | exact Or.inl rfl | exact Or.inr rfl) _ (by decide) (by first | exact .inl rfl | exact .inr rfl | assumption))) (fun _ _ _ _ _ => mts_nil) (fun _ _ _ _ _ => (@me_ix _ _ _ _ _ _ (hu_of hr) (@mv _ _ 2 _ (by rfl) (by first | exact Or.inl rfl | exact Or.inr (Or.inl rfl) | exact Or.inr (Or.inr rfl)) (by decide) (by decide)) (@me_def _ _ _ _ _ _ _ _ _ _ _ d__law_draw hr (by decide) (by rfl) (@ma_cons _ _ _ _ _ (@mv _ _ 0 _ (by rfl) (by first | exact Or.inl rfl | exact Or.inr (Or.inl rfl) | exact Or.inr (Or.inr rfl)) (by decide) (by decide)) (@ma_cons _ _ _ _ _ me_int ma_nil (by rfl)) (by rfl)) (len_cons (len_cons (fun δ M r h => len_nil h))) (by decide) (by rfl) (by rfl)) (fun _ _ => rfl))) (by intro _; rfl)) (by rfl) (by rfl) (by rfl)) (by rfl) (by first | exact .inl rfl | exact .inr rfl | assumption))) (@ms_cons _ _ _ _ _ (@ms_set _ _ _ _ (@ps_set _ _ (4) _ _ _ _ sc__law_unit_names.nd rfl (by first | exact Or.inl rfl | exact Or.inr rfl) (@me_add _ _ _ _ _ _ me_int (@me_def _ _ _ _ _ _ _ _ _ _ _ d__law_draw hr (by decide) (by rfl) (@ma_cons _ _ _ _ _ (@mv _ _ 0 _ (by rfl) (by first | exact Or.inl rfl | exact Or.inr (Or.inl rfl) | exact Or.inr (Or.inr rfl)) (by decide) (by decide)) (@ma_cons _ _ _ _ _ me_int ma_nil (by rfl)) (by rfl)) (len_cons (len_cons (fun δ M r h => len_nil h))) (by decide) (by rfl) (by rfl))) (by rfl) (by first | exact .inl rfl | exact .inr rfl | assumption))) (@ms_cons _ _ _ _ _ (@ms_set _ _ _ _ (@ps_set _ _ (5) _ _ _ _ sc__law_unit_names.nd rfl (by first | exact Or.inl rfl | exact Or.inr rfl) (@me_def _ _ _ _ _ _ _ _ _ _ _ d__law_draw hr (by decide) (by rfl) (@ma_cons _ _ _ _ _ (@mv _ _ 0 _ (by rfl) (by first | exact Or.inl rfl | exact Or.inr (Or.inl rfl) | exact Or.inr (Or.inr rfl)) (by decide) (by decide)) (@ma_cons _ _ _ _ _ (@mv _ _ 4 _ (by rfl) (by first | exact Or.inl rfl | exact Or.inr (Or.inl rfl) | exact Or.inr (Or.inr rfl)) (by decide) (by decide)) ma_nil (by rfl)) (by rfl)) (len_cons (len_cons (fun δ M r h => len_nil h))) (by decide) (by rfl) (by rfl)) (by rfl) (by first | exact .inl rfl | exact .inr rfl | assumption))) (@ms_cons _ _ _ _ _ (@ms_set _ _ _ _ (@ps_set _ _ (6) _ _ _ _ sc__law_unit_names.nd rfl (by first | exact Or.inl rfl | exact Or.inr rfl) (@me_def _ _ _ _ _ _ _ _ _ _ _ d__law_draw hr (by decide) (by rfl) (@ma_cons _ _ _ _ _ (@mv _ _ 0 _ (by rfl) (by first | exact Or.inl rfl | exact Or.inr (Or.inl rfl) | exact Or.inr (Or.inr rfl)) (by decide) (by decide)) (@ma_cons _ _ _ _ _ me_int ma_nil (by rfl)) (by rfl)) (len_cons (len_cons (fun δ M r h => len_nil h))) (by decide) (by rfl) (by rfl)) (by rfl) (by first | exact .inl rfl | exact .inr rfl | assumption))) (@ms_cons _ _ _ _ _ (@ms_set _ _ _ _ (@ps_set _ _ (7) _ _ _ _ sc__law_unit_names.nd rfl (by first | exact Or.inl rfl | exact Or.inr rfl) (@me_def _ _ _ _ _ _ _ _ _ _ _ d__law_draw hr (by decide) (by rfl) (@ma_cons _ _ _ _ _ (@mv _ _ 0 _ (by rfl) (by first | exact Or.inl rfl | exact Or.inr (Or.inl rfl) | exact Or.inr (Or.inr rfl)) (by decide) (by decide)) (@ma_cons _ _ _ _ _ me_int ma_nil (by rfl)) (by rfl)) (len_cons (len_cons (fun δ M r h => len_nil h))) (by decide) (by rfl) (by rfl)) (by rfl) (by first | exact .inl rfl | exact .inr rfl | assumption))) (@ms_cons _ _ _ _ _ (@ms_set _ _ _ _ (@ps_set _ _ (8) _ _ _ _ sc__law_unit_names.nd rfl (by first | exact Or.inl rfl | exact Or.inr rfl) (@me_ix _ _ _ _ _ _ (hu_of hr) (@me_lst _ _ _ _ (@ma_cons _ _ _ _ _ me_int (@ma_cons _ _ _ _ _ me_int (@ma_cons _ _ _ _ _ me_int (@ma_cons _ _ _ _ _ me_int ma_nil (by rfl)) (by rfl)) (by rfl)) (by rfl))) (@me_def _ _ _ _ _ _ _ _ _ _ _ d__law_draw hr (by decide) (by rfl) (@ma_cons _ _ _ _ _ (@mv _ _ 0 _ (by rfl) (by first | exact Or.inl rfl | exact Or.inr (Or.inl rfl) | exact Or.inr (Or.inr rfl)) (by decide) (by decide)) (@ma_cons _ _ _ _ _ me_int ma_nil (by rfl)) (by rfl)) (len_cons (len_cons (fun δ M r h => len_nil h))) (by decide) (by rfl) (by rfl)) (fun _ _ => rfl)) (by rfl) (by first | exact .inl rfl | exact .inr rfl | assumption))) (@ms_cons _ _ _ _ _ (@ms_if _ _ _ _ _ _ _ _ (@mt_eq _ _ _ _ _ _ hr.units (@mv _ _ 6 _ (by rfl) (by first | exact Or.inl rfl | exact Or.inr (Or.inl rfl) | exact Or.inr (Or.inr rfl)) (by decide) (by decide)) me_int) (@ms_one _ _ _ (@ms_ret _ _ _ _ (@me_lc _ _ _ _ _ _ _ ([("_law_k", 12)]) _ ((gOne 12)) _ _ (by rfl) sc__law_unit_names.nd (@mi_rng1 _ _ _ _ _ _ (@pi_range1 _ _ _ _ _ _ rfl z_range (@ma_cons _ _ _ _ _ (@mv _ _ 1 _ (by rfl) (by first | exact Or.inl rfl | exact Or.inr (Or.inl rfl) | exact Or.inr (Or.inr rfl)) (by decide) (by decide)) ma_nil (by rfl)) (by rfl))) (blkOk_by (own := [("_law_k", 12)]) (N := ["_law_deck_here", "_law_many", "_law_letters", "_law_base", "_law_size", "_law_at", "_law_way", "_law_first", "_law_step", "_law_words_here", "_law_ahead", "_law_behind", "_law_k"]) (sc := defScope s__law_unit_names) (by decide +kernel)) (fun _ _ _ _ _ => (@mg_nameV _ _ (12) _ sc__law_unit_names.nd rfl (by first | exact Or.inl rfl | exact Or.inr rfl) _ (by decide) (by first | exact .inl rfl | exact .inr rfl | assumption))) (fun _ _ _ _ _ => mts_nil) (fun _ _ _ _ _ => (@me_slice2 _ _ _ _ _ _ _ _ _ (@mv _ _ 3 _ (by rfl) (by first | exact Or.inl rfl | exact Or.inr (Or.inl rfl) | exact Or.inr (Or.inr rfl)) (by decide) (by decide)) mo_none (@mo_some _ _ _ (@me_add _ _ _ _ _ _ me_int (@mv _ _ 12 _ (by rfl) (by first | exact Or.inl rfl | exact Or.inr (Or.inl rfl) | exact Or.inr (Or.inr rfl)) (by decide) (by decide)))))) (by intro _; rfl)))) ms_nil) (@ms_cons _ _ _ _ _ (@ms_if _ _ _ _ _ _ _ _ (@mt_eq _ _ _ _ _ _ hr.units (@mv _ _ 6 _ (by rfl) (by first | exact Or.inl rfl | exact Or.inr (Or.inl rfl) | exact Or.inr (Or.inr rfl)) (by decide) (by decide)) me_int) (@ms_cons _ _ _ _ _ (@ms_set _ _ _ _ (@ps_set _ _ (9) _ _ _ _ sc__law_unit_names.nd rfl (by first | exact Or.inl rfl | exact Or.inr rfl) (@me_lst _ _ _ _ (@ma_cons _ _ _ _ _ me_str (@ma_cons _ _ _ _ _ me_str (@ma_cons _ _ _ _ _ me_str (@ma_cons _ _ _ _ _ me_str (@ma_cons _ _ _ _ _ me_str (@ma_cons _ _ _ _ _ me_str (@ma_cons _ _ _ _ _ me_str (@ma_cons _ _ _ _ _ me_str (@ma_cons _ _ _ _ _ me_str ma_nil (by rfl)) (by rfl)) (by rfl)) (by rfl)) (by rfl)) (by rfl)) (by rfl)) (by rfl)) (by rfl))) (by rfl) (by first | exact .inl rfl | exact .inr rfl | assumption))) (@ms_one _ _ _ (@ms_ret _ _ _ _ (@me_slice2 _ _ _ _ _ _ _ _ _ (@me_add _ _ _ _ _ _ (@me_slice2 _ _ _ _ _ _ _ _ _ (@mv _ _ 9 _ (by rfl) (by first | exact Or.inl rfl | exact Or.inr (Or.inl rfl) | exact Or.inr (Or.inr rfl)) (by decide) (by decide)) (@mo_some _ _ _ (@me_mod _ _ _ _ _ _ (@mv _ _ 7 _ (by rfl) (by first | exact Or.inl rfl | exact Or.inr (Or.inl rfl) | exact Or.inr (Or.inr rfl)) (by decide) (by decide)) me_int)) mo_none) (@me_slice2 _ _ _ _ _ _ _ _ _ (@mv _ _ 9 _ (by rfl) (by first | exact Or.inl rfl | exact Or.inr (Or.inl rfl) | exact Or.inr (Or.inr rfl)) (by decide) (by decide)) mo_none (@mo_some _ _ _ (@me_mod _ _ _ _ _ _ (@mv _ _ 7 _ (by rfl) (by first | exact Or.inl rfl | exact Or.inr (Or.inl rfl) | exact Or.inr (Or.inr rfl)) (by decide) (by decide)) me_int)))) mo_none (@mo_some _ _ _ (@mv _ _ 1 _ (by rfl) (by first | exact Or.inl rfl | exact Or.inr (Or.inl rfl) | exact Or.inr (Or.inr rfl)) (by decide) (by decide))))))) ms_nil) (@ms_cons _ _ _ _ _ (@ms_set _ _ _ _ (@ps_set _ _ (10) _ _ _ _ sc__law_unit_names.nd rfl (by first | exact Or.inl rfl | exact Or.inr rfl) (@me_slice2 _ _ _ _ _ _ _ _ _ (@mv _ _ 3 _ (by rfl) (by first | exact Or.inl rfl | exact Or.inr (Or.inl rfl) | exact Or.inr (Or.inr rfl)) (by decide) (by decide)) mo_none (@mo_some _ _ _ (@mv _ _ 5 _ (by rfl) (by first | exact Or.inl rfl | exact Or.inr (Or.inl rfl) | exact Or.inr (Or.inr rfl)) (by decide) (by decide)))) (by rfl) (by first | exact .inl rfl | exact .inr rfl | assumption))) (@ms_cons _ _ _ _ _ (@ms_set _ _ _ _ (@ps_set _ _ (11) _ _ _ _ sc__law_unit_names.nd rfl (by first | exact Or.inl rfl | exact Or.inr rfl) (@me_slice2 _ _ _ _ _ _ _ _ _ (@mv _ _ 3 _ (by rfl) (by first | exact Or.inl rfl | exact Or.inr (Or.inl rfl) | exact Or.inr (Or.inr rfl)) (by decide) (by decide)) (@mo_some _ _ _ (@me_add _ _ _ _ _ _ (@mv _ _ 5 _ (by rfl) (by first | exact Or.inl rfl | exact Or.inr (Or.inl rfl) | exact Or.inr (Or.inr rfl)) (by decide) (by decide)) me_int)) (@mo_some _ _ _ (@mv _ _ 4 _ (by rfl) (by first | exact Or.inl rfl | exact Or.inr (Or.inl rfl) | exact Or.inr (Or.inr rfl)) (by decide) (by decide)))) (by rfl) (by first | exact .inl rfl | exact .inr rfl | assumption))) (@ms_one _ _ _ (@ms_ret _ _ _ _ (@me_lc _ _ _ _ _ _ _ ([("_law_k", 12)]) _ ((gOne 12)) _ _ (by rfl) sc__law_unit_names.nd (@mi_rng1 _ _ _ _ _ _ (@pi_range1 _ _ _ _ _ _ rfl z_range (@ma_cons _ _ _ _ _ (@mv _ _ 1 _ (by rfl) (by first | exact Or.inl rfl | exact Or.inr (Or.inl rfl) | exact Or.inr (Or.inr rfl)) (by decide) (by decide)) ma_nil (by rfl)) (by rfl))) (blkOk_by (own := [("_law_k", 12)]) (N := ["_law_deck_here", "_law_many", "_law_letters", "_law_base", "_law_size", "_law_at", "_law_way", "_law_first", "_law_step", "_law_words_here", "_law_ahead", "_law_behind", "_law_k"]) (sc := defScope s__law_unit_names) (by decide +kernel)) (fun _ _ _ _ _ => (@mg_nameV _ _ (12) _ sc__law_unit_names.nd rfl (by first | exact Or.inl rfl | exact Or.inr rfl) _ (by decide) (by first | exact .inl rfl | exact .inr rfl | assumption))) (fun _ _ _ _ _ => mts_nil) (fun _ _ _ _ _ => (@me_add _ _ _ _ _ _ (@me_add _ _ _ _ _ _ (@mv _ _ 10 _ (by rfl) (by first | exact Or.inl rfl | exact Or.inr (Or.inl rfl) | exact Or.inr (Or.inr rfl)) (by decide) (by decide)) (@me_ix _ _ _ _ _ _ (hu_of hr) (@mv _ _ 2 _ (by rfl) (by first | exact Or.inl rfl | exact Or.inr (Or.inl rfl) | exact Or.inr (Or.inr rfl)) (by decide) (by decide)) (@me_mod _ _ _ _ _ _ (@me_add _ _ _ _ _ _ (@mv _ _ 7 _ (by rfl) (by first | exact Or.inl rfl | exact Or.inr (Or.inl rfl) | exact Or.inr (Or.inr rfl)) (by decide) (by decide)) (@me_mul _ _ _ _ _ _ (@mv _ _ 12 _ (by rfl) (by first | exact Or.inl rfl | exact Or.inr (Or.inl rfl) | exact Or.inr (Or.inr rfl)) (by decide) (by decide)) (@mv _ _ 8 _ (by rfl) (by first | exact Or.inl rfl | exact Or.inr (Or.inl rfl) | exact Or.inr (Or.inr rfl)) (by decide) (by decide)))) me_int) (fun _ _ => rfl))) (@mv _ _ 11 _ (by rfl) (by first | exact Or.inl rfl | exact Or.inr (Or.inl rfl) | exact Or.inr (Or.inr rfl)) (by decide) (by decide)))) (by intro _; rfl)))))))))))))))
abbrev s__law_work : Stmt := top 20
theorem sc__law_work : FnScope ["_law_deck_here", "_law_names", "_law_most", "_law_name"] ["_law_deck_here", "_law_names", "_law_most"] (defScope s__law_work) := ⟨rfl, rfl, rfl, by decide +kernel, rfl, by decide +kernel, by decide +kernel⟩
theorem ok__law_work {a : Addr} {fd : FuncData} (F : Fun K "_law_work" "_law_work" s__law_work a fd) (d__law_draw : Def P w K mg base "_law_draw" 2 ["_law_deck_here", "_law_most"] f__law_draw) (z_len : mg "len" = none) : FnOk P w K mg base CX0 3 a fd ["_law_deck_here", "_law_names", "_law_most"] (spM K 3 f__law_work) :=
  fn_ok F sc__law_work fun cdv A outer s H E hr => (@ms_cons _ _ _ _ _ (@ms_set _ _ _ _ (@ps_set _ _ (3) _ _ _ _ sc__law_work.nd rfl (by first | exact Or.inl rfl | exact Or.inr rfl) (@me_ix _ _ _ _ _ _ (hu_of hr) (@mv _ _ 1 _ (by rfl) (by first | exact Or.inl rfl | exact Or.inr (Or.inl rfl) | exact Or.inr (Or.inr rfl)) (by decide) (by decide)) (@me_def _ _ _ _ _ _ _ _ _ _ _ d__law_draw hr (by decide) (by rfl) (@ma_cons _ _ _ _ _ (@mv _ _ 0 _ (by rfl) (by first | exact Or.inl rfl | exact Or.inr (Or.inl rfl) | exact Or.inr (Or.inr rfl)) (by decide) (by decide)) (@ma_cons _ _ _ _ _ (@me_len _ _ _ _ _ (by rfl) z_len (@ma_cons _ _ _ _ _ (@mv _ _ 1 _ (by rfl) (by first | exact Or.inl rfl | exact Or.inr (Or.inl rfl) | exact Or.inr (Or.inr rfl)) (by decide) (by decide)) ma_nil (by rfl)) (by rfl)) ma_nil (by rfl)) (by rfl)) (len_cons (len_cons (fun δ M r h => len_nil h))) (by decide) (by rfl) (by rfl)) (fun _ _ => rfl)) (by rfl) (by first | exact .inl rfl | exact .inr rfl | assumption))) (@ms_one _ _ _ (@ms_ret _ _ _ _ (@me_tup _ _ _ _ _ (@ma_cons _ _ _ _ _ (@mv _ _ 3 _ (by rfl) (by first | exact Or.inl rfl | exact Or.inr (Or.inl rfl) | exact Or.inr (Or.inr rfl)) (by decide) (by decide)) (@ma_cons _ _ _ _ _ (@me_add _ _ _ _ _ _ me_int (@me_def _ _ _ _ _ _ _ _ _ _ _ d__law_draw hr (by decide) (by rfl) (@ma_cons _ _ _ _ _ (@mv _ _ 0 _ (by rfl) (by first | exact Or.inl rfl | exact Or.inr (Or.inl rfl) | exact Or.inr (Or.inr rfl)) (by decide) (by decide)) (@ma_cons _ _ _ _ _ (@mv _ _ 2 _ (by rfl) (by first | exact Or.inl rfl | exact Or.inr (Or.inl rfl) | exact Or.inr (Or.inr rfl)) (by decide) (by decide)) ma_nil (by rfl)) (by rfl)) (len_cons (len_cons (fun δ M r h => len_nil h))) (by decide) (by rfl) (by rfl))) (@ma_cons _ _ _ _ _ (@me_add _ _ _ _ _ _ me_int (@me_def _ _ _ _ _ _ _ _ _ _ _ d__law_draw hr (by decide) (by rfl) (@ma_cons _ _ _ _ _ (@mv _ _ 0 _ (by rfl) (by first | exact Or.inl rfl | exact Or.inr (Or.inl rfl) | exact Or.inr (Or.inr rfl)) (by decide) (by decide)) (@ma_cons _ _ _ _ _ (@mv _ _ 2 _ (by rfl) (by first | exact Or.inl rfl | exact Or.inr (Or.inl rfl) | exact Or.inr (Or.inr rfl)) (by decide) (by decide)) ma_nil (by rfl)) (by rfl)) (len_cons (len_cons (fun δ M r h => len_nil h))) (by decide) (by rfl) (by rfl))) ma_nil (by rfl)) (by rfl)) (by rfl))))))
abbrev s__law_machine : Stmt := top 21
theorem sc__law_machine : FnScope ["_law_deck_here", "_law_most", "_law_many", "_law_names", "_law_units", "_law_name", "_law_word"] ["_law_deck_here", "_law_most"] (defScope s__law_machine) := ⟨rfl, rfl, rfl, by decide +kernel, rfl, by decide +kernel, by decide +kernel⟩
theorem ok__law_machine {a : Addr} {fd : FuncData} (F : Fun K "_law_machine" "_law_machine" s__law_machine a fd) (d__law_draw : Def P w K mg base "_law_draw" 2 ["_law_deck_here", "_law_most"] f__law_draw) (d__law_unit_names : Def P w K mg base "_law_unit_names" 3 ["_law_deck_here", "_law_many"] f__law_unit_names) (d__law_words : Def P w K mg base "_law_words" 1 [] f__law_words) (d__law_work : Def P w K mg base "_law_work" 3 ["_law_deck_here", "_law_names", "_law_most"] f__law_work) (z_tuple : mg "tuple" = none) : FnOk P w K mg base CX0 4 a fd ["_law_deck_here", "_law_most"] (spM K 2 f__law_machine) :=
  fn_ok F sc__law_machine fun cdv A outer s H E hr => (@ms_cons _ _ _ _ _ (@ms_set _ _ _ _ (@ps_set _ _ (2) _ _ _ _ sc__law_machine.nd rfl (by first | exact Or.inl rfl | exact Or.inr rfl) (@me_ix _ _ _ _ _ _ (hu_of hr) (@me_lst _ _ _ _ (@ma_cons _ _ _ _ _ (@me_add _ _ _ _ _ _ me_int (@me_def _ _ _ _ _ _ _ _ _ _ _ d__law_draw hr (by decide) (by rfl) (@ma_cons _ _ _ _ _ (@mv _ _ 0 _ (by rfl) (by first | exact Or.inl rfl | exact Or.inr (Or.inl rfl) | exact Or.inr (Or.inr rfl)) (by decide) (by decide)) (@ma_cons _ _ _ _ _ me_int ma_nil (by rfl)) (by rfl)) (len_cons (len_cons (fun δ M r h => len_nil h))) (by decide) (by rfl) (by rfl))) (@ma_cons _ _ _ _ _ (@me_add _ _ _ _ _ _ me_int (@me_def _ _ _ _ _ _ _ _ _ _ _ d__law_draw hr (by decide) (by rfl) (@ma_cons _ _ _ _ _ (@mv _ _ 0 _ (by rfl) (by first | exact Or.inl rfl | exact Or.inr (Or.inl rfl) | exact Or.inr (Or.inr rfl)) (by decide) (by decide)) (@ma_cons _ _ _ _ _ me_int ma_nil (by rfl)) (by rfl)) (len_cons (len_cons (fun δ M r h => len_nil h))) (by decide) (by rfl) (by rfl))) ma_nil (by rfl)) (by rfl))) (@me_def _ _ _ _ _ _ _ _ _ _ _ d__law_draw hr (by decide) (by rfl) (@ma_cons _ _ _ _ _ (@mv _ _ 0 _ (by rfl) (by first | exact Or.inl rfl | exact Or.inr (Or.inl rfl) | exact Or.inr (Or.inr rfl)) (by decide) (by decide)) (@ma_cons _ _ _ _ _ me_int ma_nil (by rfl)) (by rfl)) (len_cons (len_cons (fun δ M r h => len_nil h))) (by decide) (by rfl) (by rfl)) (fun _ _ => rfl)) (by rfl) (by first | exact .inl rfl | exact .inr rfl | assumption))) (@ms_cons _ _ _ _ _ (@ms_set _ _ _ _ (@ps_set _ _ (3) _ _ _ _ sc__law_machine.nd rfl (by first | exact Or.inl rfl | exact Or.inr rfl) (@me_def _ _ _ _ _ _ _ _ _ _ _ d__law_unit_names hr (by decide) (by rfl) (@ma_cons _ _ _ _ _ (@mv _ _ 0 _ (by rfl) (by first | exact Or.inl rfl | exact Or.inr (Or.inl rfl) | exact Or.inr (Or.inr rfl)) (by decide) (by decide)) (@ma_cons _ _ _ _ _ (@mv _ _ 2 _ (by rfl) (by first | exact Or.inl rfl | exact Or.inr (Or.inl rfl) | exact Or.inr (Or.inr rfl)) (by decide) (by decide)) ma_nil (by rfl)) (by rfl)) (len_cons (len_cons (fun δ M r h => len_nil h))) (by decide) (by rfl) (by rfl)) (by rfl) (by first | exact .inl rfl | exact .inr rfl | assumption))) (@ms_cons _ _ _ _ _ (@ms_set _ _ _ _ (@ps_set _ _ (4) _ _ _ _ sc__law_machine.nd rfl (by first | exact Or.inl rfl | exact Or.inr rfl) (@me_callTy _ _ _ _ _ _ _ _ _ _ call_tuple_of tuple_m (by rfl) z_tuple boot_tuple (@ma_cons _ _ _ _ _ (@me_lc _ _ _ _ _ _ _ ([("_law_name", 5)]) _ ((gOne 5)) _ _ (by rfl) sc__law_machine.nd (@mi_any _ _ _ _ (@mv _ _ 3 _ (by rfl) (by first | exact Or.inl rfl | exact Or.inr (Or.inl rfl) | exact Or.inr (Or.inr rfl)) (by decide) (by decide))) (blkOk_by (own := [("_law_name", 5)]) (N := ["_law_deck_here", "_law_most", "_law_many", "_law_names", "_law_units", "_law_name", "_law_word"]) (sc := defScope s__law_machine) (by decide +kernel)) (fun _ _ _ _ _ => (@mg_nameV _ _ (5) _ sc__law_machine.nd rfl (by first | exact Or.inl rfl | exact Or.inr rfl) _ (by decide) (by first | exact .inl rfl | exact .inr rfl | assumption))) (fun _ _ _ _ _ => mts_nil) (fun _ _ _ _ _ => (@me_tup _ _ _ _ _ (@ma_cons _ _ _ _ _ (@mv _ _ 5 _ (by rfl) (by first | exact Or.inl rfl | exact Or.inr (Or.inl rfl) | exact Or.inr (Or.inr rfl)) (by decide) (by decide)) (@ma_cons _ _ _ _ _ (@me_add _ _ _ _ _ _ me_int (@me_def _ _ _ _ _ _ _ _ _ _ _ d__law_draw hr (by decide) (by rfl) (@ma_cons _ _ _ _ _ (@mv _ _ 0 _ (by rfl) (by first | exact Or.inl rfl | exact Or.inr (Or.inl rfl) | exact Or.inr (Or.inr rfl)) (by decide) (by decide)) (@ma_cons _ _ _ _ _ me_int ma_nil (by rfl)) (by rfl)) (len_cons (len_cons (fun δ M r h => len_nil h))) (by decide) (by rfl) (by rfl))) ma_nil (by rfl)) (by rfl)))) (by intro _; rfl)) ma_nil (by rfl)) (by decide) (by decide) (by rfl) (by rfl)) (by rfl) (by first | exact .inl rfl | exact .inr rfl | assumption))) (@ms_one _ _ _ (@ms_ret _ _ _ _ (@me_tup _ _ _ _ _ (@ma_cons _ _ _ _ _ (@mv _ _ 4 _ (by rfl) (by first | exact Or.inl rfl | exact Or.inr (Or.inl rfl) | exact Or.inr (Or.inr rfl)) (by decide) (by decide)) (@ma_cons _ _ _ _ _ (@me_callTy _ _ _ _ _ _ _ _ _ _ call_tuple_of tuple_m (by rfl) z_tuple boot_tuple (@ma_cons _ _ _ _ _ (@me_lc _ _ _ _ _ _ _ ([("_law_word", 6)]) _ ((gOne 6)) _ _ (by rfl) sc__law_machine.nd (@mi_any _ _ _ _ (@me_def0 _ _ _ _ _ _ _ d__law_words hr (by decide) (by rfl) (by decide))) (blkOk_by (own := [("_law_word", 6)]) (N := ["_law_deck_here", "_law_most", "_law_many", "_law_names", "_law_units", "_law_name", "_law_word"]) (sc := defScope s__law_machine) (by decide +kernel)) (fun _ _ _ _ _ => (@mg_nameV _ _ (6) _ sc__law_machine.nd rfl (by first | exact Or.inl rfl | exact Or.inr rfl) _ (by decide) (by first | exact .inl rfl | exact .inr rfl | assumption))) (fun _ _ _ _ _ => mts_nil) (fun _ _ _ _ _ => (@me_def _ _ _ _ _ _ _ _ _ _ _ d__law_work hr (by decide) (by rfl) (@ma_cons _ _ _ _ _ (@mv _ _ 0 _ (by rfl) (by first | exact Or.inl rfl | exact Or.inr (Or.inl rfl) | exact Or.inr (Or.inr rfl)) (by decide) (by decide)) (@ma_cons _ _ _ _ _ (@mv _ _ 3 _ (by rfl) (by first | exact Or.inl rfl | exact Or.inr (Or.inl rfl) | exact Or.inr (Or.inr rfl)) (by decide) (by decide)) (@ma_cons _ _ _ _ _ (@mv _ _ 1 _ (by rfl) (by first | exact Or.inl rfl | exact Or.inr (Or.inl rfl) | exact Or.inr (Or.inr rfl)) (by decide) (by decide)) ma_nil (by rfl)) (by rfl)) (by rfl)) (len_cons (len_cons (len_cons (fun δ M r h => len_nil h)))) (by decide) (by rfl) (by rfl))) (by intro _; rfl)) ma_nil (by rfl)) (by decide) (by decide) (by rfl) (by rfl)) ma_nil (by rfl)) (by rfl))))))))
abbrev s__law_row : Stmt := top 22
theorem sc__law_row : FnScope ["_law_parts", "_law_part"] ["_law_parts"] (defScope s__law_row) := ⟨rfl, rfl, rfl, by decide +kernel, rfl, by decide +kernel, by decide +kernel⟩
theorem ok__law_row {a : Addr} {fd : FuncData} (F : Fun K "_law_row" "_law_row" s__law_row a fd) (z_str : mg "str" = none) : FnOk P w K mg base CX0 1 a fd ["_law_parts"] (spM K 1 f__law_row) :=
  fn_ok F sc__law_row fun cdv A outer s H E hr => (@ms_one _ _ _ (@ms_ret _ _ _ _ (@me_join _ _ _ _ _ _ _ me_str (@me_lc _ _ _ _ _ _ _ ([("_law_part", 1)]) _ ((gOne 1)) _ _ (by rfl) sc__law_row.nd (@mi_any _ _ _ _ (@mv _ _ 0 _ (by rfl) (by first | exact Or.inl rfl | exact Or.inr (Or.inl rfl) | exact Or.inr (Or.inr rfl)) (by decide) (by decide))) (blkOk_by (own := [("_law_part", 1)]) (N := ["_law_parts", "_law_part"]) (sc := defScope s__law_row) (by decide +kernel)) (fun _ _ _ _ _ => (@mg_nameV _ _ (1) _ sc__law_row.nd rfl (by first | exact Or.inl rfl | exact Or.inr rfl) _ (by decide) (by first | exact .inl rfl | exact .inr rfl | assumption))) (fun _ _ _ _ _ => mts_nil) (fun _ _ _ _ _ => (@me_callTy _ _ _ _ _ _ _ _ _ _ call_str_any strA_m (by rfl) z_str boot_str (@ma_cons _ _ _ _ _ (@mv _ _ 1 _ (by rfl) (by first | exact Or.inl rfl | exact Or.inr (Or.inl rfl) | exact Or.inr (Or.inr rfl)) (by decide) (by decide)) ma_nil (by rfl)) (by decide) (by decide) (by rfl) (by rfl))) (by intro _; rfl)) (by rfl) (by rfl) (by rfl))))
abbrev s__law_rows : Stmt := top 23
theorem sc__law_rows : FnScope ["_law_machine_here", "_law_stretch_here", "_law_rows_here", "_law_unit", "_law_word", "_law_work_here", "_law_deed_here"] ["_law_machine_here", "_law_stretch_here"] (defScope s__law_rows) := ⟨rfl, rfl, rfl, by decide +kernel, rfl, by decide +kernel, by decide +kernel⟩
theorem ok__law_rows {a : Addr} {fd : FuncData} (F : Fun K "_law_rows" "_law_rows" s__law_rows a fd) (d__law_row : Def P w K mg base "_law_row" 1 ["_law_parts"] f__law_row) (d__law_words : Def P w K mg base "_law_words" 1 [] f__law_words) (z_zip : mg "zip" = none) : FnOk P w K mg base CX0 2 a fd ["_law_machine_here", "_law_stretch_here"] (spM K 2 f__law_rows) :=
  fn_ok F sc__law_rows fun cdv A outer s H E hr => (@ms_cons _ _ _ _ _ (@ms_setLc _ _ _ (2) _ _ _ _ _ _ ([("_law_unit", 3)]) _ _ ((gOne 3)) _ _ (by rfl) sc__law_rows.nd rfl rfl (sw_true rfl rfl rfl (by decide +kernel)) (@mi_any _ _ _ _ (@me_ix _ _ _ _ _ _ (hu_of hr) (@mv _ _ 0 _ (by rfl) (by first | exact Or.inl rfl | exact Or.inr (Or.inl rfl) | exact Or.inr (Or.inr rfl)) (by decide) (by decide)) me_int (fun _ _ => rfl))) (blkOk_by (own := [("_law_unit", 3)]) (N := ["_law_machine_here", "_law_stretch_here", "_law_rows_here", "_law_unit", "_law_word", "_law_work_here", "_law_deed_here"]) (sc := defScope s__law_rows) (by decide +kernel)) (fun _ _ _ _ _ => (@mg_nameV _ _ (3) _ sc__law_rows.nd rfl (by first | exact Or.inl rfl | exact Or.inr rfl) _ (by decide) (by first | exact .inl rfl | exact .inr rfl | assumption))) (fun _ _ _ _ _ => mts_nil) (fun _ _ _ _ _ => (@me_def _ _ _ _ _ _ _ _ _ _ _ d__law_row hr (by decide) (by rfl) (@ma_cons _ _ _ _ _ (@me_add _ _ _ _ _ _ (@me_tup _ _ _ _ _ (@ma_cons _ _ _ _ _ me_str ma_nil (by rfl))) (@mv _ _ 3 _ (by rfl) (by first | exact Or.inl rfl | exact Or.inr (Or.inl rfl) | exact Or.inr (Or.inr rfl)) (by decide) (by decide))) ma_nil (by rfl)) (len_cons (fun δ M r h => len_nil h)) (by decide) (by rfl) (by rfl))) (by intro _; rfl)) (@ms_cons _ _ _ _ _ (@ms_set _ _ _ _ (@ps_set _ _ (2) _ _ _ _ sc__law_rows.nd rfl (by first | exact Or.inl rfl | exact Or.inr rfl) (@me_add _ _ _ _ _ _ (@mv _ _ 2 _ (by rfl) (by first | exact Or.inl rfl | exact Or.inr (Or.inl rfl) | exact Or.inr (Or.inr rfl)) (by decide) (by decide)) (@me_lc _ _ _ _ _ _ _ ([("_law_word", 4), ("_law_work_here", 5)]) _ ((gMany [4, 5])) _ _ (by rfl) sc__law_rows.nd (@mi_zip _ _ _ _ _ _ _ _ _ rfl z_zip (@ma_cons _ _ _ _ _ (@me_def0 _ _ _ _ _ _ _ d__law_words hr (by decide) (by rfl) (by decide)) (@ma_cons _ _ _ _ _ (@me_ix _ _ _ _ _ _ (hu_of hr) (@mv _ _ 0 _ (by rfl) (by first | exact Or.inl rfl | exact Or.inr (Or.inl rfl) | exact Or.inr (Or.inr rfl)) (by decide) (by decide)) me_int (fun _ _ => rfl)) ma_nil (by rfl)) (by rfl)) (by rfl) (by rfl)) (blkOk_by (own := [("_law_word", 4), ("_law_work_here", 5)]) (N := ["_law_machine_here", "_law_stretch_here", "_law_rows_here", "_law_unit", "_law_word", "_law_work_here", "_law_deed_here"]) (sc := defScope s__law_rows) (by decide +kernel)) (fun _ _ _ _ _ => (@mg_many _ _ ([4, 5]) (@pg_tup _ _ _ _ _ _ rfl (@pgs_cons _ _ _ _ _ (@pg_name _ _ (4) _ sc__law_rows.nd rfl (by first | exact Or.inl rfl | exact Or.inr rfl) (by first | exact .inl rfl | exact .inr rfl | assumption)) (@pgs_cons _ _ _ _ _ (@pg_name _ _ (5) _ sc__law_rows.nd rfl (by first | exact Or.inl rfl | exact Or.inr rfl) (by first | exact .inl rfl | exact .inr rfl | assumption)) pgs_nil (by rfl)) (by rfl)) (by rfl) (by rfl)) _ (by decide))) (fun _ _ _ _ _ => mts_nil) (fun _ _ _ _ _ => (@me_def _ _ _ _ _ _ _ _ _ _ _ d__law_row hr (by decide) (by rfl) (@ma_cons _ _ _ _ _ (@me_add _ _ _ _ _ _ (@me_tup _ _ _ _ _ (@ma_cons _ _ _ _ _ me_str (@ma_cons _ _ _ _ _ (@mv _ _ 4 _ (by rfl) (by first | exact Or.inl rfl | exact Or.inr (Or.inl rfl) | exact Or.inr (Or.inr rfl)) (by decide) (by decide)) ma_nil (by rfl)) (by rfl))) (@mv _ _ 5 _ (by rfl) (by first | exact Or.inl rfl | exact Or.inr (Or.inl rfl) | exact Or.inr (Or.inr rfl)) (by decide) (by decide))) ma_nil (by rfl)) (len_cons (fun δ M r h => len_nil h)) (by decide) (by rfl) (by rfl))) (by intro _; rfl))) (by rfl) (by first | exact .inl rfl | exact .inr rfl | assumption))) (@ms_cons _ _ _ _ _ (@ms_set _ _ _ _ (@ps_set _ _ (2) _ _ _ _ sc__law_rows.nd rfl (by first | exact Or.inl rfl | exact Or.inr rfl) (@me_add _ _ _ _ _ _ (@me_add _ _ _ _ _ _ (@mv _ _ 2 _ (by rfl) (by first | exact Or.inl rfl | exact Or.inr (Or.inl rfl) | exact Or.inr (Or.inr rfl)) (by decide) (by decide)) (@me_lst _ _ _ _ (@ma_cons _ _ _ _ _ (@me_def _ _ _ _ _ _ _ _ _ _ _ d__law_row hr (by decide) (by rfl) (@ma_cons _ _ _ _ _ (@me_tup _ _ _ _ _ (@ma_cons _ _ _ _ _ me_str (@ma_cons _ _ _ _ _ (@me_ix _ _ _ _ _ _ (hu_of hr) (@mv _ _ 1 _ (by rfl) (by first | exact Or.inl rfl | exact Or.inr (Or.inl rfl) | exact Or.inr (Or.inr rfl)) (by decide) (by decide)) me_int (fun _ _ => rfl)) ma_nil (by rfl)) (by rfl))) ma_nil (by rfl)) (len_cons (fun δ M r h => len_nil h)) (by decide) (by rfl) (by rfl)) ma_nil (by rfl)))) (@me_lc _ _ _ _ _ _ _ ([("_law_deed_here", 6)]) _ ((gOne 6)) _ _ (by rfl) sc__law_rows.nd (@mi_any _ _ _ _ (@me_ix _ _ _ _ _ _ (hu_of hr) (@mv _ _ 1 _ (by rfl) (by first | exact Or.inl rfl | exact Or.inr (Or.inl rfl) | exact Or.inr (Or.inr rfl)) (by decide) (by decide)) me_int (fun _ _ => rfl))) (blkOk_by (own := [("_law_deed_here", 6)]) (N := ["_law_machine_here", "_law_stretch_here", "_law_rows_here", "_law_unit", "_law_word", "_law_work_here", "_law_deed_here"]) (sc := defScope s__law_rows) (by decide +kernel)) (fun _ _ _ _ _ => (@mg_nameV _ _ (6) _ sc__law_rows.nd rfl (by first | exact Or.inl rfl | exact Or.inr rfl) _ (by decide) (by first | exact .inl rfl | exact .inr rfl | assumption))) (fun _ _ _ _ _ => mts_nil) (fun _ _ _ _ _ => (@me_def _ _ _ _ _ _ _ _ _ _ _ d__law_row hr (by decide) (by rfl) (@ma_cons _ _ _ _ _ (@mv _ _ 6 _ (by rfl) (by first | exact Or.inl rfl | exact Or.inr (Or.inl rfl) | exact Or.inr (Or.inr rfl)) (by decide) (by decide)) ma_nil (by rfl)) (len_cons (fun δ M r h => len_nil h)) (by decide) (by rfl) (by rfl))) (by intro _; rfl))) (by rfl) (by first | exact .inl rfl | exact .inr rfl | assumption))) (@ms_one _ _ _ (@ms_ret _ _ _ _ (@me_add _ _ _ _ _ _ (@mv _ _ 2 _ (by rfl) (by first | exact Or.inl rfl | exact Or.inr (Or.inl rfl) | exact Or.inr (Or.inr rfl)) (by decide) (by decide)) (@me_lst _ _ _ _ (@ma_cons _ _ _ _ _ (@me_def _ _ _ _ _ _ _ _ _ _ _ d__law_row hr (by decide) (by rfl) (@ma_cons _ _ _ _ _ (@me_add _ _ _ _ _ _ (@me_tup _ _ _ _ _ (@ma_cons _ _ _ _ _ me_str ma_nil (by rfl))) (@me_ix _ _ _ _ _ _ (hu_of hr) (@mv _ _ 1 _ (by rfl) (by first | exact Or.inl rfl | exact Or.inr (Or.inl rfl) | exact Or.inr (Or.inr rfl)) (by decide) (by decide)) me_int (fun _ _ => rfl))) ma_nil (by rfl)) (len_cons (fun δ M r h => len_nil h)) (by decide) (by rfl) (by rfl)) ma_nil (by rfl)))))))))
abbrev s_law : Stmt := top 24
theorem sc_law : FnScope ["_law_script", "_law_deck_here", "_law_machines", "_law_sizes", "_law_stretches", "_law_one", "_law_other", "_law_found", "_law_k", "_law_many"] ["_law_script"] (defScope s_law) := ⟨rfl, rfl, rfl, by decide +kernel, rfl, by decide +kernel, by decide +kernel⟩
theorem ok_law {a : Addr} {fd : FuncData} (F : Fun K "law" "law" s_law a fd) (d__law_deck : Def P w K mg base "_law_deck" 1 ["_law_script"] f__law_deck) (d__law_draw : Def P w K mg base "_law_draw" 2 ["_law_deck_here", "_law_most"] f__law_draw) (d__law_machine : Def P w K mg base "_law_machine" 4 ["_law_deck_here", "_law_most"] f__law_machine) (d__law_rows : Def P w K mg base "_law_rows" 2 ["_law_machine_here", "_law_stretch_here"] f__law_rows) (d__law_stretch : Def P w K mg base "_law_stretch" 5 ["_law_deck_here", "_law_many"] f__law_stretch) (d_show : Def P w K mg base "show" 5 ["machine", "stretch"] f_show) (z_isinstance : mg "isinstance" = none) (z_range : mg "range" = none) (z_str : mg "str" = none) : FnOk P w K mg base CX0 6 a fd ["_law_script"] (spM K 1 f_law) :=
  fn_ok F sc_law fun cdv A outer s H E hr => (@ms_cons _ _ _ _ _ (@ms_set _ _ _ _ (@ps_set _ _ (1) _ _ _ _ sc_law.nd rfl (by first | exact Or.inl rfl | exact Or.inr rfl) (@me_def _ _ _ _ _ _ _ _ _ _ _ d__law_deck hr (by decide) (by rfl) (@ma_cons _ _ _ _ _ (@mv _ _ 0 _ (by rfl) (by first | exact Or.inl rfl | exact Or.inr (Or.inl rfl) | exact Or.inr (Or.inr rfl)) (by decide) (by decide)) ma_nil (by rfl)) (len_cons (fun δ M r h => len_nil h)) (by decide) (by rfl) (by rfl)) (by rfl) (by first | exact .inl rfl | exact .inr rfl | assumption))) (@ms_cons _ _ _ _ _ (@ms_set _ _ _ _ (@ps_set _ _ (2) _ _ _ _ sc_law.nd rfl (by first | exact Or.inl rfl | exact Or.inr rfl) (@me_lst _ _ _ _ (@ma_cons _ _ _ _ _ (@me_def _ _ _ _ _ _ _ _ _ _ _ d__law_machine hr (by decide) (by rfl) (@ma_cons _ _ _ _ _ (@mv _ _ 1 _ (by rfl) (by first | exact Or.inl rfl | exact Or.inr (Or.inl rfl) | exact Or.inr (Or.inr rfl)) (by decide) (by decide)) (@ma_cons _ _ _ _ _ me_int ma_nil (by rfl)) (by rfl)) (len_cons (len_cons (fun δ M r h => len_nil h))) (by decide) (by rfl) (by rfl)) (@ma_cons _ _ _ _ _ (@me_def _ _ _ _ _ _ _ _ _ _ _ d__law_machine hr (by decide) (by rfl) (@ma_cons _ _ _ _ _ (@mv _ _ 1 _ (by rfl) (by first | exact Or.inl rfl | exact Or.inr (Or.inl rfl) | exact Or.inr (Or.inr rfl)) (by decide) (by decide)) (@ma_cons _ _ _ _ _ me_int ma_nil (by rfl)) (by rfl)) (len_cons (len_cons (fun δ M r h => len_nil h))) (by decide) (by rfl) (by rfl)) ma_nil (by rfl)) (by rfl))) (by rfl) (by first | exact .inl rfl | exact .inr rfl | assumption))) (@ms_cons _ _ _ _ _ (@ms_setLc _ _ _ (3) _ _ _ _ _ _ ([("_law_k", 8)]) _ _ ((gOne 8)) _ _ (by rfl) sc_law.nd rfl rfl (sw_true rfl rfl rfl (by decide +kernel)) (@mi_rng1 _ _ _ _ _ _ (@pi_range1 _ _ _ _ _ _ rfl z_range (@ma_cons _ _ _ _ _ me_int ma_nil (by rfl)) (by rfl))) (blkOk_by (own := [("_law_k", 8)]) (N := ["_law_script", "_law_deck_here", "_law_machines", "_law_sizes", "_law_stretches", "_law_one", "_law_other", "_law_found", "_law_k", "_law_many"]) (sc := defScope s_law) (by decide +kernel)) (fun _ _ _ _ _ => (@mg_nameV _ _ (8) _ sc_law.nd rfl (by first | exact Or.inl rfl | exact Or.inr rfl) _ (by decide) (by first | exact .inl rfl | exact .inr rfl | assumption))) (fun _ _ _ _ _ => mts_nil) (fun _ _ _ _ _ => (@me_ix _ _ _ _ _ _ (hu_of hr) (@me_lst _ _ _ _ (@ma_cons _ _ _ _ _ (@me_def _ _ _ _ _ _ _ _ _ _ _ d__law_draw hr (by decide) (by rfl) (@ma_cons _ _ _ _ _ (@mv _ _ 1 _ (by rfl) (by first | exact Or.inl rfl | exact Or.inr (Or.inl rfl) | exact Or.inr (Or.inr rfl)) (by decide) (by decide)) (@ma_cons _ _ _ _ _ me_int ma_nil (by rfl)) (by rfl)) (len_cons (len_cons (fun δ M r h => len_nil h))) (by decide) (by rfl) (by rfl)) (@ma_cons _ _ _ _ _ (@me_def _ _ _ _ _ _ _ _ _ _ _ d__law_draw hr (by decide) (by rfl) (@ma_cons _ _ _ _ _ (@mv _ _ 1 _ (by rfl) (by first | exact Or.inl rfl | exact Or.inr (Or.inl rfl) | exact Or.inr (Or.inr rfl)) (by decide) (by decide)) (@ma_cons _ _ _ _ _ me_int ma_nil (by rfl)) (by rfl)) (len_cons (len_cons (fun δ M r h => len_nil h))) (by decide) (by rfl) (by rfl)) ma_nil (by rfl)) (by rfl))) (@me_def _ _ _ _ _ _ _ _ _ _ _ d__law_draw hr (by decide) (by rfl) (@ma_cons _ _ _ _ _ (@mv _ _ 1 _ (by rfl) (by first | exact Or.inl rfl | exact Or.inr (Or.inl rfl) | exact Or.inr (Or.inr rfl)) (by decide) (by decide)) (@ma_cons _ _ _ _ _ me_int ma_nil (by rfl)) (by rfl)) (len_cons (len_cons (fun δ M r h => len_nil h))) (by decide) (by rfl) (by rfl)) (fun _ _ => rfl))) (by intro _; rfl)) (@ms_cons _ _ _ _ _ (@ms_setLc _ _ _ (4) _ _ _ _ _ _ ([("_law_many", 9)]) _ _ ((gOne 9)) _ _ (by rfl) sc_law.nd rfl rfl (sw_true rfl rfl rfl (by decide +kernel)) (@mi_any _ _ _ _ (@mv _ _ 3 _ (by rfl) (by first | exact Or.inl rfl | exact Or.inr (Or.inl rfl) | exact Or.inr (Or.inr rfl)) (by decide) (by decide))) (blkOk_by (own := [("_law_many", 9)]) (N := ["_law_script", "_law_deck_here", "_law_machines", "_law_sizes", "_law_stretches", "_law_one", "_law_other", "_law_found", "_law_k", "_law_many"]) (sc := defScope s_law) (by decide +kernel)) (fun _ _ _ _ _ => (@mg_nameV _ _ (9) _ sc_law.nd rfl (by first | exact Or.inl rfl | exact Or.inr rfl) _ (by decide) (by first | exact .inl rfl | exact .inr rfl | assumption))) (fun _ _ _ _ _ => mts_nil) (fun _ _ _ _ _ => (@me_def _ _ _ _ _ _ _ _ _ _ _ d__law_stretch hr (by decide) (by rfl) (@ma_cons _ _ _ _ _ (@mv _ _ 1 _ (by rfl) (by first | exact Or.inl rfl | exact Or.inr (Or.inl rfl) | exact Or.inr (Or.inr rfl)) (by decide) (by decide)) (@ma_cons _ _ _ _ _ (@mv _ _ 9 _ (by rfl) (by first | exact Or.inl rfl | exact Or.inr (Or.inl rfl) | exact Or.inr (Or.inr rfl)) (by decide) (by decide)) ma_nil (by rfl)) (by rfl)) (len_cons (len_cons (fun δ M r h => len_nil h))) (by decide) (by rfl) (by rfl))) (by intro _; rfl)) (@ms_cons _ _ _ _ _ (@ms_for _ _ _ _ _ _ _ ([5, 6]) _ PassesOwn.never rfl (@mi_any _ _ _ _ (@me_lst _ _ _ _ (@ma_cons _ _ _ _ _ (@me_tup _ _ _ _ _ (@ma_cons _ _ _ _ _ me_int (@ma_cons _ _ _ _ _ me_int ma_nil (by rfl)) (by rfl))) (@ma_cons _ _ _ _ _ (@me_tup _ _ _ _ _ (@ma_cons _ _ _ _ _ me_int (@ma_cons _ _ _ _ _ me_int ma_nil (by rfl)) (by rfl))) (@ma_cons _ _ _ _ _ (@me_tup _ _ _ _ _ (@ma_cons _ _ _ _ _ me_int (@ma_cons _ _ _ _ _ me_int ma_nil (by rfl)) (by rfl))) (@ma_cons _ _ _ _ _ (@me_tup _ _ _ _ _ (@ma_cons _ _ _ _ _ me_int (@ma_cons _ _ _ _ _ me_int ma_nil (by rfl)) (by rfl))) (@ma_cons _ _ _ _ _ (@me_tup _ _ _ _ _ (@ma_cons _ _ _ _ _ me_int (@ma_cons _ _ _ _ _ me_int ma_nil (by rfl)) (by rfl))) ma_nil (by rfl)) (by rfl)) (by rfl)) (by rfl)) (by rfl)))) (@mg_many _ _ ([5, 6]) (@pg_tup _ _ _ _ _ _ rfl (@pgs_cons _ _ _ _ _ (@pg_name _ _ (5) _ sc_law.nd rfl (by first | exact Or.inl rfl | exact Or.inr rfl) (by first | exact .inl rfl | exact .inr rfl | assumption)) (@pgs_cons _ _ _ _ _ (@pg_name _ _ (6) _ sc_law.nd rfl (by first | exact Or.inl rfl | exact Or.inr rfl) (by first | exact .inl rfl | exact .inr rfl | assumption)) pgs_nil (by rfl)) (by rfl)) (by rfl) (by rfl)) _ (by decide)) (@ms_cons _ _ _ _ _ (@ms_set _ _ _ _ (@ps_set _ _ (7) _ _ _ _ sc_law.nd rfl (by first | exact Or.inl rfl | exact Or.inr rfl) (@me_def _ _ _ _ _ _ _ _ _ _ _ d_show hr (by decide) (by rfl) (@ma_cons _ _ _ _ _ (@me_ix _ _ _ _ _ _ (hu_of hr) (@mv _ _ 2 _ (by rfl) (by first | exact Or.inl rfl | exact Or.inr (Or.inl rfl) | exact Or.inr (Or.inr rfl)) (by decide) (by decide)) (@mv _ _ 5 _ (by rfl) (by first | exact Or.inl rfl | exact Or.inr (Or.inl rfl) | exact Or.inr (Or.inr rfl)) (by decide) (by decide)) (fun _ _ => rfl)) (@ma_cons _ _ _ _ _ (@me_ix _ _ _ _ _ _ (hu_of hr) (@mv _ _ 4 _ (by rfl) (by first | exact Or.inl rfl | exact Or.inr (Or.inl rfl) | exact Or.inr (Or.inr rfl)) (by decide) (by decide)) (@mv _ _ 6 _ (by rfl) (by first | exact Or.inl rfl | exact Or.inr (Or.inl rfl) | exact Or.inr (Or.inr rfl)) (by decide) (by decide)) (fun _ _ => rfl)) ma_nil (by rfl)) (by rfl)) (len_cons (len_cons (fun δ M r h => len_nil h))) (by decide) (by rfl) (by rfl)) (by rfl) (by first | exact .inl rfl | exact .inr rfl | assumption))) (@ms_one _ _ _ (@ms_if _ _ _ _ _ _ _ _ (PW.pt (@mw_or _ _ _ _ _ _ _ (@mt_not _ _ _ _ (@mt_truth _ _ _ (@me_callB _ _ _ _ _ _ _ _ _ _ call_isi isi_m (by rfl) z_isinstance boot_isinst (@ma_cons _ _ _ _ _ (@mv _ _ 7 _ (by rfl) (by first | exact Or.inl rfl | exact Or.inr (Or.inl rfl) | exact Or.inr (Or.inr rfl)) (by decide) (by decide)) (@ma_cons _ _ _ _ _ (@me_type _ _ _ _ (by rfl) z_str boot_str (by decide) (by decide)) ma_nil (by rfl)) (by rfl)) (by decide) (by decide) (by rfl) (by rfl)) (by intro _; rfl))) (@mw_or1 _ _ _ _ (@mt_ne _ _ _ _ _ _ hr.units (@mv _ _ 7 _ (by rfl) (by first | exact Or.inl rfl | exact Or.inr (Or.inl rfl) | exact Or.inr (Or.inr rfl)) (by decide) (by decide)) (@me_join _ _ _ _ _ _ _ me_str (@me_def _ _ _ _ _ _ _ _ _ _ _ d__law_rows hr (by decide) (by rfl) (@ma_cons _ _ _ _ _ (@me_ix _ _ _ _ _ _ (hu_of hr) (@mv _ _ 2 _ (by rfl) (by first | exact Or.inl rfl | exact Or.inr (Or.inl rfl) | exact Or.inr (Or.inr rfl)) (by decide) (by decide)) (@mv _ _ 5 _ (by rfl) (by first | exact Or.inl rfl | exact Or.inr (Or.inl rfl) | exact Or.inr (Or.inr rfl)) (by decide) (by decide)) (fun _ _ => rfl)) (@ma_cons _ _ _ _ _ (@me_ix _ _ _ _ _ _ (hu_of hr) (@mv _ _ 4 _ (by rfl) (by first | exact Or.inl rfl | exact Or.inr (Or.inl rfl) | exact Or.inr (Or.inr rfl)) (by decide) (by decide)) (@mv _ _ 6 _ (by rfl) (by first | exact Or.inl rfl | exact Or.inr (Or.inl rfl) | exact Or.inr (Or.inr rfl)) (by decide) (by decide)) (fun _ _ => rfl)) ma_nil (by rfl)) (by rfl)) (len_cons (len_cons (fun δ M r h => len_nil h))) (by decide) (by rfl) (by rfl)) (by rfl) (by rfl) (by rfl)))))) (@ms_one _ _ _ (@ms_ret _ _ _ _ me_bl)) ms_nil))) (by intro _; rfl)) (@ms_one _ _ _ (@ms_ret _ _ _ _ me_bl)))))))
end
end Lk77

set_option Elab.async false
set_option linter.all false
set_option maxRecDepth 100000
set_option maxHeartbeats 4000000
namespace Lk77
open PySem PySem.Spec L2 Mir
theorem all_mk {l : PySem.W.OpenLaw} {w : World} {K : PySem.W.Frag} {h : Heap} {mg : Str → Option Value} {fa : Addr} (X : K.In h) (G : h.Ns mainGlobals mg) (hfa : mg "law" = some (.ref fa))
    {a0 : Addr} {oc0 : Value} {od0 an0 : Option Addr} {sl0 : Array (Option Value)} {kV0 dc0 pm0 cd0 ct0 : Value}
    (n0 : PySem.W.nsIn K mainGlobals "figures" = some (some (.ref a0))) (l0 : K.lookup a0 = some ⟨oc0, od0, .func (PySem.W.fnOf "figures" "figures" (defArgs s_figures) (defBody s_figures) (defScope s_figures) .none kV0 dc0 pm0 an0 cd0 ct0), sl0⟩) (c0 : PySem.W.codeIn K cd0 "figures" = true) (k0 : PySem.W.keepIn K (.ref a0) = true)
    {a1 : Addr} {oc1 : Value} {od1 an1 : Option Addr} {sl1 : Array (Option Value)} {kV1 dc1 pm1 cd1 ct1 : Value}
    (n1 : PySem.W.nsIn K mainGlobals "row_of" = some (some (.ref a1))) (l1 : K.lookup a1 = some ⟨oc1, od1, .func (PySem.W.fnOf "row_of" "row_of" (defArgs s_row_of) (defBody s_row_of) (defScope s_row_of) .none kV1 dc1 pm1 an1 cd1 ct1), sl1⟩) (c1 : PySem.W.codeIn K cd1 "row_of" = true) (k1 : PySem.W.keepIn K (.ref a1) = true)
    {a2 : Addr} {oc2 : Value} {od2 an2 : Option Addr} {sl2 : Array (Option Value)} {kV2 dc2 pm2 cd2 ct2 : Value}
    (n2 : PySem.W.nsIn K mainGlobals "show" = some (some (.ref a2))) (l2 : K.lookup a2 = some ⟨oc2, od2, .func (PySem.W.fnOf "show" "show" (defArgs s_show) (defBody s_show) (defScope s_show) .none kV2 dc2 pm2 an2 cd2 ct2), sl2⟩) (c2 : PySem.W.codeIn K cd2 "show" = true) (k2 : PySem.W.keepIn K (.ref a2) = true)
    {a3 : Addr} {oc3 : Value} {od3 an3 : Option Addr} {sl3 : Array (Option Value)} {kV3 dc3 pm3 cd3 ct3 : Value}
    (n3 : PySem.W.nsIn K mainGlobals "_law_deck" = some (some (.ref a3))) (l3 : K.lookup a3 = some ⟨oc3, od3, .func (PySem.W.fnOf "_law_deck" "_law_deck" (defArgs s__law_deck) (defBody s__law_deck) (defScope s__law_deck) .none kV3 dc3 pm3 an3 cd3 ct3), sl3⟩) (c3 : PySem.W.codeIn K cd3 "_law_deck" = true) (k3 : PySem.W.keepIn K (.ref a3) = true)
    {a4 : Addr} {oc4 : Value} {od4 an4 : Option Addr} {sl4 : Array (Option Value)} {kV4 dc4 pm4 cd4 ct4 : Value}
    (n4 : PySem.W.nsIn K mainGlobals "_law_mixed" = some (some (.ref a4))) (l4 : K.lookup a4 = some ⟨oc4, od4, .func (PySem.W.fnOf "_law_mixed" "_law_mixed" (defArgs s__law_mixed) (defBody s__law_mixed) (defScope s__law_mixed) .none kV4 dc4 pm4 an4 cd4 ct4), sl4⟩) (c4 : PySem.W.codeIn K cd4 "_law_mixed" = true) (k4 : PySem.W.keepIn K (.ref a4) = true)
    {a5 : Addr} {oc5 : Value} {od5 an5 : Option Addr} {sl5 : Array (Option Value)} {kV5 dc5 pm5 cd5 ct5 : Value}
    (n5 : PySem.W.nsIn K mainGlobals "_law_draw" = some (some (.ref a5))) (l5 : K.lookup a5 = some ⟨oc5, od5, .func (PySem.W.fnOf "_law_draw" "_law_draw" (defArgs s__law_draw) (defBody s__law_draw) (defScope s__law_draw) .none kV5 dc5 pm5 an5 cd5 ct5), sl5⟩) (c5 : PySem.W.codeIn K cd5 "_law_draw" = true) (k5 : PySem.W.keepIn K (.ref a5) = true)
    {a6 : Addr} {oc6 : Value} {od6 an6 : Option Addr} {sl6 : Array (Option Value)} {kV6 dc6 pm6 cd6 ct6 : Value}
    (n6 : PySem.W.nsIn K mainGlobals "_law_signs" = some (some (.ref a6))) (l6 : K.lookup a6 = some ⟨oc6, od6, .func (PySem.W.fnOf "_law_signs" "_law_signs" (defArgs s__law_signs) (defBody s__law_signs) (defScope s__law_signs) .none kV6 dc6 pm6 an6 cd6 ct6), sl6⟩) (c6 : PySem.W.codeIn K cd6 "_law_signs" = true) (k6 : PySem.W.keepIn K (.ref a6) = true)
    {a7 : Addr} {oc7 : Value} {od7 an7 : Option Addr} {sl7 : Array (Option Value)} {kV7 dc7 pm7 cd7 ct7 : Value}
    (n7 : PySem.W.nsIn K mainGlobals "_law_words" = some (some (.ref a7))) (l7 : K.lookup a7 = some ⟨oc7, od7, .func (PySem.W.fnOf "_law_words" "_law_words" (defArgs s__law_words) (defBody s__law_words) (defScope s__law_words) .none kV7 dc7 pm7 an7 cd7 ct7), sl7⟩) (c7 : PySem.W.codeIn K cd7 "_law_words" = true) (k7 : PySem.W.keepIn K (.ref a7) = true)
    {a8 : Addr} {oc8 : Value} {od8 an8 : Option Addr} {sl8 : Array (Option Value)} {kV8 dc8 pm8 cd8 ct8 : Value}
    (n8 : PySem.W.nsIn K mainGlobals "_law_number" = some (some (.ref a8))) (l8 : K.lookup a8 = some ⟨oc8, od8, .func (PySem.W.fnOf "_law_number" "_law_number" (defArgs s__law_number) (defBody s__law_number) (defScope s__law_number) .none kV8 dc8 pm8 an8 cd8 ct8), sl8⟩) (c8 : PySem.W.codeIn K cd8 "_law_number" = true) (k8 : PySem.W.keepIn K (.ref a8) = true)
    {a9 : Addr} {oc9 : Value} {od9 an9 : Option Addr} {sl9 : Array (Option Value)} {kV9 dc9 pm9 cd9 ct9 : Value}
    (n9 : PySem.W.nsIn K mainGlobals "_law_worth" = some (some (.ref a9))) (l9 : K.lookup a9 = some ⟨oc9, od9, .func (PySem.W.fnOf "_law_worth" "_law_worth" (defArgs s__law_worth) (defBody s__law_worth) (defScope s__law_worth) .none kV9 dc9 pm9 an9 cd9 ct9), sl9⟩) (c9 : PySem.W.codeIn K cd9 "_law_worth" = true) (k9 : PySem.W.keepIn K (.ref a9) = true)
    {a10 : Addr} {oc10 : Value} {od10 an10 : Option Addr} {sl10 : Array (Option Value)} {kV10 dc10 pm10 cd10 ct10 : Value}
    (n10 : PySem.W.nsIn K mainGlobals "_law_deed" = some (some (.ref a10))) (l10 : K.lookup a10 = some ⟨oc10, od10, .func (PySem.W.fnOf "_law_deed" "_law_deed" (defArgs s__law_deed) (defBody s__law_deed) (defScope s__law_deed) .none kV10 dc10 pm10 an10 cd10 ct10), sl10⟩) (c10 : PySem.W.codeIn K cd10 "_law_deed" = true) (k10 : PySem.W.keepIn K (.ref a10) = true)
    {a11 : Addr} {oc11 : Value} {od11 an11 : Option Addr} {sl11 : Array (Option Value)} {kV11 dc11 pm11 cd11 ct11 : Value}
    (n11 : PySem.W.nsIn K mainGlobals "_law_there" = some (some (.ref a11))) (l11 : K.lookup a11 = some ⟨oc11, od11, .func (PySem.W.fnOf "_law_there" "_law_there" (defArgs s__law_there) (defBody s__law_there) (defScope s__law_there) .none kV11 dc11 pm11 an11 cd11 ct11), sl11⟩) (c11 : PySem.W.codeIn K cd11 "_law_there" = true) (k11 : PySem.W.keepIn K (.ref a11) = true)
    {a12 : Addr} {oc12 : Value} {od12 an12 : Option Addr} {sl12 : Array (Option Value)} {kV12 dc12 pm12 cd12 ct12 : Value}
    (n12 : PySem.W.nsIn K mainGlobals "_law_menu" = some (some (.ref a12))) (l12 : K.lookup a12 = some ⟨oc12, od12, .func (PySem.W.fnOf "_law_menu" "_law_menu" (defArgs s__law_menu) (defBody s__law_menu) (defScope s__law_menu) .none kV12 dc12 pm12 an12 cd12 ct12), sl12⟩) (c12 : PySem.W.codeIn K cd12 "_law_menu" = true) (k12 : PySem.W.keepIn K (.ref a12) = true)
    {a13 : Addr} {oc13 : Value} {od13 an13 : Option Addr} {sl13 : Array (Option Value)} {kV13 dc13 pm13 cd13 ct13 : Value}
    (n13 : PySem.W.nsIn K mainGlobals "_law_stretch" = some (some (.ref a13))) (l13 : K.lookup a13 = some ⟨oc13, od13, .func (PySem.W.fnOf "_law_stretch" "_law_stretch" (defArgs s__law_stretch) (defBody s__law_stretch) (defScope s__law_stretch) .none kV13 dc13 pm13 an13 cd13 ct13), sl13⟩) (c13 : PySem.W.codeIn K cd13 "_law_stretch" = true) (k13 : PySem.W.keepIn K (.ref a13) = true)
    {a14 : Addr} {oc14 : Value} {od14 an14 : Option Addr} {sl14 : Array (Option Value)} {kV14 dc14 pm14 cd14 ct14 : Value}
    (n14 : PySem.W.nsIn K mainGlobals "_law_unit_names" = some (some (.ref a14))) (l14 : K.lookup a14 = some ⟨oc14, od14, .func (PySem.W.fnOf "_law_unit_names" "_law_unit_names" (defArgs s__law_unit_names) (defBody s__law_unit_names) (defScope s__law_unit_names) .none kV14 dc14 pm14 an14 cd14 ct14), sl14⟩) (c14 : PySem.W.codeIn K cd14 "_law_unit_names" = true) (k14 : PySem.W.keepIn K (.ref a14) = true)
    {a15 : Addr} {oc15 : Value} {od15 an15 : Option Addr} {sl15 : Array (Option Value)} {kV15 dc15 pm15 cd15 ct15 : Value}
    (n15 : PySem.W.nsIn K mainGlobals "_law_work" = some (some (.ref a15))) (l15 : K.lookup a15 = some ⟨oc15, od15, .func (PySem.W.fnOf "_law_work" "_law_work" (defArgs s__law_work) (defBody s__law_work) (defScope s__law_work) .none kV15 dc15 pm15 an15 cd15 ct15), sl15⟩) (c15 : PySem.W.codeIn K cd15 "_law_work" = true) (k15 : PySem.W.keepIn K (.ref a15) = true)
    {a16 : Addr} {oc16 : Value} {od16 an16 : Option Addr} {sl16 : Array (Option Value)} {kV16 dc16 pm16 cd16 ct16 : Value}
    (n16 : PySem.W.nsIn K mainGlobals "_law_machine" = some (some (.ref a16))) (l16 : K.lookup a16 = some ⟨oc16, od16, .func (PySem.W.fnOf "_law_machine" "_law_machine" (defArgs s__law_machine) (defBody s__law_machine) (defScope s__law_machine) .none kV16 dc16 pm16 an16 cd16 ct16), sl16⟩) (c16 : PySem.W.codeIn K cd16 "_law_machine" = true) (k16 : PySem.W.keepIn K (.ref a16) = true)
    {a17 : Addr} {oc17 : Value} {od17 an17 : Option Addr} {sl17 : Array (Option Value)} {kV17 dc17 pm17 cd17 ct17 : Value}
    (n17 : PySem.W.nsIn K mainGlobals "_law_row" = some (some (.ref a17))) (l17 : K.lookup a17 = some ⟨oc17, od17, .func (PySem.W.fnOf "_law_row" "_law_row" (defArgs s__law_row) (defBody s__law_row) (defScope s__law_row) .none kV17 dc17 pm17 an17 cd17 ct17), sl17⟩) (c17 : PySem.W.codeIn K cd17 "_law_row" = true) (k17 : PySem.W.keepIn K (.ref a17) = true)
    {a18 : Addr} {oc18 : Value} {od18 an18 : Option Addr} {sl18 : Array (Option Value)} {kV18 dc18 pm18 cd18 ct18 : Value}
    (n18 : PySem.W.nsIn K mainGlobals "_law_rows" = some (some (.ref a18))) (l18 : K.lookup a18 = some ⟨oc18, od18, .func (PySem.W.fnOf "_law_rows" "_law_rows" (defArgs s__law_rows) (defBody s__law_rows) (defScope s__law_rows) .none kV18 dc18 pm18 an18 cd18 ct18), sl18⟩) (c18 : PySem.W.codeIn K cd18 "_law_rows" = true) (k18 : PySem.W.keepIn K (.ref a18) = true)
    {a19 : Addr} {oc19 : Value} {od19 an19 : Option Addr} {sl19 : Array (Option Value)} {kV19 dc19 pm19 cd19 ct19 : Value}
    (n19 : PySem.W.nsIn K mainGlobals "law" = some (some (.ref a19))) (l19 : K.lookup a19 = some ⟨oc19, od19, .func (PySem.W.fnOf "law" "law" (defArgs s_law) (defBody s_law) (defScope s_law) .none kV19 dc19 pm19 an19 cd19 ct19), sl19⟩) (c19 : PySem.W.codeIn K cd19 "law" = true) (k19 : PySem.W.keepIn K (.ref a19) = true)
    (y_enumerate : PySem.W.nsIn K mainGlobals "enumerate" = some none)
    (y_int : PySem.W.nsIn K mainGlobals "int" = some none)
    (y_isinstance : PySem.W.nsIn K mainGlobals "isinstance" = some none)
    (y_len : PySem.W.nsIn K mainGlobals "len" = some none)
    (y_list : PySem.W.nsIn K mainGlobals "list" = some none)
    (y_min : PySem.W.nsIn K mainGlobals "min" = some none)
    (y_range : PySem.W.nsIn K mainGlobals "range" = some none)
    (y_str : PySem.W.nsIn K mainGlobals "str" = some none)
    (y_sum : PySem.W.nsIn K mainGlobals "sum" = some none)
    (y_tuple : PySem.W.nsIn K mainGlobals "tuple" = some none)
    (y_zip : PySem.W.nsIn K mainGlobals "zip" = some none)
    {ga_KINDS : Addr} {ge_KINDS : Array Value} {gn_KINDS : Nat} {gs_KINDS : Array (Option Value)} (gx_KINDS : PySem.W.nsIn K mainGlobals "KINDS" = some (some (.ref ga_KINDS))) (gl_KINDS : K.lookup ga_KINDS = some ⟨.type "tuple", none, .seq ge_KINDS gn_KINDS, gs_KINDS⟩) (gv_KINDS : StrsAre ge_KINDS.toList cs_KINDS) (gz_KINDS : ge_KINDS.size ≤ sizeLine)
    {gt_PART : Tok} (gx_PART : PySem.W.nsIn K mainGlobals "PART" = some (some (.int 1000000000000000000000000000000000000000000000000000000000000 gt_PART)))
    : ∃ fd : FuncData, (∀ (s : Shared) (v : Value), BindsTo s fd ⟨[v], []⟩ [("_law_script", v)]) ∧ ∀ base : Heap, K.In base → base.Ns mainGlobals mg → BltAt base mg → Codes [] K mg base → FnOk l.prog w K mg base CX0 6 fa fd ["_law_script"] (spM K 1 f_law) := by
  have e := hfa.symm.trans (PySem.W.mg_of X G n19)
  cases e
  have z_enumerate := PySem.W.mg_none_of X G y_enumerate
  have z_int := PySem.W.mg_none_of X G y_int
  have z_isinstance := PySem.W.mg_none_of X G y_isinstance
  have z_len := PySem.W.mg_none_of X G y_len
  have z_list := PySem.W.mg_none_of X G y_list
  have z_min := PySem.W.mg_none_of X G y_min
  have z_range := PySem.W.mg_none_of X G y_range
  have z_str := PySem.W.mg_none_of X G y_str
  have z_sum := PySem.W.mg_none_of X G y_sum
  have z_tuple := PySem.W.mg_none_of X G y_tuple
  have z_zip := PySem.W.mg_none_of X G y_zip
  have g_KINDS : Glob K mg "KINDS" c_KINDS := glob_tup X G gx_KINDS gl_KINDS gv_KINDS gz_KINDS
  have g_PART : Glob K mg "PART" c_PART := glob_int X G gx_PART
  have F0 := fun_mk (st := s_figures) l0 c0 k0
  have b0 := F0.binds (ps := ["number"]) fun _ _ _ _ _ _ us hl => match us, hl with | [_], _ => rfl
  have H0 : FF K mg "figures" s_figures ["number"] _ _ := ⟨F0, PySem.W.mg_of X G n0, b0⟩
  have F1 := fun_mk (st := s_row_of) l1 c1 k1
  have b1 := F1.binds (ps := ["words", "numbers"]) fun _ _ _ _ _ _ us hl => match us, hl with | [_, _], _ => rfl
  have H1 : FF K mg "row_of" s_row_of ["words", "numbers"] _ _ := ⟨F1, PySem.W.mg_of X G n1, b1⟩
  have F2 := fun_mk (st := s_show) l2 c2 k2
  have b2 := F2.binds (ps := ["machine", "stretch"]) fun _ _ _ _ _ _ us hl => match us, hl with | [_, _], _ => rfl
  have H2 : FF K mg "show" s_show ["machine", "stretch"] _ _ := ⟨F2, PySem.W.mg_of X G n2, b2⟩
  have F3 := fun_mk (st := s__law_deck) l3 c3 k3
  have b3 := F3.binds (ps := ["_law_script"]) fun _ _ _ _ _ _ us hl => match us, hl with | [_], _ => rfl
  have H3 : FF K mg "_law_deck" s__law_deck ["_law_script"] _ _ := ⟨F3, PySem.W.mg_of X G n3, b3⟩
  have F4 := fun_mk (st := s__law_mixed) l4 c4 k4
  have b4 := F4.binds (ps := ["_law_cell", "_law_k"]) fun _ _ _ _ _ _ us hl => match us, hl with | [_, _], _ => rfl
  have H4 : FF K mg "_law_mixed" s__law_mixed ["_law_cell", "_law_k"] _ _ := ⟨F4, PySem.W.mg_of X G n4, b4⟩
  have F5 := fun_mk (st := s__law_draw) l5 c5 k5
  have b5 := F5.binds (ps := ["_law_deck_here", "_law_most"]) fun _ _ _ _ _ _ us hl => match us, hl with | [_, _], _ => rfl
  have H5 : FF K mg "_law_draw" s__law_draw ["_law_deck_here", "_law_most"] _ _ := ⟨F5, PySem.W.mg_of X G n5, b5⟩
  have F6 := fun_mk (st := s__law_signs) l6 c6 k6
  have b6 := F6.binds (ps := ["_law_word"]) fun _ _ _ _ _ _ us hl => match us, hl with | [_], _ => rfl
  have H6 : FF K mg "_law_signs" s__law_signs ["_law_word"] _ _ := ⟨F6, PySem.W.mg_of X G n6, b6⟩
  have F7 := fun_mk (st := s__law_words) l7 c7 k7
  have b7 := F7.binds (ps := []) fun _ _ _ _ _ _ us hl => match us, hl with | [], _ => rfl
  have H7 : FF K mg "_law_words" s__law_words [] _ _ := ⟨F7, PySem.W.mg_of X G n7, b7⟩
  have F8 := fun_mk (st := s__law_number) l8 c8 k8
  have b8 := F8.binds (ps := ["_law_deck_here"]) fun _ _ _ _ _ _ us hl => match us, hl with | [_], _ => rfl
  have H8 : FF K mg "_law_number" s__law_number ["_law_deck_here"] _ _ := ⟨F8, PySem.W.mg_of X G n8, b8⟩
  have F9 := fun_mk (st := s__law_worth) l9 c9 k9
  have b9 := F9.binds (ps := ["_law_deck_here", "_law_there_here"]) fun _ _ _ _ _ _ us hl => match us, hl with | [_, _], _ => rfl
  have H9 : FF K mg "_law_worth" s__law_worth ["_law_deck_here", "_law_there_here"] _ _ := ⟨F9, PySem.W.mg_of X G n9, b9⟩
  have F10 := fun_mk (st := s__law_deed) l10 c10 k10
  have b10 := F10.binds (ps := ["_law_deck_here", "_law_menu_here", "_law_there_here"]) fun _ _ _ _ _ _ us hl => match us, hl with | [_, _, _], _ => rfl
  have H10 : FF K mg "_law_deed" s__law_deed ["_law_deck_here", "_law_menu_here", "_law_there_here"] _ _ := ⟨F10, PySem.W.mg_of X G n10, b10⟩
  have F11 := fun_mk (st := s__law_there) l11 c11 k11
  have b11 := F11.binds (ps := ["_law_stretch_here"]) fun _ _ _ _ _ _ us hl => match us, hl with | [_], _ => rfl
  have H11 : FF K mg "_law_there" s__law_there ["_law_stretch_here"] _ _ := ⟨F11, PySem.W.mg_of X G n11, b11⟩
  have F12 := fun_mk (st := s__law_menu) l12 c12 k12
  have b12 := F12.binds (ps := ["_law_deeds"]) fun _ _ _ _ _ _ us hl => match us, hl with | [_], _ => rfl
  have H12 : FF K mg "_law_menu" s__law_menu ["_law_deeds"] _ _ := ⟨F12, PySem.W.mg_of X G n12, b12⟩
  have F13 := fun_mk (st := s__law_stretch) l13 c13 k13
  have b13 := F13.binds (ps := ["_law_deck_here", "_law_many"]) fun _ _ _ _ _ _ us hl => match us, hl with | [_, _], _ => rfl
  have H13 : FF K mg "_law_stretch" s__law_stretch ["_law_deck_here", "_law_many"] _ _ := ⟨F13, PySem.W.mg_of X G n13, b13⟩
  have F14 := fun_mk (st := s__law_unit_names) l14 c14 k14
  have b14 := F14.binds (ps := ["_law_deck_here", "_law_many"]) fun _ _ _ _ _ _ us hl => match us, hl with | [_, _], _ => rfl
  have H14 : FF K mg "_law_unit_names" s__law_unit_names ["_law_deck_here", "_law_many"] _ _ := ⟨F14, PySem.W.mg_of X G n14, b14⟩
  have F15 := fun_mk (st := s__law_work) l15 c15 k15
  have b15 := F15.binds (ps := ["_law_deck_here", "_law_names", "_law_most"]) fun _ _ _ _ _ _ us hl => match us, hl with | [_, _, _], _ => rfl
  have H15 : FF K mg "_law_work" s__law_work ["_law_deck_here", "_law_names", "_law_most"] _ _ := ⟨F15, PySem.W.mg_of X G n15, b15⟩
  have F16 := fun_mk (st := s__law_machine) l16 c16 k16
  have b16 := F16.binds (ps := ["_law_deck_here", "_law_most"]) fun _ _ _ _ _ _ us hl => match us, hl with | [_, _], _ => rfl
  have H16 : FF K mg "_law_machine" s__law_machine ["_law_deck_here", "_law_most"] _ _ := ⟨F16, PySem.W.mg_of X G n16, b16⟩
  have F17 := fun_mk (st := s__law_row) l17 c17 k17
  have b17 := F17.binds (ps := ["_law_parts"]) fun _ _ _ _ _ _ us hl => match us, hl with | [_], _ => rfl
  have H17 : FF K mg "_law_row" s__law_row ["_law_parts"] _ _ := ⟨F17, PySem.W.mg_of X G n17, b17⟩
  have F18 := fun_mk (st := s__law_rows) l18 c18 k18
  have b18 := F18.binds (ps := ["_law_machine_here", "_law_stretch_here"]) fun _ _ _ _ _ _ us hl => match us, hl with | [_, _], _ => rfl
  have H18 : FF K mg "_law_rows" s__law_rows ["_law_machine_here", "_law_stretch_here"] _ _ := ⟨F18, PySem.W.mg_of X G n18, b18⟩
  have F19 := fun_mk (st := s_law) l19 c19 k19
  have b19 := F19.binds (ps := ["_law_script"]) fun _ _ _ _ _ _ us hl => match us, hl with | [_], _ => rfl
  have H19 : FF K mg "law" s_law ["_law_script"] _ _ := ⟨F19, PySem.W.mg_of X G n19, b19⟩
  refine ⟨PySem.W.fnOf "law" "law" (defArgs s_law) (defBody s_law) (defScope s_law) .none kV19 dc19 pm19 an19 cd19 ct19, fun s v => .of_eq rfl, fun base _ _ hB hCs => ?_⟩
  have d_figures__0 : Def l.prog w K mg base "figures" 1 ["number"] f_figures__0 := def_of H0 fn_none
  have d_figures__1 : Def l.prog w K mg base "figures" 2 ["number"] f_figures__1 := def_of H0 (ok_figures__1 F0 d_figures__0 z_str g_PART)
  have d_figures : Def l.prog w K mg base "figures" 3 ["number"] f_figures := def_of H0 (ok_figures F0 d_figures__1 z_str g_PART)
  have d_row_of : Def l.prog w K mg base "row_of" 4 ["words", "numbers"] f_row_of := def_of H1 (ok_row_of F1 d_figures z_list)
  have d_show : Def l.prog w K mg base "show" 5 ["machine", "stretch"] f_show := def_of H2 (ok_show F2 d_row_of z_zip g_KINDS)
  have d__law_deck : Def l.prog w K mg base "_law_deck" 1 ["_law_script"] f__law_deck := def_of H3 (ok__law_deck F3 z_len z_list z_sum)
  have d__law_mixed : Def l.prog w K mg base "_law_mixed" 1 ["_law_cell", "_law_k"] f__law_mixed := def_of H4 (ok__law_mixed F4)
  have d__law_draw : Def l.prog w K mg base "_law_draw" 2 ["_law_deck_here", "_law_most"] f__law_draw := def_of H5 (ok__law_draw F5 d__law_mixed)
  have d__law_signs : Def l.prog w K mg base "_law_signs" 1 ["_law_word"] f__law_signs := def_of H6 (ok__law_signs F6)
  have d__law_words : Def l.prog w K mg base "_law_words" 1 [] f__law_words := def_of H7 (ok__law_words F7)
  have d__law_number : Def l.prog w K mg base "_law_number" 3 ["_law_deck_here"] f__law_number := def_of H8 (ok__law_number F8 d__law_draw)
  have d__law_worth : Def l.prog w K mg base "_law_worth" 3 ["_law_deck_here", "_law_there_here"] f__law_worth := def_of H9 (ok__law_worth F9 d__law_draw z_len z_min)
  have d__law_deed : Def l.prog w K mg base "_law_deed" 4 ["_law_deck_here", "_law_menu_here", "_law_there_here"] f__law_deed := def_of H10 (ok__law_deed F10 d__law_draw d__law_number d__law_signs d__law_worth z_len z_tuple)
  have d__law_there : Def l.prog w K mg base "_law_there" 1 ["_law_stretch_here"] f__law_there := def_of H11 (ok__law_there F11 z_enumerate z_list z_range)
  have d__law_menu : Def l.prog w K mg base "_law_menu" 2 ["_law_deeds"] f__law_menu := def_of H12 (ok__law_menu F12 d__law_words z_len)
  have d__law_stretch : Def l.prog w K mg base "_law_stretch" 5 ["_law_deck_here", "_law_many"] f__law_stretch := def_of H13 (ok__law_stretch F13 d__law_deed d__law_draw d__law_menu d__law_there d__law_worth z_int z_range z_tuple)
  have d__law_unit_names : Def l.prog w K mg base "_law_unit_names" 3 ["_law_deck_here", "_law_many"] f__law_unit_names := def_of H14 (ok__law_unit_names F14 d__law_draw z_range)
  have d__law_work : Def l.prog w K mg base "_law_work" 3 ["_law_deck_here", "_law_names", "_law_most"] f__law_work := def_of H15 (ok__law_work F15 d__law_draw z_len)
  have d__law_machine : Def l.prog w K mg base "_law_machine" 4 ["_law_deck_here", "_law_most"] f__law_machine := def_of H16 (ok__law_machine F16 d__law_draw d__law_unit_names d__law_words d__law_work z_tuple)
  have d__law_row : Def l.prog w K mg base "_law_row" 1 ["_law_parts"] f__law_row := def_of H17 (ok__law_row F17 z_str)
  have d__law_rows : Def l.prog w K mg base "_law_rows" 2 ["_law_machine_here", "_law_stretch_here"] f__law_rows := def_of H18 (ok__law_rows F18 d__law_row d__law_words z_zip)
  exact ok_law F19 d__law_deck d__law_draw d__law_machine d__law_rows d__law_stretch d_show z_isinstance z_range z_str
theorem all_mkT {l : PySem.W.OpenLaw} {w : World} {K : PySem.W.Frag} {h : Heap} {mg : Str → Option Value} {fa : Addr} (X : K.In h) (G : h.Ns mainGlobals mg) (hfa : mg "law" = some (.ref fa)) {T : List (Addr × Array Value)} (hT : TabsIn K T) (hE : ∀ t ∈ T, t.2 = #[])
    {a0 : Addr} {oc0 : Value} {od0 an0 : Option Addr} {sl0 : Array (Option Value)} {kV0 dc0 pm0 cd0 ct0 : Value}
    (n0 : PySem.W.nsIn K mainGlobals "figures" = some (some (.ref a0))) (l0 : K.lookup a0 = some ⟨oc0, od0, .func (PySem.W.fnOf "figures" "figures" (defArgs s_figures) (defBody s_figures) (defScope s_figures) .none kV0 dc0 pm0 an0 cd0 ct0), sl0⟩) (c0 : PySem.W.codeIn K cd0 "figures" = true)
    {a1 : Addr} {oc1 : Value} {od1 an1 : Option Addr} {sl1 : Array (Option Value)} {kV1 dc1 pm1 cd1 ct1 : Value}
    (n1 : PySem.W.nsIn K mainGlobals "row_of" = some (some (.ref a1))) (l1 : K.lookup a1 = some ⟨oc1, od1, .func (PySem.W.fnOf "row_of" "row_of" (defArgs s_row_of) (defBody s_row_of) (defScope s_row_of) .none kV1 dc1 pm1 an1 cd1 ct1), sl1⟩) (c1 : PySem.W.codeIn K cd1 "row_of" = true)
    {a2 : Addr} {oc2 : Value} {od2 an2 : Option Addr} {sl2 : Array (Option Value)} {kV2 dc2 pm2 cd2 ct2 : Value}
    (n2 : PySem.W.nsIn K mainGlobals "show" = some (some (.ref a2))) (l2 : K.lookup a2 = some ⟨oc2, od2, .func (PySem.W.fnOf "show" "show" (defArgs s_show) (defBody s_show) (defScope s_show) .none kV2 dc2 pm2 an2 cd2 ct2), sl2⟩) (c2 : PySem.W.codeIn K cd2 "show" = true)
    {a3 : Addr} {oc3 : Value} {od3 an3 : Option Addr} {sl3 : Array (Option Value)} {kV3 dc3 pm3 cd3 ct3 : Value}
    (n3 : PySem.W.nsIn K mainGlobals "_law_deck" = some (some (.ref a3))) (l3 : K.lookup a3 = some ⟨oc3, od3, .func (PySem.W.fnOf "_law_deck" "_law_deck" (defArgs s__law_deck) (defBody s__law_deck) (defScope s__law_deck) .none kV3 dc3 pm3 an3 cd3 ct3), sl3⟩) (c3 : PySem.W.codeIn K cd3 "_law_deck" = true)
    {a4 : Addr} {oc4 : Value} {od4 an4 : Option Addr} {sl4 : Array (Option Value)} {kV4 dc4 pm4 cd4 ct4 : Value}
    (n4 : PySem.W.nsIn K mainGlobals "_law_mixed" = some (some (.ref a4))) (l4 : K.lookup a4 = some ⟨oc4, od4, .func (PySem.W.fnOf "_law_mixed" "_law_mixed" (defArgs s__law_mixed) (defBody s__law_mixed) (defScope s__law_mixed) .none kV4 dc4 pm4 an4 cd4 ct4), sl4⟩) (c4 : PySem.W.codeIn K cd4 "_law_mixed" = true)
    {a5 : Addr} {oc5 : Value} {od5 an5 : Option Addr} {sl5 : Array (Option Value)} {kV5 dc5 pm5 cd5 ct5 : Value}
    (n5 : PySem.W.nsIn K mainGlobals "_law_draw" = some (some (.ref a5))) (l5 : K.lookup a5 = some ⟨oc5, od5, .func (PySem.W.fnOf "_law_draw" "_law_draw" (defArgs s__law_draw) (defBody s__law_draw) (defScope s__law_draw) .none kV5 dc5 pm5 an5 cd5 ct5), sl5⟩) (c5 : PySem.W.codeIn K cd5 "_law_draw" = true)
    {a6 : Addr} {oc6 : Value} {od6 an6 : Option Addr} {sl6 : Array (Option Value)} {kV6 dc6 pm6 cd6 ct6 : Value}
    (n6 : PySem.W.nsIn K mainGlobals "_law_signs" = some (some (.ref a6))) (l6 : K.lookup a6 = some ⟨oc6, od6, .func (PySem.W.fnOf "_law_signs" "_law_signs" (defArgs s__law_signs) (defBody s__law_signs) (defScope s__law_signs) .none kV6 dc6 pm6 an6 cd6 ct6), sl6⟩) (c6 : PySem.W.codeIn K cd6 "_law_signs" = true)
    {a7 : Addr} {oc7 : Value} {od7 an7 : Option Addr} {sl7 : Array (Option Value)} {kV7 dc7 pm7 cd7 ct7 : Value}
    (n7 : PySem.W.nsIn K mainGlobals "_law_words" = some (some (.ref a7))) (l7 : K.lookup a7 = some ⟨oc7, od7, .func (PySem.W.fnOf "_law_words" "_law_words" (defArgs s__law_words) (defBody s__law_words) (defScope s__law_words) .none kV7 dc7 pm7 an7 cd7 ct7), sl7⟩) (c7 : PySem.W.codeIn K cd7 "_law_words" = true)
    {a8 : Addr} {oc8 : Value} {od8 an8 : Option Addr} {sl8 : Array (Option Value)} {kV8 dc8 pm8 cd8 ct8 : Value}
    (n8 : PySem.W.nsIn K mainGlobals "_law_number" = some (some (.ref a8))) (l8 : K.lookup a8 = some ⟨oc8, od8, .func (PySem.W.fnOf "_law_number" "_law_number" (defArgs s__law_number) (defBody s__law_number) (defScope s__law_number) .none kV8 dc8 pm8 an8 cd8 ct8), sl8⟩) (c8 : PySem.W.codeIn K cd8 "_law_number" = true)
    {a9 : Addr} {oc9 : Value} {od9 an9 : Option Addr} {sl9 : Array (Option Value)} {kV9 dc9 pm9 cd9 ct9 : Value}
    (n9 : PySem.W.nsIn K mainGlobals "_law_worth" = some (some (.ref a9))) (l9 : K.lookup a9 = some ⟨oc9, od9, .func (PySem.W.fnOf "_law_worth" "_law_worth" (defArgs s__law_worth) (defBody s__law_worth) (defScope s__law_worth) .none kV9 dc9 pm9 an9 cd9 ct9), sl9⟩) (c9 : PySem.W.codeIn K cd9 "_law_worth" = true)
    {a10 : Addr} {oc10 : Value} {od10 an10 : Option Addr} {sl10 : Array (Option Value)} {kV10 dc10 pm10 cd10 ct10 : Value}
    (n10 : PySem.W.nsIn K mainGlobals "_law_deed" = some (some (.ref a10))) (l10 : K.lookup a10 = some ⟨oc10, od10, .func (PySem.W.fnOf "_law_deed" "_law_deed" (defArgs s__law_deed) (defBody s__law_deed) (defScope s__law_deed) .none kV10 dc10 pm10 an10 cd10 ct10), sl10⟩) (c10 : PySem.W.codeIn K cd10 "_law_deed" = true)
    {a11 : Addr} {oc11 : Value} {od11 an11 : Option Addr} {sl11 : Array (Option Value)} {kV11 dc11 pm11 cd11 ct11 : Value}
    (n11 : PySem.W.nsIn K mainGlobals "_law_there" = some (some (.ref a11))) (l11 : K.lookup a11 = some ⟨oc11, od11, .func (PySem.W.fnOf "_law_there" "_law_there" (defArgs s__law_there) (defBody s__law_there) (defScope s__law_there) .none kV11 dc11 pm11 an11 cd11 ct11), sl11⟩) (c11 : PySem.W.codeIn K cd11 "_law_there" = true)
    {a12 : Addr} {oc12 : Value} {od12 an12 : Option Addr} {sl12 : Array (Option Value)} {kV12 dc12 pm12 cd12 ct12 : Value}
    (n12 : PySem.W.nsIn K mainGlobals "_law_menu" = some (some (.ref a12))) (l12 : K.lookup a12 = some ⟨oc12, od12, .func (PySem.W.fnOf "_law_menu" "_law_menu" (defArgs s__law_menu) (defBody s__law_menu) (defScope s__law_menu) .none kV12 dc12 pm12 an12 cd12 ct12), sl12⟩) (c12 : PySem.W.codeIn K cd12 "_law_menu" = true)
    {a13 : Addr} {oc13 : Value} {od13 an13 : Option Addr} {sl13 : Array (Option Value)} {kV13 dc13 pm13 cd13 ct13 : Value}
    (n13 : PySem.W.nsIn K mainGlobals "_law_stretch" = some (some (.ref a13))) (l13 : K.lookup a13 = some ⟨oc13, od13, .func (PySem.W.fnOf "_law_stretch" "_law_stretch" (defArgs s__law_stretch) (defBody s__law_stretch) (defScope s__law_stretch) .none kV13 dc13 pm13 an13 cd13 ct13), sl13⟩) (c13 : PySem.W.codeIn K cd13 "_law_stretch" = true)
    {a14 : Addr} {oc14 : Value} {od14 an14 : Option Addr} {sl14 : Array (Option Value)} {kV14 dc14 pm14 cd14 ct14 : Value}
    (n14 : PySem.W.nsIn K mainGlobals "_law_unit_names" = some (some (.ref a14))) (l14 : K.lookup a14 = some ⟨oc14, od14, .func (PySem.W.fnOf "_law_unit_names" "_law_unit_names" (defArgs s__law_unit_names) (defBody s__law_unit_names) (defScope s__law_unit_names) .none kV14 dc14 pm14 an14 cd14 ct14), sl14⟩) (c14 : PySem.W.codeIn K cd14 "_law_unit_names" = true)
    {a15 : Addr} {oc15 : Value} {od15 an15 : Option Addr} {sl15 : Array (Option Value)} {kV15 dc15 pm15 cd15 ct15 : Value}
    (n15 : PySem.W.nsIn K mainGlobals "_law_work" = some (some (.ref a15))) (l15 : K.lookup a15 = some ⟨oc15, od15, .func (PySem.W.fnOf "_law_work" "_law_work" (defArgs s__law_work) (defBody s__law_work) (defScope s__law_work) .none kV15 dc15 pm15 an15 cd15 ct15), sl15⟩) (c15 : PySem.W.codeIn K cd15 "_law_work" = true)
    {a16 : Addr} {oc16 : Value} {od16 an16 : Option Addr} {sl16 : Array (Option Value)} {kV16 dc16 pm16 cd16 ct16 : Value}
    (n16 : PySem.W.nsIn K mainGlobals "_law_machine" = some (some (.ref a16))) (l16 : K.lookup a16 = some ⟨oc16, od16, .func (PySem.W.fnOf "_law_machine" "_law_machine" (defArgs s__law_machine) (defBody s__law_machine) (defScope s__law_machine) .none kV16 dc16 pm16 an16 cd16 ct16), sl16⟩) (c16 : PySem.W.codeIn K cd16 "_law_machine" = true)
    {a17 : Addr} {oc17 : Value} {od17 an17 : Option Addr} {sl17 : Array (Option Value)} {kV17 dc17 pm17 cd17 ct17 : Value}
    (n17 : PySem.W.nsIn K mainGlobals "_law_row" = some (some (.ref a17))) (l17 : K.lookup a17 = some ⟨oc17, od17, .func (PySem.W.fnOf "_law_row" "_law_row" (defArgs s__law_row) (defBody s__law_row) (defScope s__law_row) .none kV17 dc17 pm17 an17 cd17 ct17), sl17⟩) (c17 : PySem.W.codeIn K cd17 "_law_row" = true)
    {a18 : Addr} {oc18 : Value} {od18 an18 : Option Addr} {sl18 : Array (Option Value)} {kV18 dc18 pm18 cd18 ct18 : Value}
    (n18 : PySem.W.nsIn K mainGlobals "_law_rows" = some (some (.ref a18))) (l18 : K.lookup a18 = some ⟨oc18, od18, .func (PySem.W.fnOf "_law_rows" "_law_rows" (defArgs s__law_rows) (defBody s__law_rows) (defScope s__law_rows) .none kV18 dc18 pm18 an18 cd18 ct18), sl18⟩) (c18 : PySem.W.codeIn K cd18 "_law_rows" = true)
    {a19 : Addr} {oc19 : Value} {od19 an19 : Option Addr} {sl19 : Array (Option Value)} {kV19 dc19 pm19 cd19 ct19 : Value}
    (n19 : PySem.W.nsIn K mainGlobals "law" = some (some (.ref a19))) (l19 : K.lookup a19 = some ⟨oc19, od19, .func (PySem.W.fnOf "law" "law" (defArgs s_law) (defBody s_law) (defScope s_law) .none kV19 dc19 pm19 an19 cd19 ct19), sl19⟩) (c19 : PySem.W.codeIn K cd19 "law" = true)
    (y_enumerate : PySem.W.nsIn K mainGlobals "enumerate" = some none)
    (y_int : PySem.W.nsIn K mainGlobals "int" = some none)
    (y_isinstance : PySem.W.nsIn K mainGlobals "isinstance" = some none)
    (y_len : PySem.W.nsIn K mainGlobals "len" = some none)
    (y_list : PySem.W.nsIn K mainGlobals "list" = some none)
    (y_min : PySem.W.nsIn K mainGlobals "min" = some none)
    (y_range : PySem.W.nsIn K mainGlobals "range" = some none)
    (y_str : PySem.W.nsIn K mainGlobals "str" = some none)
    (y_sum : PySem.W.nsIn K mainGlobals "sum" = some none)
    (y_tuple : PySem.W.nsIn K mainGlobals "tuple" = some none)
    (y_zip : PySem.W.nsIn K mainGlobals "zip" = some none)
    {ga_KINDS : Addr} {ge_KINDS : Array Value} {gn_KINDS : Nat} {gs_KINDS : Array (Option Value)} (gx_KINDS : PySem.W.nsIn K mainGlobals "KINDS" = some (some (.ref ga_KINDS))) (gl_KINDS : K.lookup ga_KINDS = some ⟨.type "tuple", none, .seq ge_KINDS gn_KINDS, gs_KINDS⟩) (gv_KINDS : StrsAre ge_KINDS.toList cs_KINDS) (gz_KINDS : ge_KINDS.size ≤ sizeLine)
    {gt_PART : Tok} (gx_PART : PySem.W.nsIn K mainGlobals "PART" = some (some (.int 1000000000000000000000000000000000000000000000000000000000000 gt_PART)))
    : ∃ fd : FuncData, (∃ x0 r0, PySem.W.nsIn K mainGlobals x0 = some r0) ∧ (∀ (s : Shared) (v : Value), BindsTo s fd ⟨[v], []⟩ [("_law_script", v)]) ∧ ∀ base : Heap, (cutK K T).In base → base.Ns mainGlobals mg → BltAt base mg → Codes [] (cutK K T) mg base → FnOk l.prog w (cutK K T) mg base CX0 6 fa fd ["_law_script"] (spM (cutK K T) 1 f_law) := by
  obtain ⟨fd, h1, h2⟩ := all_mk (l := l) (w := w) (K := cutK K T) (cut_in hT n19 X) G hfa (cut_ns hT n0) (cut_fn hT l0) (cut_code hT hE c0) (cut_keep hT l0) (cut_ns hT n1) (cut_fn hT l1) (cut_code hT hE c1) (cut_keep hT l1) (cut_ns hT n2) (cut_fn hT l2) (cut_code hT hE c2) (cut_keep hT l2) (cut_ns hT n3) (cut_fn hT l3) (cut_code hT hE c3) (cut_keep hT l3) (cut_ns hT n4) (cut_fn hT l4) (cut_code hT hE c4) (cut_keep hT l4) (cut_ns hT n5) (cut_fn hT l5) (cut_code hT hE c5) (cut_keep hT l5) (cut_ns hT n6) (cut_fn hT l6) (cut_code hT hE c6) (cut_keep hT l6) (cut_ns hT n7) (cut_fn hT l7) (cut_code hT hE c7) (cut_keep hT l7) (cut_ns hT n8) (cut_fn hT l8) (cut_code hT hE c8) (cut_keep hT l8) (cut_ns hT n9) (cut_fn hT l9) (cut_code hT hE c9) (cut_keep hT l9) (cut_ns hT n10) (cut_fn hT l10) (cut_code hT hE c10) (cut_keep hT l10) (cut_ns hT n11) (cut_fn hT l11) (cut_code hT hE c11) (cut_keep hT l11) (cut_ns hT n12) (cut_fn hT l12) (cut_code hT hE c12) (cut_keep hT l12) (cut_ns hT n13) (cut_fn hT l13) (cut_code hT hE c13) (cut_keep hT l13) (cut_ns hT n14) (cut_fn hT l14) (cut_code hT hE c14) (cut_keep hT l14) (cut_ns hT n15) (cut_fn hT l15) (cut_code hT hE c15) (cut_keep hT l15) (cut_ns hT n16) (cut_fn hT l16) (cut_code hT hE c16) (cut_keep hT l16) (cut_ns hT n17) (cut_fn hT l17) (cut_code hT hE c17) (cut_keep hT l17) (cut_ns hT n18) (cut_fn hT l18) (cut_code hT hE c18) (cut_keep hT l18) (cut_ns hT n19) (cut_fn hT l19) (cut_code hT hE c19) (cut_keep hT l19) (cut_ns hT y_enumerate) (cut_ns hT y_int) (cut_ns hT y_isinstance) (cut_ns hT y_len) (cut_ns hT y_list) (cut_ns hT y_min) (cut_ns hT y_range) (cut_ns hT y_str) (cut_ns hT y_sum) (cut_ns hT y_tuple) (cut_ns hT y_zip) (cut_ns hT gx_KINDS) (cut_get hT gl_KINDS (by intro ps z; cases z)) gv_KINDS gz_KINDS (cut_ns hT gx_PART)
  exact ⟨fd, ⟨_, _, n19⟩, h1, h2⟩
end Lk77
open PySem PySem.W PyProof.Rows
set_option maxRecDepth 100000 in
set_option maxHeartbeats 0 in
theorem PySem.Challenge.cw_widerows_k77_texts_written_holds : PySem.Challenge.rw_widerows_k77_texts_written.Holds := by
  w_on; o_law; k_head; (case hw => w_witness2)
  k_fill
  refine Mir.law_walkT [] (l := PySem.Challenge.rw_widerows_k77_texts_written) (k := 6) (x := "_law_script") rfl rfl ⟨rfl, by decide, by decide⟩ (by decide +kernel) (fun w h Y => PySem.W.kIn_of Y) ?F Lk77.law_ok
  case F =>
    intro w mg fa h T KX G hmg hT hE
    refine' Lk77.all_mkT KX G hmg hT hE ?n0 ?l0 ?c0 ?n1 ?l1 ?c1 ?n2 ?l2 ?c2 ?n3 ?l3 ?c3 ?n4 ?l4 ?c4 ?n5 ?l5 ?c5 ?n6 ?l6 ?c6 ?n7 ?l7 ?c7 ?n8 ?l8 ?c8 ?n9 ?l9 ?c9 ?n10 ?l10 ?c10 ?n11 ?l11 ?c11 ?n12 ?l12 ?c12 ?n13 ?l13 ?c13 ?n14 ?l14 ?c14 ?n15 ?l15 ?c15 ?n16 ?l16 ?c16 ?n17 ?l17 ?c17 ?n18 ?l18 ?c18 ?n19 ?l19 ?c19 ?y_enumerate ?y_int ?y_isinstance ?y_len ?y_list ?y_min ?y_range ?y_str ?y_sum ?y_tuple ?y_zip ?gx_KINDS ?gl_KINDS ?gv_KINDS ?gz_KINDS ?gx_PART
    (case n0 => k_is); (case l0 => k_is); (case c0 => k_is)
    (case n1 => k_is); (case l1 => k_is); (case c1 => k_is)
    (case n2 => k_is); (case l2 => k_is); (case c2 => k_is)
    (case n3 => k_is); (case l3 => k_is); (case c3 => k_is)
    (case n4 => k_is); (case l4 => k_is); (case c4 => k_is)
    (case n5 => k_is); (case l5 => k_is); (case c5 => k_is)
    (case n6 => k_is); (case l6 => k_is); (case c6 => k_is)
    (case n7 => k_is); (case l7 => k_is); (case c7 => k_is)
    (case n8 => k_is); (case l8 => k_is); (case c8 => k_is)
    (case n9 => k_is); (case l9 => k_is); (case c9 => k_is)
    (case n10 => k_is); (case l10 => k_is); (case c10 => k_is)
    (case n11 => k_is); (case l11 => k_is); (case c11 => k_is)
    (case n12 => k_is); (case l12 => k_is); (case c12 => k_is)
    (case n13 => k_is); (case l13 => k_is); (case c13 => k_is)
    (case n14 => k_is); (case l14 => k_is); (case c14 => k_is)
    (case n15 => k_is); (case l15 => k_is); (case c15 => k_is)
    (case n16 => k_is); (case l16 => k_is); (case c16 => k_is)
    (case n17 => k_is); (case l17 => k_is); (case c17 => k_is)
    (case n18 => k_is); (case l18 => k_is); (case c18 => k_is)
    (case n19 => k_is); (case l19 => k_is); (case c19 => k_is)
    (case y_enumerate => k_is)
    (case y_int => k_is)
    (case y_isinstance => k_is)
    (case y_len => k_is)
    (case y_list => k_is)
    (case y_min => k_is)
    (case y_range => k_is)
    (case y_str => k_is)
    (case y_sum => k_is)
    (case y_tuple => k_is)
    (case y_zip => k_is)
    (case gx_KINDS => k_is); (case gl_KINDS => k_is)
    (case gv_KINDS => (repeat (first | exact trivial | refine ⟨⟨_, rfl⟩, ?_⟩))); (case gz_KINDS => (show _ ≤ _; decide))
    (case gx_PART => k_is)

