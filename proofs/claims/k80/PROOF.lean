import PyProof.Rows.All
import Wide.All
import OpenK.AllK
import Wide.FinOn
import Lean
import PyProof.EqAt
import PyProof.EqKinds
import PyProof.TupleCall
import PyProof.NeKinds
import PyProof.Rows.SortWalk
import PySem.Challenge.RW_unlikesteps_k80_lays_turned
-- part PL
-- CHANGE: your row's module here, as the last of these rows
set_option Elab.async false
set_option linter.all false
set_option maxRecDepth 100000
/-! THE HAND LAYER, for ints, bools, texts, own classes, LISTS and tuples (index, slices, in, append, pop ..), calls, loops. Paste it whole ahead of your own text; what your proof does not reach may be deleted. -/
namespace L2
open PySem PySem.Spec PyProof.Rows

/-- a key: an int or a str -/
abbrev Key := Sum Int Str
def keyIs : Key → Value → Bool
  | .inl k, v => Value.isInt k v
  | .inr x, v => Value.isStrOf x v
def keyH (w : World) : Key → Int
  | .inl k => hashInt k
  | .inr x => hashStr w x
theorem keyIs_shape : ∀ {k : Key} {v : Value}, keyIs k v = true → (∃ i t, k = Sum.inl i ∧ v = Value.int i t) ∨ (∃ x t, k = Sum.inr x ∧ v = Value.str x t)
  | .inl i, v, h => by
    obtain ⟨t, e⟩ := Value.isInt_shape (k := i) (v := v) h
    exact .inl ⟨i, t, rfl, e⟩
  | .inr x, v, h => by
    obtain ⟨t, e⟩ := Value.isStrOf_shape (x := x) (v := v) h
    exact .inr ⟨x, t, rfl, e⟩
theorem keyIs_int (i : Int) (t : Tok) : keyIs (.inl i) (.int i t) = true := by simp [keyIs, Value.isInt]
theorem keyIs_str (x : Str) (t : Tok) : keyIs (.inr x) (.str x t) = true := by simp [keyIs, Value.isStrOf]
theorem key_ll (a b : Int) : decide ((Sum.inl a : Key) = Sum.inl b) = (a == b) := by
  by_cases e : a = b
  · subst e; simp
  · have h : ¬ (Sum.inl a : Key) = Sum.inl b := fun q => e (Sum.inl.inj q)
    rw [decide_eq_false h]
    exact (beq_eq_false_iff_ne.mpr e).symm
theorem key_rr (a b : Str) : decide ((Sum.inr a : Key) = Sum.inr b) = decide (a = b) := by
  by_cases e : a = b
  · subst e; simp
  · have h : ¬ (Sum.inr a : Key) = Sum.inr b := fun q => e (Sum.inr.inj q)
    rw [decide_eq_false h, decide_eq_false e]
theorem key_lr (a : Int) (b : Str) : decide ((Sum.inl a : Key) = Sum.inr b) = false := decide_eq_false (fun q => nomatch q)
theorem key_rl (a : Str) (b : Int) : decide ((Sum.inr a : Key) = Sum.inl b) = false := decide_eq_false (fun q => nomatch q)

def mixKind (prog : Program) (w : World) : PySem.KeyKind prog w Key where
  is := keyIs
  hash := keyH w
  inj := fun v a b ha hb => by
    rcases keyIs_shape ha with ⟨i, t, rfl, rfl⟩ | ⟨x, t, rfl, rfl⟩
    · rcases keyIs_shape hb with ⟨j, u, rfl, e⟩ | ⟨y, u, rfl, e⟩
      · injection e with e1 _; rw [e1]
      · exact nomatch e
    · rcases keyIs_shape hb with ⟨j, u, rfl, e⟩ | ⟨y, u, rfl, e⟩
      · exact nomatch e
      · injection e with e1 _; rw [e1]
  byValue := fun k v h => by
    rcases keyIs_shape h with ⟨i, t, rfl, rfl⟩ | ⟨x, t, rfl, rfl⟩ <;> rfl
  pyHash := fun hv h => by
    rcases keyIs_shape hv with ⟨i, t, rfl, rfl⟩ | ⟨x, t, rfl, rfl⟩
    · exact wpAny_pyHash_int h
    · exact wpAny_pyHash_str h
  eqBool := fun hu hv h => by
    rcases keyIs_shape hu with ⟨i, t, rfl, rfl⟩ | ⟨x, t, rfl, rfl⟩
    · rcases keyIs_shape hv with ⟨j, u, rfl, rfl⟩ | ⟨y, u, rfl, rfl⟩
      · rw [key_ll] at h; exact wpAny_eqBool_int h
      · rw [key_lr] at h; exact SeqAt.EqAt.int_str i t y u _ _ _ _ h
    · rcases keyIs_shape hv with ⟨j, u, rfl, rfl⟩ | ⟨y, u, rfl, rfl⟩
      · rw [key_rl] at h; exact SeqAt.EqAt.str_int x t j u _ _ _ _ h
      · rw [key_rr] at h; exact wpAny_eqBool_str h
  «strs» := fun k x t v h => by
    rcases keyIs_shape h with ⟨i, u, rfl, e⟩ | ⟨y, u, rfl, e⟩
    · exact nomatch e
    · injection e with e1 _
      subst e1
      cases v <;> rfl

theorem mixKind_int (prog : Program) (w : World) (i : Int) (t : Tok) : (mixKind prog w).is (.inl i) (.int i t) = true := keyIs_int i t
theorem mixKind_str (prog : Program) (w : World) (x : Str) (t : Tok) : (mixKind prog w).is (.inr x) (.str x t) = true := keyIs_str x t
end L2

namespace L2
open PySem PySem.Spec PyProof.Rows

/-- a value, without the heap -/
inductive V where
  | non | bl (b : Bool) | int (i : Int) | str (x : Str) | byt (b : Array UInt8) | flt (b : UInt64) | ref (a : Addr) | ty (n : String)
  deriving DecidableEq

def RelV : V → Value → Prop
  | .non, u => u = Value.none
  | .bl b, u => u = Value.bool b
  | .int i, u => ∃ t, u = Value.int i t
  | .str x, u => ∃ t, u = Value.str x t
  | .byt b, u => ∃ t, u = Value.bytes b t
  | .flt b, u => ∃ t, u = Value.float b t
  | .ref a, u => u = Value.ref a
  | .ty n, u => u = Value.type n

abbrev Vals : List V → List Value → Prop := Paired RelV
theorem Vals.length {xs : List V} {us : List Value} (r : Vals xs us) : xs.length = us.length := Paired.length r
theorem Vals.get : ∀ {xs : List V} {us : List Value} {i : Nat} {x : V}, Vals xs us → xs[i]? = some x → ∃ u, us[i]? = some u ∧ RelV x u
  | _, _, _, _, .nil, e => by simp at e
  | _, _, 0, _, .cons r _, e => by simp at e; subst e; exact ⟨_, rfl, r⟩
  | _, _, i + 1, x, .cons _ t, e => by
    obtain ⟨u, h1, h2⟩ := Vals.get (i := i) (x := x) t (by simpa using e)
    exact ⟨u, by simpa using h1, h2⟩
theorem Vals.set {x : V} {u : Value} (r : RelV x u) : ∀ {xs : List V} {us : List Value} (i : Nat), Vals xs us → Vals (xs.set i x) (us.set i u)
  | _, _, _, .nil => .nil
  | _, _, 0, .cons _ t => .cons r t
  | _, _, i + 1, .cons q t => .cons q (Vals.set r i t)
theorem Vals.append : ∀ {xs ys : List V} {us ws : List Value}, Vals xs us → Vals ys ws → Vals (xs ++ ys) (us ++ ws)
  | _, _, _, _, .nil, s => s
  | _, _, _, _, .cons r t, s => .cons r (Vals.append t s)
theorem Vals.take : ∀ {xs : List V} {us : List Value} (n : Nat), Vals xs us → Vals (xs.take n) (us.take n)
  | _, _, 0, _ => .nil
  | _, _, _ + 1, .nil => .nil
  | _, _, n + 1, .cons r t => .cons r (Vals.take n t)
theorem Vals.drop : ∀ {xs : List V} {us : List Value} (n : Nat), Vals xs us → Vals (xs.drop n) (us.drop n)
  | _, _, 0, r => r
  | _, _, _ + 1, .nil => .nil
  | _, _, n + 1, .cons _ t => Vals.drop n t
def RelO : Option V → Option Value → Prop
  | some v, some u => RelV v u
  | none, none => True
  | _, _ => False
def KV {κ : Type} : List (κ × V) → List (κ × Value) → Prop := Paired fun (p : κ × V) (q : κ × Value) => p.1 = q.1 ∧ RelV p.2 q.2

/-- a key of a dict (00_mix): an int or a text -/
def kV : Key → V
  | .inl i => .int i
  | .inr x => .str x

/-- what stands at a tracked address -/
inductive HO where
  /-- a list -/
  | lst (xs : List V)
  /-- a tuple (never changes) -/
  | tup (xs : List V)
  /-- a tuple of which no more is known than its items (a pair out of zip or enumerate) -/
  | par (xs : List V)
  /-- a dict whose keys are ints and texts; one whose keys are tuples of ints and texts (the empty one is both) -/
  | dK (kvs : List (Key × V)) | dT (kvs : List (List Key × V))
  /-- a set of ints: its members, its size -/
  | set (S : Int → Bool) (n : Nat)
  /-- an instance of the class at C, its dict at dx, its attributes -/
  | ins (C dx : Addr) (fs : List (Str × V))
  /-- the dict of the instance at x -/
  | own (x : Addr)
  /-- the dict of an exception -/
  | xd (fs : List (Str × V))
  /-- a bound method, f of x -/
  | met (f x : Addr)
  /-- a range object lo, lo + 1, .. below hi -/
  | rng (lo hi : Int)
  /-- a thing that is known to the object (the script; a dict while a loop walks it): read, never written while it is so -/
  | frz (o : Obj) (u : HO)
  /-- a code object's table -/
  | tbl (ps : Array Value)
  /-- any other thing, by what is true of its one object (a def of one's own: SetO a S n := HO.ext fun h => ..) -/
  | ext (φ : Heap → Prop)

abbrev Hp := Addr → Option HO
def upd (H : Hp) (a : Addr) (o : HO) : Hp := fun b => if b = a then some o else H b
theorem upd_same {H : Hp} {a : Addr} {o : HO} : upd H a o a = some o := by unfold upd; rw [if_pos rfl]
theorem upd_ne {H : Hp} {a b : Addr} {o : HO} (h : b ≠ a) : upd H a o b = H b := by unfold upd; rw [if_neg h]
/-- two objects of different content stand apart -/
theorem ne_of {H : Hp} {a b : Addr} {o u : HO} (h : H a = some o) (h' : H b = some u) (d : o ≠ u) : a ≠ b := by
  intro e; subst e; rw [h] at h'; exact d (Option.some.inj h')
theorem ne_of_none {H : Hp} {a b : Addr} {o : HO} (h : H a = some o) (h' : H b = none) : a ≠ b := by
  intro e; subst e; rw [h] at h'; cases h'

section
variable (P : Program) (w : World)
def ObjOk (H : Hp) (h : Heap) (a : Addr) : HO → Prop
  | .lst xs => xs.length ≤ sizeLine ∧ ∃ (its : List Value) (n : Nat), Vals xs its ∧ h.get? a = some { cls := .type "list", data := .seq its.toArray n }
  | .tup xs => xs.length ≤ sizeLine ∧ ∃ its : List Value, Vals xs its ∧ IsTup h a its.toArray ∧ ∃ o, h.get? a = some o ∧ o.dict = none
  | .par xs => xs.length ≤ sizeLine ∧ ∃ its : List Value, Vals xs its ∧ IsTup h a its.toArray
  | .dK kvs => kvs.length ≤ sizeLine ∧ (a == sysModules) = false ∧ ∃ vs, KV kvs vs ∧ h.DictOf (mixKind P w) a vs
  | .dT kvs => kvs.length ≤ sizeLine ∧ (a == sysModules) = false ∧ ∃ xs : List (List Key × Addr × Value),
      Paired (fun (p : List Key × V) (q : List Key × Addr × Value) => p.1 = q.1 ∧ H q.2.1 = some (.tup (p.1.map kV)) ∧ RelV p.2 q.2.2) kvs xs ∧
      ∃ o es ep, h.get? a = some o ∧ o.ExactDict ∧ o.data = .dict es ep ∧ es.toList = xs.map (entryOfKey (tupleKind (mixKind P w))) ∧ (xs.map (·.1)).Nodup
  | .set S n => h.SetOf (intKind P w) a S n
  | .ins C dx fs => H dx = some (.own a) ∧ fs.length ≤ 1000 ∧ dx ≠ a ∧ h.get? a = some (PySem.W.instObj C dx) ∧
      ∃ mA, h.Ns1 dx mA ∧ (∀ f, RelO (fs.lookup f) (mA f)) ∧ PySem.Within mA (fs.map (·.1))
  | .own _ => ∃ o, h.get? a = some o
  | .xd fs => ∃ mA, h.Ns1 a mA ∧ ∀ f, RelO (fs.lookup f) (mA f)
  | .rng lo hi => ∃ t u v, h.get? a = some { cls := .type "range", data := .fields #[.int lo t, .int hi u, .int 1 v] }
  | .frz o u => h.get? a = some o ∧ ObjOk H h a u
  | .tbl ps => h.get? a = some { cls := .none, data := .fields ps }
  | .met f x => h.get? a = some (PySem.W.methodObj (.ref f) (.ref x))
  | .ext φ => φ h ∧ (∃ o, h.get? a = some o) ∧ ∀ h1 h2 : Heap, φ h1 → (∀ o, h1.get? a = some o → h2.get? a = some o) → φ h2
/-- the abstract heap is held -/
def HOk (H : Hp) (h : Heap) : Prop := ∀ a o, H a = some o → ObjOk P w H h a o
end

section
variable {P : Program} {w : World} {H H' : Hp} {h h' : Heap} {a : Addr} {o : HO}
theorem ObjOk.lt (x : ObjOk P w H h a o) : a < h.objs.size := by
  cases o with
  | lst xs => obtain ⟨_, _, _, _, e⟩ := x; exact Heap.lt_size e
  | tup xs => obtain ⟨_, _, _, p, _⟩ := x; exact p.lt
  | par xs => obtain ⟨_, _, _, p⟩ := x; exact p.lt
  | dK kvs => obtain ⟨_, _, _, _, o, _, _, e, _⟩ := x; exact Heap.lt_size e
  | dT kvs => obtain ⟨_, _, _, _, o, _, _, e, _⟩ := x; exact Heap.lt_size e
  | set S n => obtain ⟨o, _, _, _, e, _⟩ := x; exact Heap.lt_size e
  | ins C dx fs => obtain ⟨_, _, _, e, _⟩ := x; exact Heap.lt_size e
  | own y => obtain ⟨_, e⟩ := x; exact Heap.lt_size e
  | xd fs => obtain ⟨_, ⟨_, _, _, e, _⟩, _⟩ := x; exact Heap.lt_size e
  | rng lo hi => obtain ⟨_, _, _, e⟩ := x; exact Heap.lt_size e
  | frz ob u => obtain ⟨e, _⟩ := x; exact Heap.lt_size e
  | tbl ps => exact Heap.lt_size (show h.get? a = some _ from x)
  | met f y => exact Heap.lt_size (show h.get? a = some _ from x)
  | ext φ => obtain ⟨_, ⟨_, e⟩, _⟩ := x; exact Heap.lt_size e
theorem Paired.mapP {α β : Type} {F G : α → β → Prop} : ∀ {l₁ : List α} {l₂ : List β}, Paired F l₁ l₂ → (∀ a b, F a b → G a b) → Paired G l₁ l₂
  | _, _, .nil, _ => .nil
  | _, _, .cons r t, f => .cons (f _ _ r) (Paired.mapP t f)
/-- what an object's description leans on: its own object, its own dict, the tuples -/
theorem ObjOk.stay (x : ObjOk P w H h a o) (k : ∀ b u, (b = a ∨ H b = some (.own a)) → h.get? b = some u → h'.get? b = some u)
    (ho : ∀ b, H b = some (.own a) → H' b = some (.own a)) (ht : ∀ b xs, H b = some (.tup xs) → H' b = some (.tup xs)) : ObjOk P w H' h' a o := by
  induction o with
  | lst xs => obtain ⟨z, its, n, r, e⟩ := x; exact ⟨z, its, n, r, k _ _ (.inl rfl) e⟩
  | tup xs => obtain ⟨z, its, r, ⟨ob, e, c⟩, o2, e2, c2⟩ := x; exact ⟨z, its, r, ⟨ob, k _ _ (.inl rfl) e, c⟩, o2, k _ _ (.inl rfl) e2, c2⟩
  | par xs => obtain ⟨z, its, r, ob, e, c⟩ := x; exact ⟨z, its, r, ob, k _ _ (.inl rfl) e, c⟩
  | dK kvs => obtain ⟨z, y, vs, r, ob, es, ep, e, c⟩ := x; exact ⟨z, y, vs, r, ob, es, ep, k _ _ (.inl rfl) e, c⟩
  | dT kvs =>
    obtain ⟨z, y, xs, r, ob, es, ep, e, c⟩ := x
    exact ⟨z, y, xs, Paired.mapP r fun p q z => ⟨z.1, ht _ _ z.2.1, z.2.2⟩, ob, es, ep, k _ _ (.inl rfl) e, c⟩
  | set S n => obtain ⟨ob, es, ep, t, e, c⟩ := x; exact ⟨ob, es, ep, t, k _ _ (.inl rfl) e, c⟩
  | ins C dx fs =>
    obtain ⟨d, z, ne, e, mA, ⟨od, es, ep, e2, c⟩, r⟩ := x
    exact ⟨ho _ d, z, ne, k _ _ (.inl rfl) e, mA, ⟨od, es, ep, k _ _ (.inr d) e2, c⟩, r⟩
  | own y => obtain ⟨ob, e⟩ := x; exact ⟨ob, k _ _ (.inl rfl) e⟩
  | xd fs => obtain ⟨mA, ⟨od, es, ep, e, c⟩, r⟩ := x; exact ⟨mA, ⟨od, es, ep, k _ _ (.inl rfl) e, c⟩, r⟩
  | rng lo hi => obtain ⟨t, u, v, e⟩ := x; exact ⟨t, u, v, k _ _ (.inl rfl) e⟩
  | frz ob u ih => obtain ⟨e, q⟩ := x; exact ⟨k _ _ (.inl rfl) e, ih q⟩
  | tbl ps =>
    have e : h.get? a = some { cls := .none, data := .fields ps } := x
    show h'.get? a = some { cls := .none, data := .fields ps }
    exact k a _ (.inl rfl) e
  | met f y =>
    have e : h.get? a = some (PySem.W.methodObj (.ref f) (.ref y)) := x
    show h'.get? a = some (PySem.W.methodObj (.ref f) (.ref y))
    exact k a _ (.inl rfl) e
  | ext φ => obtain ⟨p, ⟨o, e⟩, st⟩ := x; exact ⟨st _ _ p fun o q => k _ _ (.inl rfl) q, ⟨o, k _ _ (.inl rfl) e⟩, st⟩
theorem HOk.lt (x : HOk P w H h) (e : H a = some o) : a < h.objs.size := (x a o e).lt
theorem HOk.fresh (x : HOk P w H h) (e : h.objs.size ≤ a) : H a = none := by
  cases q : H a with
  | none => rfl
  | some u => exact absurd (Nat.lt_of_lt_of_le (x.lt q) e) (Nat.lt_irrefl _)
/-- every object of the heap is kept -/
theorem HOk.kept (x : HOk P w H h) (k : ∀ b u, h.get? b = some u → h'.get? b = some u) : HOk P w H h' := fun a o e =>
  (x a o e).stay (fun b u _ q => k b u q) (fun _ q => q) fun _ _ q => q
/-- a new object is laid and tracked -/
theorem HOk.laid (x : HOk P w H h) (k : ∀ b u, h.get? b = some u → h'.get? b = some u) (hp : h.objs.size ≤ a) (new : ObjOk P w (upd H a o) h' a o) : HOk P w (upd H a o) h' := fun b u e => by
  have hn := x.fresh hp
  by_cases hb : b = a
  · subst hb; rw [upd_same] at e; cases e; exact new
  · rw [upd_ne hb] at e
    exact (x b u e).stay (fun c v _ q => k c v q) (fun c q => by rw [upd_ne (ne_of_none q hn)]; exact q) fun c xs q => by rw [upd_ne (ne_of_none q hn)]; exact q
end

/-- what may be read as u: it is u, or a known u -/
def Rd (H : Hp) (a : Addr) (u : HO) : Prop := H a = some u ∨ ∃ o, H a = some (.frz o u)
theorem Rd.ok {P : Program} {w : World} {H : Hp} {h : Heap} {a : Addr} {u : HO} (r : Rd H a u) (x : HOk P w H h) : ObjOk P w H h a u := by
  rcases r with r | ⟨o, r⟩
  · exact x a u r
  · obtain ⟨_, q⟩ := x a _ r
    exact q
/-- what may be written -/
def Mut : Option HO → Prop
  | some (.lst _) => True
  | some (.dK _) => True
  | some (.dT _) => True
  | some (.set _ _) => True
  | some (.ins _ _ _) => True
  | some (.ext _) => True
  | _ => False
section
variable {P : Program} {w : World} {H : Hp} {h h' : Heap} {x e : Addr} {o' : HO}
/-- the object at e is changed: x itself, or the dict of the instance x -/
theorem HOk.write (ok : HOk P w H h) (mu : Mut (H x)) (he : e = x ∨ H e = some (.own x)) (k : ∀ b u, b ≠ e → h.get? b = some u → h'.get? b = some u) (heo : ∃ u, h'.get? e = some u)
    (new : ObjOk P w (upd H x o') h' x o') : HOk P w (upd H x o') h' := fun b u q => by
  have nown : ∀ c y, H c = some (.own y) → c ≠ x := fun c y r z => by subst z; rw [r] at mu; exact mu
  have ntup : ∀ c xs, H c = some (.tup xs) → c ≠ x := fun c xs r z => by subst z; rw [r] at mu; exact mu
  by_cases hb : b = x
  · subst hb; rw [upd_same] at q; cases q; exact new
  · rw [upd_ne hb] at q
    by_cases hbe : b = e
    · have q' : H b = some (.own x) := by
        rcases he with z | z
        · exact absurd (hbe.trans z) hb
        · rw [hbe]; exact z
      rw [q] at q'; cases q'
      obtain ⟨v, hv⟩ := heo
      exact ⟨v, by rw [hbe]; exact hv⟩
    · refine (ok b u q).stay (fun c v hc r => k c v ?_ r) (fun c r => by rw [upd_ne (nown c b r)]; exact r) fun c xs r => by rw [upd_ne (ntup c xs r)]; exact r
      rcases hc with rfl | hc
      · exact hbe
      · rintro rfl
        rcases he with z | z
        · exact nown c b hc z
        · rw [hc] at z; cases z; exact hb rfl
end

/-! ### kept unless tracked; of the frames at fs (the callers') the slots may change (an exception that passes writes there); of the records at ex (iterators) nothing is said -/
structure Un (fs ex : List Addr) (H H' : Hp) (h h' : Heap) : Prop where
  keep : ∀ b o, h.get? b = some o → H b = none → b ∉ fs → b ∉ ex → h'.get? b = some o
  slot : ∀ b o, h.get? b = some o → H b = none → b ∈ fs → b ∉ ex → ∃ sl, h'.get? b = some { o with slots := sl }
  free : ∀ b o, h.get? b = some o → H b = none → b ∉ ex → H' b = none
  there : ∀ b o, h.get? b = some o → b ∉ ex → ∃ o', h'.get? b = some o'
  tups : ∀ b xs, H b = some (.tup xs) → H' b = some (.tup xs)
  frzs : ∀ b o u, H b = some (.frz o u) → H' b = some (.frz o u)
  tbls : ∀ b ps, H b = some (.tbl ps) → ∃ more, H' b = some (.tbl (ps ++ more))
section
variable {fs fs' ex ex' : List Addr} {H H1 H2 : Hp} {h h1 h2 h' : Heap} {a x e : Addr} {o : HO}
theorem Un.any (u : Un fs ex H H1 h h1) {b : Addr} {ob : Obj} (q : h.get? b = some ob) (n : H b = none) (hx : b ∉ ex) : ∃ sl, h1.get? b = some { ob with slots := sl } := by
  by_cases hb : b ∈ fs
  · exact u.slot b ob q n hb hx
  · exact ⟨ob.slots, u.keep b ob q n hb hx⟩
theorem Un.kept (k : ∀ b u, h.get? b = some u → h'.get? b = some u) : Un fs ex H H h h' :=
  ⟨fun b ob q _ _ _ => k b ob q, fun b ob q _ _ _ => ⟨ob.slots, k b ob q⟩, fun _ _ _ n _ => n, fun b ob q _ => ⟨ob, k b ob q⟩, fun _ _ q => q, fun _ _ _ q => q, fun _ ps q => ⟨#[], by rw [q]; simp⟩⟩
theorem Un.refl : Un fs ex H H h h := Un.kept fun _ _ q => q
theorem Un.laid (k : ∀ b u, h.get? b = some u → h'.get? b = some u) (hp : h.objs.size ≤ a) (hn : H a = none) : Un fs ex H (upd H a o) h h' where
  keep := fun b u q _ _ _ => k b u q
  slot := fun b u q _ _ _ => ⟨u.slots, k b u q⟩
  free := fun b u q n _ => by rw [upd_ne (Nat.ne_of_lt (Nat.lt_of_lt_of_le (Heap.lt_size q) hp))]; exact n
  there := fun b u q _ => ⟨u, k b u q⟩
  tups := fun b xs q => by rw [upd_ne (ne_of_none q hn)]; exact q
  frzs := fun b u xs q => by rw [upd_ne (ne_of_none q hn)]; exact q
  tbls := fun b ps q => ⟨#[], by rw [upd_ne (ne_of_none q hn), q]; simp⟩
theorem Un.write (mu : Mut (H x)) (he : e = x ∨ H e = some (.own x)) (k : ∀ b u, b ≠ e → h.get? b = some u → h'.get? b = some u) (heo : ∃ u, h'.get? e = some u) : Un fs ex H (upd H x o) h h' := by
  have hx : ∀ b, H b = none → b ≠ x := fun b n z => by subst z; rw [n] at mu; exact mu
  have hb : ∀ b, H b = none → b ≠ e := fun b n z => by
    subst z
    rcases he with r | r
    · exact hx b n r
    · rw [n] at r; cases r
  have hm : ∀ b u, H b = some u → ¬ Mut (some u) → b ≠ x := fun b u q nm z => by subst z; rw [q] at mu; exact nm mu
  refine ⟨fun b u q n _ _ => k b u (hb b n) q, fun b u q n _ _ => ⟨u.slots, k b u (hb b n) q⟩, fun b u q n _ => by rw [upd_ne (hx b n)]; exact n, fun b u q _ => ?_,
    fun b xs q => by rw [upd_ne (hm b _ q fun z => z)]; exact q, fun b u xs q => by rw [upd_ne (hm b _ q fun z => z)]; exact q, fun b ps q => ⟨#[], by rw [upd_ne (hm b _ q fun z => z), q]; simp⟩⟩
  by_cases hbe : b = e
  · subst hbe; exact heo
  · exact ⟨u, k b u hbe q⟩
end

/-! ### the heap without what is tracked -/
def trk (h : Heap) (H : Hp) : List Addr := (List.range h.objs.size).filter fun a => (H a).isSome
def hidT (h : Heap) (H : Hp) : Heap := PySem.W.hideAll h (trk h H)
theorem hidT_size (h : Heap) (H : Hp) : (hidT h H).objs.size = h.objs.size := PySem.W.hideAll_size _ _
theorem hidT_get {h : Heap} {H : Hp} {b : Addr} {o : Obj} (e : h.get? b = some o) (n : H b = none) : (hidT h H).get? b = some o :=
  PySem.W.hideAll_get _ e fun hm => by
    have q : (H b).isSome = true := (List.mem_filter.mp hm).2
    rw [n] at q; simp at q
theorem of_hidT {h : Heap} {H : Hp} {b : Addr} {o : Obj} (e : (hidT h H).get? b = some o) : h.get? b = some o ∧ H b = none := by
  have e' : h.get? b = some o := PySem.W.of_hideAll (trk h H) e
  refine ⟨e', ?_⟩
  cases q : H b with
  | none => rfl
  | some x =>
    have hm : b ∈ trk h H := List.mem_filter.mpr ⟨List.mem_range.mpr (Heap.lt_size e'), by simp [q]⟩
    have z : (hidT h H).get? b = none := PySem.W.hideAll_none (trk h H) hm
    rw [z] at e; cases e

/-! ### OpenK's ledger, filled with every new object but one -/
def allNews (g h : Heap) (L : Addr) : List (Addr × Obj) := (List.range h.objs.size).filterMap fun a => if a = L ∨ (g.get? a).isSome = true then none else (h.get? a).map fun o => (a, o)
def rest (g h : Heap) (L d : Addr) : List (Addr × Obj) := (allNews g h L).filter fun p => decide (p.1 ≠ d)
end L2

namespace L2
open PySem PySem.Spec PyProof.Rows

/-- the module's facts, over the base: the heap at the law's entry without what is tracked there -/
structure Mod (K : PySem.W.Frag) (mg : Str → Option Value) (base : Heap) : Prop where
  kin : K.In base
  glob : base.Ns mainGlobals mg
  blt : ∃ mb, base.Ns builtinsNs mb ∧ ∀ x : Str, x ≠ "__name__" → mb x = bootBuiltins x
  nolimit : base.NoLimit

/-- the context: a def's body (or a comprehension's block) running. base: fixed through the whole law; s₀, H₀: the entry; outer: the frames whose slots others may change (a def's callers); stack: all frames that run;
   ex: iterators that were made ahead of the entry and are walked here (a comprehension's); fn: the names whose cells were made at the entry (a def: all; a comprehension's block: its own); calm: not within an except suite; pn: pins that every state bears; xe: what is wanted of an exception that leaves the code -/
structure Cx where
  prog : Program
  w : World
  K : PySem.W.Frag
  mg : Str → Option Value
  base : Heap
  A : Around
  N : List Str
  s₀ : Shared
  H₀ : Hp
  env : Env
  outer : List Env
  stack : List Env
  ex : List Addr
  fn : Str → Bool
  calm : Bool
  pn : List (Addr × Obj)
  xe : Value → Shared → Prop
/-- the callers' frames -/
def frs (l : List Env) : List Addr := l.filterMap (·.frame)
abbrev Cx.fs (X : Cx) : List Addr := frs X.outer

def Vis (sc : Scope) (x : Str) : Prop := sc.names.lookup x = some .local ∨ sc.names.lookup x = some .cell ∨ sc.names.lookup x = some .free
def Loc (sc : Scope) (x : Str) : Prop := sc.names.lookup x = some .local ∨ sc.names.lookup x = some .cell
def Look (env : Env) (h : Heap) (m : Str → Option Value) (x : Str) (u : Value) : Prop :=
  (env.kindOf x = some .local ∧ m x = some u) ∨ ((env.kindOf x = some .cell ∨ env.kindOf x = some .free) ∧ ∃ c, env.cells.lookup x = some c ∧ h.IsCell c (some u))

structure Cx.Ok (X : Cx) : Prop where
  mod : Mod X.K X.mg X.base
  kind : X.env.scope.kind = .function
  glob : X.env.globals = mainGlobals
  blt : X.env.builtins = builtinsNs
  above : X.s₀.heap.objs.size ≤ X.env.locals
  inj : ∀ x y c, X.env.cells.lookup x = some c → X.env.cells.lookup y = some c → x = y
  has : ∀ x, (X.env.kindOf x = some .cell ∨ X.env.kindOf x = some .free) → ∃ c, X.env.cells.lookup x = some c
  cab : ∀ x c, X.fn x = true → X.env.cells.lookup x = some c → X.s₀.heap.objs.size ≤ c
  hd : X.calm = true → X.A.handled = none
  frames : X.A.frames = some X.stack
  stk : X.stack = X.outer ∨ (X.stack = X.env :: X.outer ∧ X.env.frame = some X.env.locals)
  exf : ∀ b ∈ X.ex, b ≠ X.env.locals ∧ ∀ x c, X.env.cells.lookup x = some c → c ≠ b
  bs : ∀ b o, X.base.get? b = some o → X.s₀.heap.get? b = some o ∧ X.H₀ b = none
  bsz : X.base.objs.size ≤ X.s₀.heap.objs.size
  noex : ∀ b o, X.base.get? b = some o → b ∉ X.ex
  exfs : ∀ b ∈ X.ex, b ∉ X.fs
  funs : X.s₀.heap.FunFrames X.base X.outer
  frf : ∀ b ∈ X.fs, X.H₀ b = none

structure Inv (X : Cx) (pins : List (Addr × Obj)) (σ : List (Option V)) (H : Hp) (s : Shared) : Prop where
  ok : X.Ok
  os : s.os = X.s₀.os
  bare : AllBare s.gens
  base : Un X.fs X.ex X.H₀ H X.s₀.heap s.heap
  loc : ∃ m, s.heap.Ns X.env.locals m ∧ ∀ (i : Nat) (x : Str) (v : V), X.N[i]? = some x → σ[i]? = some (some v) → Vis X.env.scope x → ∃ u, RelV v u ∧ Look X.env s.heap m x u
  cell : ∀ x c, X.env.cells.lookup x = some c → ∃ v, s.heap.IsCell c v
  free : H X.env.locals = none
  freeC : ∀ x c, X.env.cells.lookup x = some c → H c = none
  pin : ∀ p ∈ X.pn ++ pins, s.heap.get? p.1 = some p.2 ∧ H p.1 = none ∧ p.1 ≠ X.env.locals ∧ p.1 ∉ X.fs ∧ ∀ v, p.2.data ≠ .cell v
  hok : HOk X.prog X.w H s.heap
  len : σ.length = X.N.length

section
variable {X : Cx} {pins : List (Addr × Obj)} {σ : List (Option V)} {H H' : Hp} {s : Shared} {h' : Heap}

theorem Cx.Ok.nofr (ok : X.Ok) {b : Addr} {o : Obj} (e : X.base.get? b = some o) : b ∉ X.fs := fun hb => by
  have := (ok.funs.mem hb).1
  rw [e] at this; cases this
theorem Inv.bs (I : Inv X pins σ H s) : ∀ b o, X.base.get? b = some o → s.heap.get? b = some o ∧ H b = none := fun b o e =>
  ⟨I.base.keep b o (I.ok.bs b o e).1 (I.ok.bs b o e).2 (I.ok.nofr e) (I.ok.noex b o e), I.base.free b o (I.ok.bs b o e).1 (I.ok.bs b o e).2 (I.ok.noex b o e)⟩
theorem Inv.bk (I : Inv X pins σ H s) : ∀ b o, X.base.get? b = some o → s.heap.get? b = some o := fun b o e => (I.bs b o e).1
theorem Inv.mod (I : Inv X pins σ H s) : Mod X.K X.mg X.base := I.ok.mod
theorem Inv.kIn (I : Inv X pins σ H s) : X.K.In s.heap := I.ok.mod.kin.keeps I.bk
theorem Inv.lt (I : Inv X pins σ H s) : X.env.locals < s.heap.objs.size := let ⟨_, hn, _⟩ := I.loc; hn.lt
theorem Inv.sz (I : Inv X pins σ H s) : X.s₀.heap.objs.size ≤ s.heap.objs.size := Nat.le_trans I.ok.above (Nat.le_of_lt I.lt)
theorem Inv.nofs (I : Inv X pins σ H s) {a : Addr} (h : s.heap.objs.size ≤ a) : a ∉ X.fs := fun hb => by
  obtain ⟨_, o, ho, _⟩ := I.ok.funs.mem hb
  exact absurd (Nat.lt_of_lt_of_le (Heap.lt_size ho) (Nat.le_trans I.sz h)) (Nat.lt_irrefl _)
theorem Inv.cne (I : Inv X pins σ H s) : ∀ x c, X.env.cells.lookup x = some c → c ≠ X.env.locals := fun x c e z => by
  obtain ⟨v, o, ho, hd⟩ := I.cell x c e
  obtain ⟨m, ⟨o', es, ep, ho', hd', _⟩, _⟩ := I.loc
  rw [z, ho'] at ho; cases ho; rw [hd'] at hd; cases hd
theorem Inv.funs (I : Inv X pins σ H s) : s.heap.FunFrames X.base X.outer := by
  have all : ∀ (l : List Env), (∀ b ∈ frs l, b ∈ X.fs) → X.s₀.heap.FunFrames X.base l → s.heap.FunFrames X.base l := by
    intro l
    induction l with
    | nil => intro _ _; trivial
    | cons env r ih =>
      intro hs hl
      obtain ⟨hk, ⟨L, o, hf, hn, ho, hd⟩, hr⟩ := hl
      have hL : L ∈ X.fs := hs L (by unfold frs; rw [List.filterMap_cons, hf]; exact List.mem_cons_self)
      obtain ⟨sl, e⟩ := I.base.slot L o ho (I.ok.frf L hL) hL fun z => I.ok.exfs L z hL
      exact ⟨hk, ⟨L, _, hf, hn, e, hd⟩, ih (fun b hb => hs b (by unfold frs; rw [List.filterMap_cons, hf]; exact List.mem_cons_of_mem _ hb)) hr⟩
  exact all X.outer (fun _ hb => hb) I.ok.funs

/-- the frames that run, for a call -/
theorem Inv.stack (I : Inv X pins σ H s) : s.heap.FunFrames X.base X.stack := by
  rcases I.ok.stk with e | ⟨e, hf⟩
  · rw [e]; exact I.funs
  · rw [e]
    obtain ⟨m, hn, _⟩ := I.loc
    refine .cons (by rw [I.ok.kind]; decide) hf hn ?_ I.funs
    exact Heap.get?_none_of_le (Nat.le_trans I.ok.bsz I.ok.above)
theorem Inv.stkSub (I : Inv X pins σ H s) : ∀ b ∈ frs X.stack, b ∈ X.env.locals :: X.fs := fun b hb => by
  rcases I.ok.stk with e | ⟨e, hf⟩
  · rw [e] at hb; exact List.mem_cons_of_mem _ hb
  · rw [e] at hb
    unfold frs at hb
    rw [List.filterMap_cons, hf] at hb
    exact hb
theorem Inv.stkFree (I : Inv X pins σ H s) : ∀ b ∈ frs X.stack, H b = none := fun b hb => by
  rcases List.mem_cons.mp (I.stkSub b hb) with e | hb
  · rw [e]; exact I.free
  · obtain ⟨_, o, ho, _⟩ := I.ok.funs.mem hb
    exact I.base.free b o ho (I.ok.frf b hb) fun z => I.ok.exfs b z hb

/-- THE STEP: the untracked objects but the frame and the records at ch are kept (the callers' frames up to slots), the frame's map is kept, the new abstract heap is held -/
theorem Inv.step {g' : Array GenState} {t' : Nat} {d' : Drawn} {ch : List Addr} (I : Inv X pins σ H s)
    (hch : ∀ b ∈ ch, (b ∈ X.ex ∨ X.s₀.heap.objs.size ≤ b) ∧ b ≠ X.env.locals ∧ (∀ x c, X.env.cells.lookup x = some c → c ≠ b) ∧ ∀ p ∈ X.pn ++ pins, p.1 ≠ b)
    (keep : ∀ b o, b ≠ X.env.locals → b ∉ X.fs → b ∉ ch → s.heap.get? b = some o → H b = none → h'.get? b = some o)
    (slot : ∀ b o, b ≠ X.env.locals → b ∈ X.fs → b ∉ ch → s.heap.get? b = some o → H b = none → ∃ sl, h'.get? b = some { o with slots := sl }) (free : ∀ b o, b ∉ ch → s.heap.get? b = some o → H b = none → H' b = none)
    (there : ∀ b o, b ∉ ch → s.heap.get? b = some o → ∃ o', h'.get? b = some o')
    (tups : ∀ b xs, H b = some (.tup xs) → H' b = some (.tup xs)) (frzs : ∀ b o u, H b = some (.frz o u) → H' b = some (.frz o u)) (tbls : ∀ b ps, H b = some (.tbl ps) → ∃ more, H' b = some (.tbl (ps ++ more)))
    (ns : ∀ m, s.heap.Ns X.env.locals m → h'.Ns X.env.locals m) (hok : HOk X.prog X.w H' h') (hg : AllBare g') :
    Inv X pins σ H' { s with heap := h', gens := g', drawn := d', toks := t' } := by
  have neL : ∀ b o, X.s₀.heap.get? b = some o → b ≠ X.env.locals := fun b o e => Nat.ne_of_lt (Nat.lt_of_lt_of_le (Heap.lt_size e) I.ok.above)
  have neC : ∀ b o, X.s₀.heap.get? b = some o → b ∉ X.ex → b ∉ ch := fun b o e hx hb => by
    rcases (hch b hb).1 with z | z
    · exact hx z
    · exact absurd (Nat.lt_of_lt_of_le (Heap.lt_size e) z) (Nat.lt_irrefl _)
  have cellK : ∀ x c, X.env.cells.lookup x = some c → ∀ v, s.heap.IsCell c v → h'.IsCell c v := fun x c e v ⟨o, ho, hd⟩ => by
    have nch : c ∉ ch := fun z => (hch c z).2.2.1 x c e rfl
    by_cases hc : c ∈ X.fs
    · obtain ⟨sl, q⟩ := slot c o (I.cne x c e) hc nch ho (I.freeC x c e)
      exact ⟨_, q, hd⟩
    · exact ⟨o, keep c o (I.cne x c e) hc nch ho (I.freeC x c e), hd⟩
  refine ⟨I.ok, I.os, hg, ⟨fun b o e n hb hx => ?_, fun b o e n hb hx => ?_, fun b o e n hx => ?_, fun b o e hx => ?_, fun b xs e => tups b xs (I.base.tups b xs e), fun b o xs e => frzs b o xs (I.base.frzs b o xs e), fun b ps e => ?_⟩, ?_, fun x c e => ?_, ?_, fun x c e => ?_, fun p hp => ?_, hok, I.len⟩
  · exact keep b o (neL b o e) hb (neC b o e hx) (I.base.keep b o e n hb hx) (I.base.free b o e n hx)
  · obtain ⟨sl, e1⟩ := I.base.slot b o e n hb hx
    obtain ⟨sl', e2⟩ := slot b _ (neL b o e) hb (neC b o e hx) e1 (I.base.free b o e n hx)
    exact ⟨sl', e2⟩
  · obtain ⟨o', e1⟩ := I.base.there b o e hx
    exact free b o' (neC b o e hx) e1 (I.base.free b o e n hx)
  · obtain ⟨o', e1⟩ := I.base.there b o e hx
    exact there b o' (neC b o e hx) e1
  · obtain ⟨m1, e1⟩ := I.base.tbls b ps e
    obtain ⟨m2, e2⟩ := tbls b _ e1
    exact ⟨m1 ++ m2, by rw [e2, Array.append_assoc]⟩
  · obtain ⟨m, hn, hl⟩ := I.loc
    refine ⟨m, ns m hn, fun i x v e1 e2 e3 => ?_⟩
    obtain ⟨u, r, l⟩ := hl i x v e1 e2 e3
    refine ⟨u, r, ?_⟩
    rcases l with l | ⟨k, c, e, z⟩
    · exact .inl l
    · exact .inr ⟨k, c, e, cellK x c e _ z⟩
  · obtain ⟨v, z⟩ := I.cell x c e
    exact ⟨v, cellK x c e v z⟩
  · obtain ⟨m, ⟨o, _, _, ho, _⟩, _⟩ := I.loc
    exact free _ o (fun z => (hch _ z).2.1 rfl) ho I.free
  · obtain ⟨v, o, ho, hd⟩ := I.cell x c e
    exact free c o (fun z => (hch c z).2.2.1 x c e rfl) ho (I.freeC x c e)
  · obtain ⟨e, n, ne, nf, d⟩ := I.pin p hp
    have nch : p.1 ∉ ch := fun z => (hch p.1 z).2.2.2 p hp rfl
    exact ⟨keep p.1 p.2 ne nf nch e n, free p.1 p.2 nch e n, ne, nf, d⟩
/-- .. where the frame's own object is kept too -/
theorem Inv.un {t' : Nat} (I : Inv X pins σ H s) (u : Un X.fs [] H H' s.heap h') (hok : HOk X.prog X.w H' h') : Inv X pins σ H' { s with heap := h', toks := t' } := by
  obtain ⟨m, ⟨o, es, ep, ho, r⟩, _⟩ := id I.loc
  obtain ⟨sl, hL⟩ := u.any ho I.free (by simp)
  exact I.step (g' := s.gens) (d' := s.drawn) (ch := []) (fun _ z => nomatch z) (fun b o _ hb _ e n => u.keep b o e n hb (by simp)) (fun b o _ hb _ e n => u.slot b o e n hb (by simp)) (fun b o _ e n => u.free b o e n (by simp)) (fun b o _ e => u.there b o e (by simp)) u.tups u.frzs u.tbls (fun m' hm => by
    obtain ⟨o', es', ep', ho', r'⟩ := hm
    rw [ho] at ho'; cases ho'
    exact ⟨_, es', ep', hL, r'⟩) hok I.bare
/-- behind a call (or a comprehension's block): the slots of this frame may have changed too, the records at ch may have turned -/
theorem Inv.call {g' : Array GenState} {t' : Nat} {d' : Drawn} {ch : List Addr} (I : Inv X pins σ H s) (u : Un (frs X.stack) ch H H' s.heap h') (hok : HOk X.prog X.w H' h') (hg : AllBare g')
    (hch : ∀ b ∈ ch, (b ∈ X.ex ∨ X.s₀.heap.objs.size ≤ b) ∧ b ≠ X.env.locals ∧ (∀ x c, X.env.cells.lookup x = some c → c ≠ b) ∧ ∀ p ∈ X.pn ++ pins, p.1 ≠ b) :
    Inv X pins σ H' { s with heap := h', gens := g', drawn := d', toks := t' } := by
  obtain ⟨m, ⟨o, es, ep, ho, r⟩, _⟩ := id I.loc
  obtain ⟨sl, hL⟩ := u.any ho I.free fun z => (hch _ z).2.1 rfl
  exact I.step (ch := ch) hch (fun b o hL hb hc e n => u.keep b o e n (fun z => (List.mem_cons.mp (I.stkSub b z)).elim hL hb) hc) (fun b o _ _ hc e n => u.any e n hc) (fun b o hc e n => u.free b o e n hc) (fun b o hc e => u.there b o e hc) u.tups u.frzs u.tbls (fun m' hm => by
    obtain ⟨o', es', ep', ho', r'⟩ := hm
    rw [ho] at ho'; cases ho'
    exact ⟨_, es', ep', hL, r'⟩) hok hg
/-- an untracked record of ours (an iterator) has turned -/
theorem Inv.turned {t' : Nat} {it : Addr} (I : Inv X pins σ H s) (k : ∀ b o, b ≠ it → s.heap.get? b = some o → h'.get? b = some o) (hn : H it = none) (hL : it ≠ X.env.locals)
    (h1 : it ∈ X.ex ∨ X.s₀.heap.objs.size ≤ it) (h2 : ∀ x c, X.env.cells.lookup x = some c → c ≠ it) (h3 : ∀ p ∈ X.pn ++ pins, p.1 ≠ it) : Inv X pins σ H { s with heap := h', toks := t' } := by
  have nit : ∀ b u, H b = some u → b ≠ it := fun b u e z => by rw [z, hn] at e; cases e
  refine I.step (g' := s.gens) (d' := s.drawn) (ch := [it]) (fun b hb => ?_) (fun b o _ _ hc e _ => k b o (fun z => hc (by simp [z])) e) (fun b o _ _ hc e _ => ⟨o.slots, k b o (fun z => hc (by simp [z])) e⟩) (fun _ _ _ _ n => n)
    (fun b o hc e => ⟨o, k b o (fun z => hc (by simp [z])) e⟩) (fun _ _ e => e) (fun _ _ _ e => e) (fun b ps e => ⟨#[], by rw [e]; simp⟩) (fun m hm => ?_) (fun b u e => ?_) I.bare
  · have e : b = it := by simpa using hb
    subst e
    exact ⟨h1, hL, h2, h3⟩
  · obtain ⟨o, es, ep, ho, r⟩ := hm
    exact ⟨o, es, ep, k _ o (Ne.symm hL) ho, r⟩
  · refine (I.hok b u e).stay (fun c v hc q => k c v ?_ q) (fun _ q => q) fun _ _ q => q
    rcases hc with z | z
    · rw [z]; exact nit b u e
    · exact nit c _ z
theorem Inv.tok (I : Inv X pins σ H s) (t : Nat) : Inv X pins σ H { s with toks := t } := I.un (h' := s.heap) (t' := t) Un.refl I.hok
/-- all objects kept -/
theorem Inv.kept {t' : Nat} (I : Inv X pins σ H s) (k : ∀ b u, s.heap.get? b = some u → h'.get? b = some u) : Inv X pins σ H { s with heap := h', toks := t' } := I.un (Un.kept k) (I.hok.kept k)
/-- a new object laid and tracked -/
theorem Inv.laid {a : Addr} {o : HO} {t' : Nat} (I : Inv X pins σ H s) (k : ∀ b u, s.heap.get? b = some u → h'.get? b = some u) (hp : s.heap.objs.size ≤ a) (new : ObjOk X.prog X.w (upd H a o) h' a o) :
    Inv X pins σ (upd H a o) { s with heap := h', toks := t' } := I.un (Un.laid k hp (I.hok.fresh hp)) (I.hok.laid k hp new)
/-- an object written -/
theorem Inv.write {x e : Addr} {o : HO} {t' : Nat} (I : Inv X pins σ H s) (mu : Mut (H x)) (he : e = x ∨ H e = some (.own x)) (k : ∀ b u, b ≠ e → s.heap.get? b = some u → h'.get? b = some u) (heo : ∃ u, h'.get? e = some u)
    (new : ObjOk X.prog X.w (upd H x o) h' x o) : Inv X pins σ (upd H x o) { s with heap := h', toks := t' } := I.un (Un.write mu he k heo) (I.hok.write mu he k heo new)
theorem Inv.pins_of {pins' : List (Addr × Obj)} (I : Inv X pins σ H s) (h : ∀ p ∈ pins', s.heap.get? p.1 = some p.2 ∧ H p.1 = none ∧ p.1 ≠ X.env.locals ∧ p.1 ∉ X.fs ∧ ∀ v, p.2.data ≠ .cell v) : Inv X pins' σ H s :=
  ⟨I.ok, I.os, I.bare, I.base, I.loc, I.cell, I.free, I.freeC, fun p hp => (List.mem_append.mp hp).elim (fun z => I.pin p (List.mem_append_left _ z)) (h p), I.hok, I.len⟩

theorem nodup_ix {N : List Str} (hN : N.Nodup) {i j : Nat} {x : Str} (a : N[i]? = some x) (b : N[j]? = some x) : i = j := by
  obtain ⟨h1, e1⟩ := List.getElem?_eq_some_iff.mp a
  obtain ⟨h2, e2⟩ := List.getElem?_eq_some_iff.mp b
  exact (List.getElem_inj hN).mp (e1.trans e2.symm)

/-- a name is stored; what changed -/
theorem store_ok2 {M : Model} {A : Around} {E : Value → Shared → Prop} {i : Nat} {x : Str} {v : V} {u : Value} {Q : Unit → Shared → Prop} (I : Inv X pins σ H s) (hN : X.N.Nodup) (hi : X.N[i]? = some x) (hx : Loc X.env.scope x) (r : RelV v u)
    (h : ∀ s', Inv X pins (σ.set i (some v)) H s' → (∃ a, Heap.SameBut a s.heap s'.heap ∧ (a = X.env.locals ∨ X.env.cells.lookup x = some a)) → Q () s') (hf : X.fn x = true ∨ X.env.scope.names.lookup x = some .local := by first | exact .inl rfl | exact .inr rfl | assumption) : wpAny M A (storeName X.env x u) Q E s := by
  obtain ⟨m, hn, hl⟩ := id I.loc
  have hcls : (X.env.scope.kind == .class || (X.env.scope.kind == .module && X.env.locals != X.env.globals)) = false := by rw [I.ok.kind]; rfl
  have hiσ : i < σ.length := by rw [I.len]; exact (List.getElem?_eq_some_iff.mp hi).1
  have cne := I.cne
  have tracked : ∀ {a : Addr} {h' : Heap}, (∃ o, s.heap.get? a = some o ∧ H a = none) → Heap.SameBut a s.heap h' → HOk X.prog X.w H h' := fun {a h'} ha hs b ob e => by
    obtain ⟨_, _, hfree⟩ := ha
    refine (I.hok b ob e).stay (fun c w' hc q => (hs.2 c ?_).trans q) (fun _ q => q) fun _ _ q => q
    rintro rfl
    rcases hc with rfl | hc
    · rw [hfree] at e; cases e
    · rw [hfree] at hc; cases hc
  rcases hx with hk | hk
  · refine wpAny_storeName_local hk hn (fun h' hn' hs => ?_) hcls
    obtain ⟨oL, _, _, hoL, _⟩ := id hn
    refine h _ ⟨I.ok, I.os, I.bare, ⟨fun b o e n hb hx => ?_, fun b o e n hb hx => ?_, I.base.free, fun b o e hx => ?_, I.base.tups, I.base.frzs, I.base.tbls⟩, ⟨_, hn', fun j y v' e1 e2 e3 => ?_⟩, fun y c e => ?_, I.free, I.freeC, fun p hp => ?_, tracked ⟨oL, hoL, I.free⟩ hs, by simpa using I.len⟩ ⟨_, hs, .inl rfl⟩
    · exact (hs.2 b (Nat.ne_of_lt (Nat.lt_of_lt_of_le (Heap.lt_size e) I.ok.above))).trans (I.base.keep b o e n hb hx)
    · obtain ⟨sl, e1⟩ := I.base.slot b o e n hb hx
      exact ⟨sl, (hs.2 b (Nat.ne_of_lt (Nat.lt_of_lt_of_le (Heap.lt_size e) I.ok.above))).trans e1⟩
    · obtain ⟨o', e1⟩ := I.base.there b o e hx
      exact ⟨o', (hs.2 b (Nat.ne_of_lt (Nat.lt_of_lt_of_le (Heap.lt_size e) I.ok.above))).trans e1⟩
    · by_cases hj : j = i
      · subst hj
        rw [hi] at e1; cases e1
        rw [List.getElem?_set_self hiσ] at e2
        cases e2
        exact ⟨u, r, .inl ⟨hk, by simp⟩⟩
      · rw [List.getElem?_set_ne (Ne.symm hj)] at e2
        obtain ⟨u', r', q⟩ := hl j y v' e1 e2 e3
        refine ⟨u', r', ?_⟩
        rcases q with ⟨k, e⟩ | ⟨k, c, e, z⟩
        · refine .inl ⟨k, ?_⟩
          have : y ≠ x := fun e => hj (nodup_ix hN e1 (e ▸ hi))
          simp [this, e]
        · exact .inr ⟨k, c, e, z.sameBut hs (cne y c e)⟩
    · obtain ⟨w', z⟩ := I.cell y c e
      exact ⟨w', z.sameBut hs (cne y c e)⟩
    · obtain ⟨e, n, ne, nf, d⟩ := I.pin p hp
      exact ⟨(hs.2 p.1 ne).trans e, n, ne, nf, d⟩
  · have hfn : X.fn x = true := by
      rcases hf with z | z
      · exact z
      · rw [z] at hk; cases hk
    obtain ⟨c, hc⟩ := I.ok.has x (.inl hk)
    obtain ⟨w', z⟩ := I.cell x c hc
    refine wpAny_storeName_cell I.ok.kind hk hc z (fun h' hc' hs => ?_)
    obtain ⟨oc, hoc, hocd⟩ := id z
    refine h { s with heap := h' } ⟨I.ok, I.os, I.bare, ⟨fun b o e n hb hx => ?_, fun b o e n hb hx => ?_, I.base.free, fun b o e hx => ?_, I.base.tups, I.base.frzs, I.base.tbls⟩, ⟨m, hn.sameBut hs (Ne.symm (cne x c hc)), fun j y v' e1 e2 e3 => ?_⟩, fun y c' e => ?_, I.free, I.freeC, fun p hp => ?_, tracked ⟨oc, hoc, I.freeC x c hc⟩ hs, by simpa using I.len⟩ ⟨c, hs, .inr hc⟩
    · exact (hs.2 b (Nat.ne_of_lt (Nat.lt_of_lt_of_le (Heap.lt_size e) (I.ok.cab x c hfn hc)))).trans (I.base.keep b o e n hb hx)
    · obtain ⟨sl, e1⟩ := I.base.slot b o e n hb hx
      exact ⟨sl, (hs.2 b (Nat.ne_of_lt (Nat.lt_of_lt_of_le (Heap.lt_size e) (I.ok.cab x c hfn hc)))).trans e1⟩
    · obtain ⟨o', e1⟩ := I.base.there b o e hx
      exact ⟨o', (hs.2 b (Nat.ne_of_lt (Nat.lt_of_lt_of_le (Heap.lt_size e) (I.ok.cab x c hfn hc)))).trans e1⟩
    · by_cases hj : j = i
      · subst hj
        rw [hi] at e1; cases e1
        rw [List.getElem?_set_self hiσ] at e2
        cases e2
        exact ⟨u, r, .inr ⟨.inl hk, c, hc, hc'⟩⟩
      · rw [List.getElem?_set_ne (Ne.symm hj)] at e2
        obtain ⟨u', r', q⟩ := hl j y v' e1 e2 e3
        refine ⟨u', r', ?_⟩
        rcases q with q | ⟨k, c', e, z'⟩
        · exact .inl q
        · refine .inr ⟨k, c', e, z'.sameBut hs ?_⟩
          rintro rfl
          exact hj (nodup_ix hN e1 (I.ok.inj _ _ _ e hc ▸ hi))
    · by_cases hcc : c' = c
      · subst hcc; exact ⟨_, hc'⟩
      · obtain ⟨w2, z2⟩ := I.cell y c' e
        exact ⟨w2, z2.sameBut hs hcc⟩
    · obtain ⟨e, n, ne, nf, d⟩ := I.pin p hp
      refine ⟨(hs.2 p.1 ?_).trans e, n, ne, nf, d⟩
      intro q
      rw [q, hoc] at e
      have q' : oc = p.2 := Option.some.inj e
      exact d w' (by rw [← q']; exact hocd)
theorem store_ok {M : Model} {A : Around} {E : Value → Shared → Prop} {i : Nat} {x : Str} {v : V} {u : Value} {Q : Unit → Shared → Prop} (I : Inv X pins σ H s) (hN : X.N.Nodup) (hi : X.N[i]? = some x) (hx : Loc X.env.scope x) (r : RelV v u)
    (h : ∀ s', Inv X pins (σ.set i (some v)) H s' → Q () s') (hf : X.fn x = true ∨ X.env.scope.names.lookup x = some .local := by first | exact .inl rfl | exact .inr rfl | assumption) : wpAny M A (storeName X.env x u) Q E s :=
  store_ok2 I hN hi hx r (fun s' I' _ => h s' I') hf
/-- behind a call or a block, the state as it is -/
theorem Inv.call' {s' : Shared} {ch : List Addr} (I : Inv X pins σ H s) (ho : s'.os = s.os) (u : Un (frs X.stack) ch H H' s.heap s'.heap) (hok : HOk X.prog X.w H' s'.heap) (hg : AllBare s'.gens)
    (hch : ∀ b ∈ ch, (b ∈ X.ex ∨ X.s₀.heap.objs.size ≤ b) ∧ b ≠ X.env.locals ∧ (∀ x c, X.env.cells.lookup x = some c → c ≠ b) ∧ ∀ p ∈ X.pn ++ pins, p.1 ≠ b) : Inv X pins σ H' s' := by
  obtain ⟨h', g', d', t', o'⟩ := s'
  have e : o' = s.os := ho
  subst e
  exact I.call (g' := g') (t' := t') (d' := d') u hok hg hch
end

/-! ### the judgements -/
/-- an exception: its class, its own dict's address (where it has one), the abstract heap behind it -/
abbrev XK := Value → Option Addr → Hp → Prop
abbrev St := List (Option V)
abbrev VK := V → Hp → Prop
/-- an expression's reading; a test's; an argument list's -/
abbrev TE := St → Hp → VK → Prop
abbrev TT := St → Hp → (Bool → Hp → Prop) → Prop
abbrev TA := St → Hp → (List V → Hp → Prop) → Prop
/-- what is wanted behind a statement -/
structure Ends where
  nx : St → Hp → Prop
  rt : VK
  bk : St → Hp → Prop := fun _ _ => False
  ct : St → Hp → Prop := fun _ _ => False
abbrev TS := Ends → St → Hp → Prop

def EP (X : Cx) (pins : List (Addr × Obj)) (σ : St) (Q : VK) (u : Value) (s' : Shared) : Prop := ∃ v H', Inv X pins σ H' s' ∧ RelV v u ∧ Q v H'
def TP (X : Cx) (pins : List (Addr × Obj)) (σ : St) (Q : Bool → Hp → Prop) (b : Bool) (s' : Shared) : Prop := ∃ H', Inv X pins σ H' s' ∧ Q b H'
def AP (X : Cx) (pins : List (Addr × Obj)) (σ : St) (Q : List V → Hp → Prop) (us : List Value) (s' : Shared) : Prop := ∃ vs H', Inv X pins σ H' s' ∧ Vals vs us ∧ Q vs H'
def SP (X : Cx) (pins : List (Addr × Obj)) (D : Ends) (f : Flow) (s' : Shared) : Prop :=
  match f with
  | .next => ∃ σ' H', Inv X pins σ' H' s' ∧ D.nx σ' H'
  | .brk => ∃ σ' H', Inv X pins σ' H' s' ∧ D.bk σ' H'
  | .cont => ∃ σ' H', Inv X pins σ' H' s' ∧ D.ct σ' H'
  | .ret u => ∃ v σ' H', Inv X pins σ' H' s' ∧ RelV v u ∧ D.rt v H'

def PE (X : Cx) (e : Expr) (t : TE) : Prop :=
  ∀ (pins : List (Addr × Obj)) (s : Shared) (σ : St) (H : Hp) (Q : VK), Inv X pins σ H s → t σ H Q → wpAny (model X.prog X.w) X.A (eval e X.env) (EP X pins σ Q) X.xe s
def PT (X : Cx) (e : Expr) (t : TT) : Prop :=
  ∀ (pins : List (Addr × Obj)) (s : Shared) (σ : St) (H : Hp) (Q : Bool → Hp → Prop), Inv X pins σ H s → t σ H Q → wpAny (model X.prog X.w) X.A (isTrue e X.env (eval e X.env)) (TP X pins σ Q) X.xe s
/-- a test whatever its 'whole' is (and, or) -/
def PW (X : Cx) (e : Expr) (t : TT) : Prop :=
  ∀ (whole : Sem Value) (pins : List (Addr × Obj)) (s : Shared) (σ : St) (H : Hp) (Q : Bool → Hp → Prop), Inv X pins σ H s → t σ H Q → wpAny (model X.prog X.w) X.A (isTrue e X.env whole) (TP X pins σ Q) X.xe s
theorem PW.pt {X : Cx} {e : Expr} {t : TT} (h : PW X e t) : PT X e t := h _
/-- an argument list (no star), from the left -/
def PA (X : Cx) (es : List Expr) (t : TA) : Prop :=
  ∀ (pos : Pos) (pins : List (Addr × Obj)) (s : Shared) (σ : St) (H : Hp) (Q : List V → Hp → Prop), Inv X pins σ H s → t σ H Q → wpAny (model X.prog X.w) X.A (spliced (backTo pos (starEach es X.env))) (AP X pins σ Q) X.xe s
def PS (X : Cx) (st : Stmt) (t : TS) : Prop :=
  ∀ (pins : List (Addr × Obj)) (s : Shared) (σ : St) (H : Hp) (D : Ends), Inv X pins σ H s → t D σ H → wpAny (model X.prog X.w) X.A (exec st X.env) (SP X pins D) X.xe s
def PSs (X : Cx) (st : List Stmt) (t : TS) : Prop :=
  ∀ (pins : List (Addr × Obj)) (s : Shared) (σ : St) (H : Hp) (D : Ends), Inv X pins σ H s → t D σ H → wpAny (model X.prog X.w) X.A (execs st X.env) (SP X pins D) X.xe s
/-- weaken the end -/
theorem thn {α : Type} {t : Sem α} {Q Q' : α → Shared → Prop} {M : Model} {A : Around} {E : Value → Shared → Prop} {s : Shared} (h : wpAny M A t Q E s) (hQ : ∀ a s, Q a s → Q' a s) : wpAny M A t Q' E s := wpAny_mono h hQ fun _ _ x => x
end L2

namespace L2
open PySem PySem.Spec PyProof.Rows
section
variable {X : Cx}

/-! ### names and constants -/
def tVar (i : Nat) : TE := fun σ H Q => ∃ v, σ[i]? = some (some v) ∧ Q v H
def tC (v : V) : TE := fun _ H Q => Q v H
theorem pe_var {i : Nat} {x : Str} {pos : Pos} (hN : X.N[i]? = some x) (hv : Vis X.env.scope x) (hd : (x == ("__debug__" : Str)) = false := by decide) (hcd : (x == ("__classdict__" : Str)) = false := by decide) : PE X (.Name x pos) (tVar i) := by
  intro pins s σ H Q I h
  obtain ⟨v, e, h⟩ := h
  obtain ⟨m, hn, hl⟩ := I.loc
  obtain ⟨u, r, l⟩ := hl i x v hN e hv
  have fin : EP X pins σ Q u s := ⟨v, H, I, r, h⟩
  rcases l with ⟨hk, hm⟩ | ⟨hk, c, hc, hcell⟩
  · exact wpAny_Name (wpAny_loadName_local I.ok.kind hk hn hm fin) hd
  · rcases hk with hk | hk
    · exact wpAny_Name (wpAny_loadName_cell I.ok.kind hk hc hcell fin) hd
    · exact wpAny_Name (wpAny_loadName_free I.ok.kind hk hc hcell fin hcd) hd
theorem pe_int {i j pos} : PE X (.Constant (.int i) j pos) (tC (.int i)) := fun _ _ _ H _ I h => wpAny_Constant_int ⟨.int i, H, I.tok _, ⟨_, rfl⟩, h⟩
theorem pe_bl {b j pos} : PE X (.Constant (.bool b) j pos) (tC (.bl b)) := fun _ _ _ H _ I h => Constant_bool ⟨.bl b, H, I, rfl, h⟩
theorem pe_non {j pos} : PE X (.Constant .none j pos) (tC .non) := fun _ _ _ H _ I h => Constant_none ⟨.non, H, I, rfl, h⟩
theorem pe_str {x j pos} : PE X (.Constant (.str x) j pos) (tC (.str x)) := fun _ _ _ H _ I h => Calls.Constant_str ⟨.str x, H, I.tok _, ⟨_, rfl⟩, h⟩

/-- a global name of the def -/
def Gl (X : Cx) (x : Str) : Prop := X.env.kindOf x = some .globalImplicit
theorem ld_glob {E : Value → Shared → Prop} {pins : List (Addr × Obj)} {s : Shared} {σ : St} {H : Hp} {x : Str} {u : Value} {pos : Pos} {Q : Value → Shared → Prop} (I : Inv X pins σ H s) (hg : Gl X x) (hm : X.mg x = some u) (h : Q u s)
    (hd : (x == ("__debug__" : Str)) = false := by decide) : wpAny (model X.prog X.w) X.A (eval (.Name x pos) X.env) Q E s :=
  Calls.Name_function_global I.ok.kind hg (Calls.loadGlobal_global (by rw [I.ok.glob]; exact I.mod.glob.keeps I.bk) hm h) hd
theorem ld_blt {E : Value → Shared → Prop} {pins : List (Addr × Obj)} {s : Shared} {σ : St} {H : Hp} {x : Str} {u : Value} {pos : Pos} {Q : Value → Shared → Prop} (I : Inv X pins σ H s) (hg : Gl X x) (hm : X.mg x = none) (hv : bootBuiltins x = some u) (h : Q u s)
    (hn : x ≠ "__name__" := by decide) (hd : (x == ("__debug__" : Str)) = false := by decide) : wpAny (model X.prog X.w) X.A (eval (.Name x pos) X.env) Q E s := by
  obtain ⟨mb, h1, h2⟩ := I.mod.blt
  exact Calls.Name_function_global I.ok.kind hg (Calls.loadGlobal_builtin (by rw [I.ok.glob]; exact I.mod.glob.keeps I.bk) hm (by rw [I.ok.blt]; exact h1.keeps I.bk) ((h2 x hn).trans hv) h) hd
/-- a module's constant, a class, a function, as a value -/
theorem pe_glob {x : Str} {v : V} {u : Value} {pos : Pos} (hg : Gl X x) (hm : X.mg x = some u) (r : RelV v u) (hd : (x == ("__debug__" : Str)) = false := by decide) : PE X (.Name x pos) (tC v) :=
  fun _ _ _ H _ I h => ld_glob I hg hm ⟨v, H, I, r, h⟩ hd
theorem pe_bltn {x : Str} {v : V} {u : Value} {pos : Pos} (hg : Gl X x) (hm : X.mg x = none) (hv : bootBuiltins x = some u) (r : RelV v u) (hn : x ≠ "__name__" := by decide) (hd : (x == ("__debug__" : Str)) = false := by decide) : PE X (.Name x pos) (tC v) :=
  fun _ _ _ H _ I h => ld_blt I hg hm hv ⟨v, H, I, r, h⟩ hn hd

/-! ### arithmetic -/
/-- two ints -/
def t2I (ta tb : TE) (k : Int → Int → Hp → Prop) : St → Hp → Prop := fun σ H => ta σ H fun x H1 => tb σ H1 fun y H2 => ∃ i j, x = .int i ∧ y = .int j ∧ k i j H2
def tAdd (ta tb : TE) : TE := fun σ H Q => t2I ta tb (fun i j H2 => Q (.int (i + j)) H2) σ H
def tSub (ta tb : TE) : TE := fun σ H Q => t2I ta tb (fun i j H2 => Q (.int (i - j)) H2) σ H
/-- the left factor below 2^64 -/
def tMul (ta tb : TE) : TE := fun σ H Q => t2I ta tb (fun i j H2 => (-(2 ^ 64) < i ∧ i < 2 ^ 64) ∧ Q (.int (i * j)) H2) σ H
variable {a b : Expr} {ta tb : TE} {pos : Pos}
/-! ### comparisons -/
def PC (X : Cx) (op : CmpOp) (a b : Expr) (t : TE) : Prop :=
  ∀ (pins : List (Addr × Obj)) (s : Shared) (σ : St) (H : Hp) (Q : VK), Inv X pins σ H s → t σ H Q →
    wpAny (model X.prog X.w) X.A (eval a X.env) (fun v s₁ => wpAny (model X.prog X.w) X.A (eval b X.env) (fun u s₂ => wpAny (model X.prog X.w) X.A (compareOp op v u) (EP X pins σ Q) X.xe s₂) X.xe s₁) X.xe s
theorem nobehind (b : Expr) {op : CmpOp} (h : op ≠ .In) (h2 : op ≠ .NotIn) : behindInMarks op b = false := by
  have e1 : (op == CmpOp.In) = false := by cases op <;> first | rfl | exact absurd rfl h
  have e2 : (op == CmpOp.NotIn) = false := by cases op <;> first | rfl | exact absurd rfl h2
  cases b <;> simp [behindInMarks, e1, e2]
def tCmp (p : Int → Int → Bool) (ta tb : TE) : TE := fun σ H Q => t2I ta tb (fun i j H2 => Q (.bl (p i j)) H2) σ H
abbrev tLt : TE → TE → TE := tCmp fun i j => decide (i < j)
abbrev tLe : TE → TE → TE := tCmp fun i j => decide (i ≤ j)
abbrev tGt : TE → TE → TE := tCmp fun i j => decide (j < i)
abbrev tGe : TE → TE → TE := tCmp fun i j => decide (j ≤ i)
abbrev tEqI : TE → TE → TE := tCmp fun i j => decide (i = j)
abbrev tNeI : TE → TE → TE := tCmp fun i j => !decide (i = j)
/-- is None -/
def tIsN (ta : TE) : TE := fun σ H Q => ta σ H fun x H1 => Q (.bl (decide (x = .non))) H1
def tNotN (ta : TE) : TE := fun σ H Q => ta σ H fun x H1 => Q (.bl (!decide (x = .non))) H1
theorem RelV.none_iff {x : V} {v : Value} (r : RelV x v) : (v == Value.none) = decide (x = .non) := by
  cases x with
  | non => cases r; rfl
  | bl _ => cases r; rfl
  | int _ => obtain ⟨t, rfl⟩ := r; rfl
  | str _ => obtain ⟨t, rfl⟩ := r; rfl
  | byt _ => obtain ⟨t, rfl⟩ := r; rfl
  | flt _ => obtain ⟨t, rfl⟩ := r; rfl
  | ref _ => cases r; rfl
  | ty _ => cases r; rfl
theorem pc_isN {j pos'} (ha : PE X a ta) : PC X .Is a (.Constant .none j pos') (tIsN ta) := by
  intro pins s σ H Q I h
  refine thn (ha pins s σ H _ I h) fun v s1 ⟨x, H1, I1, r1, q1⟩ => ?_
  exact Constant_none (is_none_gen ⟨.bl _, H1, I1, by rw [r1.none_iff]; rfl, q1⟩)
theorem pc_notN {j pos'} (ha : PE X a ta) : PC X .IsNot a (.Constant .none j pos') (tNotN ta) := by
  intro pins s σ H Q I h
  refine thn (ha pins s σ H _ I h) fun v s1 ⟨x, H1, I1, r1, q1⟩ => ?_
  exact Constant_none (isnot_none_gen ⟨.bl _, H1, I1, by rw [r1.none_iff]; rfl, q1⟩)
/-- a comparison as a value, as a test -/
def tB (t : TE) : TT := fun σ H Q => t σ H fun x H1 => ∃ c, x = .bl c ∧ Q c H1
theorem pe_cmp {op : CmpOp} {t : TE} (h : PC X op a b t) (h1 : behindInMarks op b = false := by first | exact nobehind _ (by decide) (by decide) | rfl) : PE X (.Compare a [op] [b] pos) t := fun pins s σ H Q I hw => wpAny_Compare1 (h pins s σ H Q I hw) h1
theorem pt_cmp {op : CmpOp} {t : TE} (h : PC X op a b t) (h1 : behindInMarks op b = false := by first | exact nobehind _ (by decide) (by decide) | rfl) : PT X (.Compare a [op] [b] pos) (tB t) := by
  intro pins s σ H Q I hw
  refine wpAny_isTrue_Compare1 (thn (h pins s σ H _ I hw) fun v s1 h1 => thn h1 fun u s2 h2 => thn h2 fun c s3 ⟨x, H1, I1, r1, q1⟩ => ?_) h1
  obtain ⟨d, rfl, q⟩ := q1
  cases r1
  exact wpAny_truthy_bool ⟨H1, I1, q⟩
/-- an expression whose value is a bool, as a test -/
theorem pt_val {e : Expr} {t : TE} (h : PE X e t) (he : ∀ whole, isTrue e X.env whole = (do let v ← whole; standAt e.pos; holding [v] (truthy v)) := by intro _; rfl) : PT X e (tB t) := by
  intro pins s σ H Q I hw
  refine isTrue_plain (thn (h pins s σ H _ I hw) fun v s1 ⟨x, H1, I1, r1, q1⟩ => ?_) (he _)
  obtain ⟨d, rfl, q⟩ := q1
  cases r1
  exact wpAny_truthy_bool ⟨H1, I1, q⟩

/-! ### and, or, not -/
variable {tA tB' : TT} {rest : List Expr}
def tAnd (t u : TT) : TT := fun σ H Q => t σ H fun c H1 => if c = true then u σ H1 Q else Q false H1
def tOr (t u : TT) : TT := fun σ H Q => t σ H fun c H1 => if c = true then Q true H1 else u σ H1 Q
def tNot (t : TT) : TT := fun σ H Q => t σ H fun c H1 => Q (!c) H1
theorem pw_and1 (ha : PT X a tA) : PW X (.BoolOp .And [a] pos) tA := by
  intro wh pins s σ H Q I h
  refine isTrue_and (thn (ha pins s σ H Q I h) fun c s1 e => ?_)
  cases c with
  | true => exact isTrue_and_nil e
  | false => exact e
theorem pw_or1 (ha : PT X a tA) : PW X (.BoolOp .Or [a] pos) tA := by
  intro wh pins s σ H Q I h
  refine isTrue_or (thn (ha pins s σ H Q I h) fun c s1 e => ?_)
  cases c with
  | false => exact isTrue_or_nil e
  | true => exact e
theorem pw_and (ha : PT X a tA) (hb : PW X (.BoolOp .And (b :: rest) pos) tB') : PW X (.BoolOp .And (a :: b :: rest) pos) (tAnd tA tB') := by
  intro wh pins s σ H Q I h
  refine isTrue_and (thn (ha pins s σ H _ I h) fun c s1 ⟨H1, I1, q1⟩ => ?_)
  cases c with
  | true => exact hb wh pins s1 σ H1 Q I1 q1
  | false => exact ⟨H1, I1, q1⟩
theorem pw_or (ha : PT X a tA) (hb : PW X (.BoolOp .Or (b :: rest) pos) tB') : PW X (.BoolOp .Or (a :: b :: rest) pos) (tOr tA tB') := by
  intro wh pins s σ H Q I h
  refine isTrue_or (thn (ha pins s σ H _ I h) fun c s1 ⟨H1, I1, q1⟩ => ?_)
  cases c with
  | true => exact ⟨H1, I1, q1⟩
  | false => exact hb wh pins s1 σ H1 Q I1 q1
theorem pt_not (ha : PT X a tA) : PT X (.UnaryOp .Not a pos) (tNot tA) := by
  intro pins s σ H Q I h
  exact isTrue_not (ha pins s σ H (fun c H1 => Q (!c) H1) I h)
/-- .. as values (bools) -/
def tAndV (ta tb : TE) : TE := fun σ H Q => ta σ H fun x H1 => ∃ c, x = .bl c ∧ if c = true then tb σ H1 Q else Q (.bl false) H1
def tOrV (ta tb : TE) : TE := fun σ H Q => ta σ H fun x H1 => ∃ c, x = .bl c ∧ if c = true then Q (.bl true) H1 else tb σ H1 Q
def tNotV (ta : TE) : TE := fun σ H Q => ta σ H fun x H1 => ∃ c, x = .bl c ∧ Q (.bl (!c)) H1
theorem pe_one {op} {t : TE} (h : PE X a t) : PE X (.BoolOp op [a] pos) t := fun pins s σ H Q I hw => BoolOp_one (h pins s σ H Q I hw)
theorem pe_and (ha : PE X a ta) (hb : PE X (.BoolOp .And (b :: rest) pos) tb) : PE X (.BoolOp .And (a :: b :: rest) pos) (tAndV ta tb) := by
  intro pins s σ H Q I h
  refine BoolOp_and (thn (ha pins s σ H _ I h) fun v s1 ⟨x, H1, I1, r1, q1⟩ => ?_)
  obtain ⟨c, rfl, q1⟩ := q1
  cases r1
  refine wpAny_truthy_bool ?_
  cases c with
  | true => exact hb pins s1 σ H1 Q I1 q1
  | false => exact ⟨.bl false, H1, I1, rfl, q1⟩
theorem pe_not (ha : PE X a ta) : PE X (.UnaryOp .Not a pos) (tNotV ta) := by
  intro pins s σ H Q I h
  refine UnaryOp_ (thn (ha pins s σ H _ I h) fun v s1 ⟨x, H1, I1, r1, q1⟩ => ?_)
  obtain ⟨c, rfl, q1⟩ := q1
  cases r1
  exact not_of (wpAny_truthy_bool ⟨.bl (!c), H1, I1, rfl, q1⟩)
/-- a if t else b -/
def tIf (t : TT) (ta tb : TE) : TE := fun σ H Q => t σ H fun c H1 => if c = true then ta σ H1 Q else tb σ H1 Q
theorem pe_ifExp {c : Expr} (hc : PT X c tA) (ha : PE X a ta) (hb : PE X b tb) : PE X (.IfExp c a b pos) (tIf tA ta tb) := by
  intro pins s σ H Q I h
  refine wpAny_IfExp (thn (hc pins s σ H _ I h) fun d s1 ⟨H1, I1, q1⟩ => ?_)
  cases d with
  | true => exact ha pins s1 σ H1 Q I1 q1
  | false => exact hb pins s1 σ H1 Q I1 q1
end
end L2

namespace L2
open PySem PySem.Spec PyProof.Rows

/-! ### a list, a tuple that is read: tracked, frozen, or an object of the module -/
def SqL (K : PySem.W.Frag) (H : Hp) (a : Addr) (xs : List V) : Prop :=
  Rd H a (.lst xs) ∨
    ∃ (o : Obj) (its : Array Value) (n : Nat), K.lookup a = some o ∧ o.cls = .type "list" ∧ o.dict = none ∧ o.data = .seq its n ∧ its.size ≤ sizeLine ∧ Vals xs its.toList
def SqT (K : PySem.W.Frag) (H : Hp) (a : Addr) (xs : List V) : Prop :=
  Rd H a (.tup xs) ∨
    (∃ (o : Obj) (its : Array Value) (n : Nat), K.lookup a = some o ∧ o.cls = .type "tuple" ∧ o.data = .seq its n ∧ its.size ≤ sizeLine ∧ Vals xs its.toList) ∨ H a = some (.par xs)
def absV : Value → Option V
  | .none => some .non
  | .bool b => some (.bl b)
  | .int i _ => some (.int i)
  | .str x _ => some (.str x)
  | .bytes b _ => some (.byt b)
  | .float b _ => some (.flt b)
  | .ref a => some (.ref a)
  | .type n => some (.ty n)
  | _ => none
theorem RelV.abs {x : V} {u : Value} (r : RelV x u) : absV u = some x := by
  cases x with
  | non => cases r; rfl
  | bl _ => cases r; rfl
  | int _ => obtain ⟨t, rfl⟩ := r; rfl
  | str _ => obtain ⟨t, rfl⟩ := r; rfl
  | byt _ => obtain ⟨t, rfl⟩ := r; rfl
  | flt _ => obtain ⟨t, rfl⟩ := r; rfl
  | ref _ => cases r; rfl
  | ty _ => cases r; rfl
theorem RelV.inj {x y : V} {u : Value} (r : RelV x u) (q : RelV y u) : x = y := Option.some.inj (r.abs.symm.trans q.abs)
theorem Vals.inj : ∀ {xs ys : List V} {us : List Value}, Vals xs us → Vals ys us → xs = ys
  | _, _, _, .nil, .nil => rfl
  | _, _, _, .cons r t, .cons r' t' => by rw [r.inj r', Vals.inj t t']
section
variable {X : Cx} {pins : List (Addr × Obj)} {σ : St} {H : Hp} {s : Shared} {a : Addr} {xs ys : List V}
theorem SqL.of {K : PySem.W.Frag} (h : H a = some (.lst xs)) : SqL K H a xs := .inl (.inl h)
theorem SqT.of {K : PySem.W.Frag} (h : H a = some (.tup xs)) : SqT K H a xs := .inl (.inl h)
theorem SqT.ofP {K : PySem.W.Frag} (h : H a = some (.par xs)) : SqT K H a xs := .inr (.inr h)
theorem Inv.list (I : Inv X pins σ H s) (h : SqL X.K H a xs) : ∃ its : List Value, Vals xs its ∧ PlainL s.heap a its.toArray ∧ xs.length ≤ sizeLine := by
  rcases h with h | ⟨o, its, n, hk, hc, hd, hs, hz, r⟩
  · obtain ⟨z, its, n, r, e⟩ := h.ok I.hok
    exact ⟨its, r, ⟨_, n, e, rfl, rfl, rfl⟩, z⟩
  · refine ⟨its.toList, r, ⟨o, n, I.kIn a o hk, hc, hd, by simpa using hs⟩, ?_⟩
    have e := r.length
    simp only [Array.length_toList] at e
    omega
theorem Inv.tuple (I : Inv X pins σ H s) (h : SqT X.K H a xs) : ∃ its : List Value, Vals xs its ∧ IsTup s.heap a its.toArray ∧ xs.length ≤ sizeLine := by
  rcases h with h | ⟨o, its, n, hk, hc, hs, hz, r⟩ | h
  · obtain ⟨z, its, r, p, _⟩ := h.ok I.hok
    exact ⟨its, r, p, z⟩
  rotate_left
  · obtain ⟨z, its, r, p⟩ := (show ObjOk X.prog X.w H s.heap a (.par xs) from I.hok a _ h)
    exact ⟨its, r, p, z⟩
  · refine ⟨its.toList, r, ⟨o, I.kIn a o hk, hc, n, by simpa using hs⟩, ?_⟩
    have e := r.length
    simp only [Array.length_toList] at e
    omega
theorem Inv.list_inj (I : Inv X pins σ H s) (h : SqL X.K H a xs) (h' : SqL X.K H a ys) : xs = ys := by
  obtain ⟨its, r, ⟨o, n, e, _, _, d⟩, _⟩ := I.list h
  obtain ⟨its', r', ⟨o', n', e', _, _, d'⟩, _⟩ := I.list h'
  rw [e] at e'; cases e'
  rw [d] at d'
  injection d' with d1 _
  have : its = its' := by simpa using congrArg Array.toList d1
  subst this
  exact r.inj r'
theorem Inv.tuple_inj (I : Inv X pins σ H s) (h : SqT X.K H a xs) (h' : SqT X.K H a ys) : xs = ys := by
  obtain ⟨its, r, ⟨o, e, _, n, d⟩, _⟩ := I.tuple h
  obtain ⟨its', r', ⟨o', e', _, n', d'⟩, _⟩ := I.tuple h'
  rw [e] at e'; cases e'
  rw [d] at d'
  injection d' with d1 _
  have : its = its' := by simpa using congrArg Array.toList d1
  subst this
  exact r.inj r'
end

/-! ### another wish about exceptions -/
abbrev Cx.wish (X : Cx) (E : Value → Shared → Prop) : Cx := { X with xe := E }
/-- no exception leaves -/
abbrev Cx.nox (X : Cx) : Cx := X.wish fun _ _ => False
theorem Cx.Ok.wish {X : Cx} (ok : X.Ok) (E : Value → Shared → Prop) : (X.wish E).Ok :=
  ⟨ok.mod, ok.kind, ok.glob, ok.blt, ok.above, ok.inj, ok.has, ok.cab, ok.hd, ok.frames, ok.stk, ok.exf, ok.bs, ok.bsz, ok.noex, ok.exfs, ok.funs, ok.frf⟩
theorem Cx.Ok.unwish {X : Cx} {E : Value → Shared → Prop} (ok : (X.wish E).Ok) : X.Ok :=
  ⟨ok.mod, ok.kind, ok.glob, ok.blt, ok.above, ok.inj, ok.has, ok.cab, ok.hd, ok.frames, ok.stk, ok.exf, ok.bs, ok.bsz, ok.noex, ok.exfs, ok.funs, ok.frf⟩
section
variable {X : Cx} {pins : List (Addr × Obj)} {σ : St} {H : Hp} {s : Shared} {E : Value → Shared → Prop}
theorem Inv.wish (I : Inv X pins σ H s) (E : Value → Shared → Prop) : Inv (X.wish E) pins σ H s := ⟨I.ok.wish E, I.os, I.bare, I.base, I.loc, I.cell, I.free, I.freeC, I.pin, I.hok, I.len⟩
theorem Inv.unwish (I : Inv (X.wish E) pins σ H s) : Inv X pins σ H s := ⟨I.ok.unwish, I.os, I.bare, I.base, I.loc, I.cell, I.free, I.freeC, I.pin, I.hok, I.len⟩
theorem SP.unwish {D : Ends} {f : Flow} {s' : Shared} (h : SP (X.wish E) pins D f s') : SP X pins D f s' := by
  cases f with
  | next => obtain ⟨σ', H', I, q⟩ := h; exact ⟨σ', H', I.unwish, q⟩
  | brk => obtain ⟨σ', H', I, q⟩ := h; exact ⟨σ', H', I.unwish, q⟩
  | cont => obtain ⟨σ', H', I, q⟩ := h; exact ⟨σ', H', I.unwish, q⟩
  | ret u => obtain ⟨v, σ', H', I, r, q⟩ := h; exact ⟨v, σ', H', I.unwish, r, q⟩
theorem PSs.nox {st : List Stmt} {t : TS} (h : PSs X.nox st t) : PSs X st t := fun pins s σ H D I hw =>
  wpAny_mono (h pins s σ H D (I.wish _) hw) (fun _ _ q => q.unwish) fun _ _ z => False.elim z
end

/-! ### blocks and small statements -/
section
variable {X : Cx} {st : Stmt} {rest : List Stmt} {t u : TS} {e : Expr} {te : TE} {pos : Pos}
def tNext : TS := fun D σ H => D.nx σ H
def tSeq (t u : TS) : TS := fun D σ H => t { D with nx := u D } σ H
theorem pss_nil : PSs X [] tNext := fun _ _ σ H _ I h => wpAny_execs_nil ⟨σ, H, I, h⟩
theorem pss_cons (h1 : PS X st t) (h2 : PSs X rest u) : PSs X (st :: rest) (tSeq t u) := by
  intro pins s σ H D I h
  refine wpAny_execs_cons (thn (h1 pins s σ H { D with nx := u D } I h) fun f s1 q => ?_)
  cases f with
  | next =>
    obtain ⟨σ', H', I', q⟩ := q
    exact h2 pins s1 σ' H' D I' q
  | ret v => exact q
  | brk => exact q
  | cont => exact q
theorem pss_one (h1 : PS X st t) : PSs X [st] t := by
  intro pins s σ H D I h
  refine wpAny_execs_cons (thn (h1 pins s σ H D I h) fun f s1 q => ?_)
  cases f with
  | next => exact wpAny_execs_nil q
  | ret v => exact q
  | brk => exact q
  | cont => exact q
def tBreak : TS := fun D σ H => D.bk σ H
def tCont : TS := fun D σ H => D.ct σ H
/-- in a def's body nothing is shown -/
theorem Inv.quiet {pins : List (Addr × Obj)} {σ : St} {H : Hp} {s : Shared} (I : Inv X pins σ H s) : interactive X.env = false := by simp [interactive, I.ok.kind]
/-- an expression whose value is dropped -/
def tDrop (te : TE) : TS := fun D σ H => te σ H fun _ H1 => D.nx σ H1
theorem ps_expr (he : PE X e te) (hs : swapsWith e none pos.line X.env = pure false := by rfl) : PS X (.Expr e pos) (tDrop te) := by
  intro pins s σ H D I h
  exact wpAny_Expr_any (thn (he pins s σ H _ I h) fun v s1 ⟨x, H1, I1, r1, q1⟩ => ⟨σ, H1, I1, q1⟩) I.quiet hs
def tRet (te : TE) : TS := fun D σ H => te σ H D.rt
theorem ps_ret (he : PE X e te) : PS X (.Return (some e) pos) (tRet te) := by
  intro pins s σ H D I h
  exact wpAny_Return_some (thn (he pins s σ H _ I h) fun v s1 ⟨x, H1, I1, r1, q1⟩ => ⟨x, σ, H1, I1, r1, q1⟩)
def tRetN : TS := fun D _ H => D.rt .non H
def tIfS (c : TT) (t u : TS) : TS := fun D σ H => c σ H fun b H1 => if b = true then t D σ H1 else u D σ H1
theorem ps_if {c : Expr} {a b : List Stmt} {tc : TT} (hc : PT X c tc) (ha : PSs X a t) (hb : PSs X b u) : PS X (.If c a b pos) (tIfS tc t u) := by
  intro pins s σ H D I h
  refine wpAny_If (thn (hc pins s σ H _ I h) fun d s1 ⟨H1, I1, q1⟩ => ?_)
  cases d with
  | true => exact ha pins s1 σ H1 D I1 q1
  | false => exact hb pins s1 σ H1 D I1 q1
/-- code that the proof never comes to -/
def tNever : TS := fun _ _ _ => False
theorem pss_never {sts : List Stmt} : PSs X sts tNever := fun _ _ _ _ _ _ h => h.elim
end

/-! ### targets -/
abbrev TG := V → St → Hp → (St → Hp → Prop) → Prop
abbrev TGs := List V → St → Hp → (St → Hp → Prop) → Prop
def PG (X : Cx) (target : Expr) (t : TG) : Prop :=
  ∀ (pins : List (Addr × Obj)) (s : Shared) (σ : St) (H : Hp) (v : V) (u : Value) (Q : St → Hp → Prop), Inv X pins σ H s → RelV v u → t v σ H Q →
    wpAny (model X.prog X.w) X.A (assign target X.env u) (fun _ s' => ∃ σ' H', Inv X pins σ' H' s' ∧ Q σ' H') X.xe s
/-- several targets, one after another -/
def PGs (X : Cx) (ts : List Expr) (t : TGs) : Prop :=
  ∀ (pins : List (Addr × Obj)) (s : Shared) (σ : St) (H : Hp) (vs : List V) (us : List Value) (Q : St → Hp → Prop), Inv X pins σ H s → Vals vs us → t vs σ H Q →
    wpAny (model X.prog X.w) X.A (assignInOrder ((assignEach ts X.env).map (·.2)) us) (fun _ s' => ∃ σ' H', Inv X pins σ' H' s' ∧ Q σ' H') X.xe s
/-- o[i] = v, by values -/
abbrev TSet := V → V → V → Hp → (Hp → Prop) → Prop
def PSet (X : Cx) (t : TSet) : Prop :=
  ∀ (pins : List (Addr × Obj)) (s : Shared) (σ : St) (H : Hp) (o i v : V) (ov iv u : Value) (Q : Hp → Prop), Inv X pins σ H s → RelV o ov → RelV i iv → RelV v u → t o i v H Q →
    wpAny (model X.prog X.w) X.A (setItem ov iv u) (fun _ s' => ∃ H', Inv X pins σ H' s' ∧ Q H') X.xe s
/-- a op= b, by values -/
abbrev TIp := V → V → Hp → VK → Prop
def PIp (X : Cx) (op : Operator) (t : TIp) : Prop :=
  ∀ (pins : List (Addr × Obj)) (s : Shared) (σ : St) (H : Hp) (x y : V) (v u : Value) (Q : VK), Inv X pins σ H s → RelV x v → RelV y u → t x y H Q →
    wpAny (model X.prog X.w) X.A (inplaceOp op v u) (EP X pins σ Q) X.xe s
section
variable {X : Cx} {pos : Pos}
def gName (i : Nat) : TG := fun v σ H Q => Q (σ.set i (some v)) H
theorem pg_name {i : Nat} {x : Str} (hN : X.N.Nodup) (hi : X.N[i]? = some x) (hx : Loc X.env.scope x) (hf : X.fn x = true ∨ X.env.scope.names.lookup x = some .local := by first | exact .inl rfl | exact .inr rfl | assumption) : PG X (.Name x pos) (gName i) := by
  intro pins s σ H v u Q I r h
  exact wpAny_assign_Name (store_ok I hN hi hx r (fun s' I' => ⟨_, H, I', h⟩) hf)
def gNil : TGs := fun vs σ H Q => vs = [] ∧ Q σ H
def gCons (t : TG) (u : TGs) : TGs := fun vs σ H Q => ∃ v r, vs = v :: r ∧ t v σ H fun σ' H' => u r σ' H' Q
theorem pgs_nil : PGs X [] gNil := by
  intro pins s σ H vs us Q I r h
  obtain ⟨e, h⟩ := h
  subst e
  cases r
  exact assignInOrder_nil ⟨σ, H, I, h⟩
theorem pgs_cons {e : Expr} {es : List Expr} {t : TG} {u : TGs} (h1 : PG X e t) (h2 : PGs X es u)
    (hs : (assignEach (e :: es) X.env).map (·.2) = assign e X.env :: (assignEach es X.env).map (·.2) := by rfl) : PGs X (e :: es) (gCons t u) := by
  intro pins s σ H vs us Q I r h
  obtain ⟨v, vr, e1, h⟩ := h
  subst e1
  cases r with
  | cons r rr =>
    rw [hs]
    refine assignInOrder_cons (thn (h1 pins s σ H _ _ _ I r h) fun _ s1 ⟨σ1, H1, I1, q1⟩ => ?_)
    exact h2 pins s1 σ1 H1 _ _ Q I1 rr q1
/-- (a, b, ..) = a tuple of that length -/
def gTup (K : PySem.W.Frag) (n : Nat) (t : TGs) : TG := fun v σ H Q => ∃ a xs, v = .ref a ∧ SqT K H a xs ∧ xs.length = n ∧ t xs σ H Q
theorem pg_tup {es : List Expr} {k : Nat} {t : TGs} {n : Nat} (hc : X.calm = true) (h : PGs X es t)
    (hn : (assignEach es X.env).length = n := by rfl) (hst : (assignEach es X.env).findIdx? (·.1) = none := by rfl) : PG X (.Tuple es k pos) (gTup X.K n t) := by
  intro pins s σ H v u Q I r hw
  obtain ⟨a, xs, e1, hq, hl, hw⟩ := hw
  subst e1
  cases r
  obtain ⟨its, rv, ht, hz⟩ := I.tuple hq
  refine assign_Tuple_tuple (I.ok.hd hc) ht (by simp [hn, ← hl, rv.length]) hst fun h' hx => ?_
  have I1 : Inv X pins σ H { s with heap := h' } := I.kept (t' := s.toks) fun b o e => hx b o (Nat.ne_of_lt (Heap.lt_size e)) e
  exact h pins _ σ H xs _ Q I1 (by simpa using rv) hw
/-- o[i] = .. -/
def gSub (to ti : TE) (t : TSet) : TG := fun v σ H Q => to σ H fun o H1 => ti σ H1 fun i H2 => t o i v H2 fun H3 => Q σ H3
theorem pg_sub {o i : Expr} {to ti : TE} {t : TSet} (ho : PE X o to) (hi : PE X i ti) (hs : PSet X t)
    (ha : ∀ v, assign (.Subscript o i pos) X.env v = (do
      let ov ← holding [v] (eval o X.env)
      let iv ← holding [v, ov] (eval i X.env)
      standAt pos
      holding [v, ov, iv] (setItem ov iv v)
      release [v, ov, iv] []) := by intro _; rfl) : PG X (.Subscript o i pos) (gSub to ti t) := by
  intro pins s σ H v u Q I r h
  rw [ha]
  refine wpAny_bind (wpAny_holding (thn (ho pins s σ H _ I h) fun ov s1 ⟨x, H1, I1, r1, q1⟩ => ?_))
  refine wpAny_bind (wpAny_holding (thn (hi pins s1 σ H1 _ I1 q1) fun iv s2 ⟨y, H2, I2, r2, q2⟩ => ?_))
  refine wpAny_bind (wpAny_standAt (wpAny_bind (wpAny_holding (thn (hs pins s2 σ H2 x y v ov iv u _ I2 r1 r2 r q2) fun _ s3 ⟨H3, I3, q3⟩ => ?_))))
  exact wpAny_release ⟨σ, H3, I3, q3⟩
/-- target = value -/
def tAsg (te : TE) (g : TG) : TS := fun D σ H => te σ H fun x H1 => g x σ H1 D.nx
theorem ps_asg {tg e : Expr} {te : TE} {g : TG} (he : PE X e te) (hg : PG X tg g) (hs : swapsWithSole [tg] e pos.line X.env = pure false := by rfl) (hw : swappedStores [tg] e X.env = pure none := by rfl)
    (h1 : (assignEach [tg] X.env).map (·.2) = [assign tg X.env] := by rfl) : PS X (.Assign [tg] e pos) (tAsg te g) := by
  intro pins s σ H D I h
  refine wpAny_Assign_stores (thn (he pins s σ H _ I h) fun v s1 ⟨x, H1, I1, r1, q1⟩ => ?_) hs hw
  rw [h1]
  exact thn (hg pins s1 σ H1 x v _ I1 r1 q1) fun _ s2 q => q
/-- name = value -/
theorem ps_set {i : Nat} {x : Str} {e : Expr} {te : TE} {pos' : Pos} (hN : X.N.Nodup) (hi : X.N[i]? = some x) (hx : Loc X.env.scope x) (he : PE X e te) (hs : swapsWith e (some (.Name x pos')) pos.line X.env = pure false := by rfl) (hf : X.fn x = true ∨ X.env.scope.names.lookup x = some .local := by first | exact .inl rfl | exact .inr rfl | assumption) :
    PS X (.Assign [.Name x pos'] e pos) (tAsg te (gName i)) := by
  intro pins s σ H D I h
  refine wpAny_Assign_Name (thn (he pins s σ H _ I h) fun v s1 ⟨y, H1, I1, r1, q1⟩ => ?_) hs
  exact store_ok I1 hN hi hx r1 (fun s2 I2 => ⟨_, H1, I2, q1⟩) hf
/-- a, b = x, y with plain local names: stored from the right; the pair itself is not tracked (the opening rows as in PyProof/Rows/TupAssign.lean:23) -/
def tPar (i j : Nat) (ta : TA) : TS := fun D σ H => ta σ H fun vs H1 => ∃ v w, vs = [v, w] ∧ D.nx ((σ.set i (some v)).set j (some w)) H1
theorem ps_par {i j : Nat} {x y : Str} {a b : Expr} {ta : TA} {px py pt : Pos} {kt k2 pt2} (hc : X.calm = true) (hN : X.N.Nodup) (hi : X.N[i]? = some x) (hj : X.N[j]? = some y) (hij : i ≠ j)
    (hx : X.env.scope.names.lookup x = some .local) (hy : X.env.scope.names.lookup y = some .local) (ha : PA X [a, b] ta)
    (hw : swappedStores [.Tuple [.Name x px, .Name y py] kt pt] (.Tuple [a, b] k2 pt2) X.env = pure (some [x, y]))
    (hs : swapsWithSole [.Tuple [.Name x px, .Name y py] kt pt] (.Tuple [a, b] k2 pt2) pos.line X.env = pure false := by rfl) :
    PS X (.Assign [.Tuple [.Name x px, .Name y py] kt pt] (.Tuple [a, b] k2 pt2) pos) (tPar i j ta) := by
  intro pins s σ H D I h
  rw [exec_Assign_arm]
  refine wpAny_bind (wpAny_standAt ?_)
  rw [hs]
  refine wpAny_bind (wpAny_pure ?_)
  rw [if_neg (by decide)]
  refine wpAny_bind (Tuple_ (thn (ha _ pins s σ H _ I h) fun us s1 ⟨vs, H1, I1, r1, q1⟩ => ?_))
  obtain ⟨v, w, e1, q1⟩ := q1
  subst e1
  obtain ⟨u1, u2, rfl, rv, rw'⟩ : ∃ u1 u2, us = [u1, u2] ∧ RelV v u1 ∧ RelV w u2 := by
    cases r1 with
    | cons p q =>
      cases q with
      | cons p' q' =>
        cases q'
        exact ⟨_, _, rfl, p, p'⟩
  refine wpAny_newObj_type ?_ (by show 2 ≤ sizeLine; decide)
  have I2 : Inv X pins σ H1 { s1 with heap := s1.heap.push { cls := .type "tuple", data := .seq [u1, u2].toArray } } := I1.kept (t' := s1.toks) fun b o e => Heap.get?_push_of_some _ e
  rw [hw]
  refine wpAny_bind (wpAny_pure ?_)
  show wpAny (model X.prog X.w) X.A (do rule "assign.swapped-stores"; let items ← unpackItems (.ref s1.heap.objs.size) 2 none; assignInOrder [fun v => bindName X.env y v, fun v => bindName X.env x v] items.reverse; pure Flow.next) _ _ _
  refine wpAny_bind (wpAny_rule (wpAny_bind (unpackItems_tuple (items := #[u1, u2]) (I.ok.hd hc) (IsTup.new s1.heap _) fun h' hx' => ?_)))
  have I3 := I2.kept (h' := h') (t' := s1.toks) fun b o e => hx' b o (Nat.ne_of_lt (Heap.lt_size e)) e
  show wpAny _ _ (assignInOrder [fun v => bindName X.env y v, fun v => bindName X.env x v] [u2, u1] >>= fun _ => pure Flow.next) _ _ _
  refine wpAny_bind (assignInOrder_cons (wpAny_bindName (store_ok I3 hN hj (.inl hy) rw' (fun s2 I4 => ?_) (.inr hy))))
  refine assignInOrder_cons (wpAny_bindName (store_ok I4 hN hi (.inl hx) rv (fun s3 I5 => assignInOrder_nil (wpAny_pure ?_)) (.inr hx)))
  rw [List.set_comm _ _ (Ne.symm hij)] at I5
  exact ⟨_, H1, I5, q1⟩
/-- name op= e -/
def tAug (i : Nat) (te : TE) (ti : TIp) : TS := fun D σ H => ∃ x, σ[i]? = some (some x) ∧ te σ H fun y H1 => ti x y H1 fun z H2 => D.nx (σ.set i (some z)) H2
/-- o[i] op= e -/
def tAugS (to ti te : TE) (tget : V → V → Hp → VK → Prop) (tip : TIp) (tset : TSet) : TS := fun D σ H => to σ H fun o H1 => ti σ H1 fun i H2 => tget o i H2 fun x H3 => te σ H3 fun y H4 => tip x y H4 fun z H5 => tset o i z H5 fun H6 => D.nx σ H6
/-- o[i], by values -/
def PGet (X : Cx) (t : V → V → Hp → VK → Prop) : Prop :=
  ∀ (pins : List (Addr × Obj)) (s : Shared) (σ : St) (H : Hp) (o i : V) (ov iv : Value) (Q : VK), Inv X pins σ H s → RelV o ov → RelV i iv → t o i H Q →
    wpAny (model X.prog X.w) X.A (getItem ov iv) (EP X pins σ Q) X.xe s
/-- ints -/
def ipI (f : Int → Int → Int) : TIp := fun x y H Q => ∃ i j, x = .int i ∧ y = .int j ∧ Q (.int (f i j)) H
end

/-! ### while -/
section
variable {X : Cx} {pos : Pos}
/-- the invariant W with its measure -/
def tWhile (c : TT) (tb : TS) : TS := fun D σ H => ∃ W : Nat → St → Hp → Prop, (∃ m, W m σ H) ∧ ∀ m σ H, W m σ H →
  c σ H fun b H1 => if b = true then ∃ N : St → Hp → Prop, (∀ σ' H', N σ' H' → ∃ m', m' < m ∧ W m' σ' H') ∧ tb { D with nx := N, ct := N, bk := D.nx } σ H1 else D.nx σ H1
end

/-! ### what a loop or a comprehension walks -/
/-- at turn i: it yields x (the heap may grow), or it stops -/
structure It where
  go : Nat → Hp → Prop
  yld : Nat → Hp → V → Hp → Prop
  stop : Nat → Hp → Prop
/-- the iterator's own objects may turn: they are not the frame's, not pinned, younger than the entry (or a comprehension's own) -/
def FpOk (X : Cx) (pins : List (Addr × Obj)) (H : Hp) (b : Addr) : Prop :=
  H b = none ∧ b ≠ X.env.locals ∧ b ∉ X.fs ∧ (b ∈ X.ex ∨ X.s₀.heap.objs.size ≤ b) ∧ (∀ x c, X.env.cells.lookup x = some c → c ≠ b) ∧ ∀ p ∈ X.pn ++ pins, p.1 ≠ b
theorem Inv.fpOk {X : Cx} {pins : List (Addr × Obj)} {σ : St} {H H' : Hp} {s : Shared} {b : Addr} (I : Inv X pins σ H s) (hb : s.heap.objs.size ≤ b) (hn : H' b = none) : FpOk X pins H' b := by
  refine ⟨hn, Nat.ne_of_gt (Nat.lt_of_lt_of_le I.lt hb), I.nofs hb, .inr (Nat.le_trans I.sz hb), fun x c e z => ?_, fun p hp z => ?_⟩
  · obtain ⟨v, q⟩ := I.cell x c e
    exact absurd (Nat.lt_of_lt_of_le q.lt (by rw [z]; exact hb)) (Nat.lt_irrefl _)
  · exact absurd (Nat.lt_of_lt_of_le (Heap.lt_size (I.pin p hp).1) (by rw [z]; exact hb)) (Nat.lt_irrefl _)
structure Turn (P : Program) (w : World) (K : PySem.W.Frag) (tg : Expr) (J : It) (fp : List Addr) (it : Addr) (tn : Nat → Heap → Prop) : Prop where
  mem : it ∈ fp
  obj : ∀ i h, tn i h → ∀ b ∈ fp, ∃ o, h.get? b = some o ∧ ∀ v, o.data ≠ .cell v
  keep : ∀ i h h', tn i h → (∀ b ∈ fp, ∀ o, h.get? b = some o → h'.get? b = some o) → tn i h'
  item : ∀ (X : Cx), X.prog = P → X.w = w → X.K = K → X.calm = true → ∀ (i : Nat) (pins : List (Addr × Obj)) (s : Shared) (σ : St) (H : Hp) (E : Value → Shared → Prop), Inv X pins σ H s → (∀ b ∈ fp, FpOk X pins H b) → tn i s.heap → J.go i H →
    wpAny (model P w) X.A (pyNext (.ref it)) (fun r s1 => ∃ u, r = some u ∧
      wpAny (model P w) X.A (letOwnedTupleGo tg (.ref it) u) (fun _ s2 => ∃ x H', Inv X pins σ H' s2 ∧ RelV x u ∧ J.yld i H x H' ∧ tn (i + 1) s2.heap ∧ ∀ b ∈ fp, H' b = none) E s1) E s
  done : ∀ (X : Cx), X.prog = P → X.w = w → X.K = K → X.calm = true → ∀ (i : Nat) (pins : List (Addr × Obj)) (s : Shared) (σ : St) (H : Hp) (E : Value → Shared → Prop), Inv X pins σ H s → (∀ b ∈ fp, FpOk X pins H b) → tn i s.heap → J.stop i H →
    wpAny (model P w) X.A (pyNext (.ref it)) (fun r s1 => r = none ∧ Inv X pins σ H s1) E s
  self : ∀ (A : Around) (i : Nat) (s : Shared) (Q : Value → Shared → Prop) (E : Value → Shared → Prop), tn i s.heap → Q (.ref it) s → wpAny (model P w) A (pyIter (.ref it)) Q E s
abbrev TI := St → Hp → (It → Hp → Prop) → Prop
/-- an iterator has come -/
def PIE (X : Cx) (pins : List (Addr × Obj)) (σ : St) (tg : Expr) (R : It → Hp → Prop) (itv : Value) (s2 : Shared) : Prop :=
  ∃ (it : Addr) (fp : List Addr) (tn : Nat → Heap → Prop) (J : It) (H' : Hp), itv = .ref it ∧ Inv X pins σ H' s2 ∧ Turn X.prog X.w X.K tg J fp it tn ∧ tn 0 s2.heap ∧ (∀ b ∈ fp, FpOk X pins H' b) ∧ R J H'
def PI (X : Cx) (tg iter : Expr) (wi : TI) : Prop :=
  ∀ (pins : List (Addr × Obj)) (s : Shared) (σ : St) (H : Hp) (R : It → Hp → Prop), Inv X pins σ H s → wi σ H R →
    wpAny (model X.prog X.w) X.A (eval iter X.env) (fun v s1 => wpAny (model X.prog X.w) X.A (pyIter v) (PIE X pins σ tg R) X.xe s1) X.xe s

/-- the step ahead of the store is nothing for an iterator that keeps no tuple -/
theorem go_of {M : Model} {A : Around} {E : Value → Shared → Prop} {s : Shared} {tg : Expr} {it : Addr} {u : Value} {o : Obj} {n : String} {vs : Array Value} {Q : Unit → Shared → Prop} (ho : s.heap.get? it = some o) (hc : o.cls = .type n) (hd : o.data = .fields vs)
    (hn : ["enumerate", "zip", "dict_itemiterator", "dict_reverseitemiterator", "odict_iterator", "itertools.zip_longest", "itertools.pairwise"].contains n = false) (hQ : Q () s) : wpAny M A (letOwnedTupleGo tg (.ref it) u) Q E s := by
  unfold letOwnedTupleGo
  cases tg <;> first
    | exact wpAny_pure hQ
    | (cases u <;> first
        | exact wpAny_pure hQ
        | (refine wpAny_bind (wpAny_load ho ?_)
           rw [hc, hd]
           show wpAny M A (if (["enumerate", "zip", "dict_itemiterator", "dict_reverseitemiterator", "odict_iterator", "itertools.zip_longest", "itertools.pairwise"].contains n && vs[0]? == some (rawInt _)) = true then _ else _) Q E s
           rw [if_neg (by intro h; rw [hn, Bool.false_and] at h; cases h)]
           exact wpAny_pure hQ))

/-- the list at a, as it stands at each turn (a loop may append to it) -/
def Itl (K : PySem.W.Frag) (a : Addr) : It :=
  ⟨fun i H => ∃ xs x, SqL K H a xs ∧ xs[i]? = some x, fun i H x H' => H' = H ∧ ∀ xs, SqL K H a xs → xs[i]? = some x, fun i H => ∃ xs, SqL K H a xs ∧ xs.length ≤ i⟩
def Itt (K : PySem.W.Frag) (a : Addr) : It :=
  ⟨fun i H => ∃ xs x, SqT K H a xs ∧ xs[i]? = some x, fun i H x H' => H' = H ∧ ∀ xs, SqT K H a xs → xs[i]? = some x, fun i H => ∃ xs, SqT K H a xs ∧ xs.length ≤ i⟩
/-- lo, lo + 1, .. (n of them) -/
def Itr (lo : Int) (n : Nat) : It := ⟨fun i _ => i < n, fun i H x H' => H' = H ∧ x = .int (lo + i), fun i _ => n ≤ i⟩
theorem turn_list {P : Program} {w : World} {K : PySem.W.Frag} {tg : Expr} (a it : Addr) : Turn P w K tg (Itl K a) [it] it (fun i h => h.IsListIter it a i) where
  mem := by simp
  obj := fun i h st b hb => by
    have e : b = it := by simpa using hb
    subst e
    obtain ⟨o, e, c, d⟩ := st
    exact ⟨o, e, fun v z => by rw [d] at z; cases z⟩
  keep := fun i h h' st k => st.at fun o e => k it (by simp) o e
  item := by
    intro X hP hw hK hc i pins s σ H E I hf st hg
    subst hP hw hK
    obtain ⟨xs, x, hq, hx⟩ := hg
    obtain ⟨its, rv, p, hz⟩ := I.list hq
    obtain ⟨u, hu, ru⟩ := rv.get hx
    obtain ⟨f0, f1, f2, f3, f4, f5⟩ := hf it (by simp)
    refine wpAny_pyNext_list_item st p.isList (x := u) (by simpa using hu) fun h' st' sb => ?_
    have I1 : Inv X pins σ H { s with heap := h' } := I.turned (t' := s.toks) (fun b o hb e => (sb.2 b hb).trans e) f0 f1 f3 f4 f5
    obtain ⟨o, e, c, d⟩ := id st'
    exact ⟨u, rfl, go_of (s := { s with heap := h' }) e c d (by decide) ⟨x, H, I1, ru, ⟨rfl, fun ys hy => by rw [I.list_inj hy hq]; exact hx⟩, st', fun b hb => (hf b hb).1⟩⟩
  done := by
    intro X hP hw hK hc i pins s σ H E I hf st hg
    subst hP hw hK
    obtain ⟨xs, hq, hx⟩ := hg
    obtain ⟨its, rv, p, hz⟩ := I.list hq
    obtain ⟨f0, f1, f2, f3, f4, f5⟩ := hf it (by simp)
    have hl := rv.length
    exact wpAny_pyNext_list_end (I.ok.hd hc) st p.isList (by simp; omega) fun h' eb => ⟨rfl, I.turned (t' := s.toks) (fun b o hb e => eb b o hb e) f0 f1 f3 f4 f5⟩
  self := fun _ _ _ _ _ st h => wpAny_pyIter_listiter st h
theorem turn_tuple {P : Program} {w : World} {K : PySem.W.Frag} {tg : Expr} (a it : Addr) : Turn P w K tg (Itt K a) [it] it (fun i h => h.IsTupleIter it a i) where
  mem := by simp
  obj := fun i h st b hb => by
    have e : b = it := by simpa using hb
    subst e
    obtain ⟨o, e, c, d⟩ := st
    exact ⟨o, e, fun v z => by rw [d] at z; cases z⟩
  keep := fun i h h' st k => st.at fun o e => k it (by simp) o e
  item := by
    intro X hP hw hK hc i pins s σ H E I hf st hg
    subst hP hw hK
    obtain ⟨xs, x, hq, hx⟩ := hg
    obtain ⟨its, rv, p, hz⟩ := I.tuple hq
    obtain ⟨u, hu, ru⟩ := rv.get hx
    obtain ⟨f0, f1, f2, f3, f4, f5⟩ := hf it (by simp)
    refine wpAny_pyNext_tuple_item st (show s.heap.IsTuple a its.toArray from p) (x := u) (by simpa using hu) fun h' st' sb => ?_
    have I1 : Inv X pins σ H { s with heap := h' } := I.turned (t' := s.toks) (fun b o hb e => (sb.2 b hb).trans e) f0 f1 f3 f4 f5
    obtain ⟨o, e, c, d⟩ := id st'
    exact ⟨u, rfl, go_of (s := { s with heap := h' }) e c d (by decide) ⟨x, H, I1, ru, ⟨rfl, fun ys hy => by rw [I.tuple_inj hy hq]; exact hx⟩, st', fun b hb => (hf b hb).1⟩⟩
  done := by
    intro X hP hw hK hc i pins s σ H E I hf st hg
    subst hP hw hK
    obtain ⟨xs, hq, hx⟩ := hg
    obtain ⟨its, rv, p, hz⟩ := I.tuple hq
    obtain ⟨f0, f1, f2, f3, f4, f5⟩ := hf it (by simp)
    have hl := rv.length
    exact wpAny_pyNext_tuple_end (I.ok.hd hc) st (show s.heap.IsTuple a its.toArray from p) (by simp; omega) fun h' eb => ⟨rfl, I.turned (t' := s.toks) (fun b o hb e => eb b o hb e) f0 f1 f3 f4 f5⟩
  self := fun _ _ _ _ _ st h => wpAny_pyIter_tupleiter st h
theorem turn_range {P : Program} {w : World} {K : PySem.W.Frag} {tg : Expr} (it : Addr) (lo : Int) (n : Nat) : Turn P w K tg (Itr lo n) [it] it (fun i h => IsRangeIter h it (lo + (i : Nat) * 1) ((n : Int) - (i : Nat)) 1) where
  mem := by simp
  obj := fun i h st b hb => by
    have e : b = it := by simpa using hb
    subst e
    exact ⟨_, st, fun v z => by
      have z' : Data.fields _ = Data.cell v := z
      cases z'⟩
  keep := fun i h h' st k => k it (by simp) _ st
  item := by
    intro X hP hw hK hc i pins s σ H E I hf st hg
    subst hP hw hK
    obtain ⟨f0, f1, f2, f3, f4, f5⟩ := hf it (by simp)
    have W := Walks.range (prog := X.prog) (w := X.w) (I.ok.hd hc) it lo 1 n
    refine W.item i s _ _ hg st fun v h' tk hv st' kk => ?_
    obtain ⟨t, rfl⟩ := hv
    have I1 : Inv X pins σ H { s with heap := h', toks := tk } := I.turned (fun b o hb e => kk b o (by simpa using hb) e) f0 f1 f3 f4 f5
    refine ⟨_, rfl, go_of (s := { s with heap := h', toks := tk }) (n := "range_iterator") st' rfl rfl (by decide) ⟨.int (lo + i), H, I1, ⟨t, ?_⟩, ⟨rfl, rfl⟩, st', fun b hb => (hf b hb).1⟩⟩
    rw [Int.mul_one]
  done := by
    intro X hP hw hK hc i pins s σ H E I hf st hg
    subst hP hw hK
    obtain ⟨f0, f1, f2, f3, f4, f5⟩ := hf it (by simp)
    exact wpAny_pyNext_range_end (I.ok.hd hc) st (by have : n ≤ i := hg; omega) fun h' eb => ⟨rfl, I.turned (t' := s.toks) (fun b o hb e => eb b o hb e) f0 f1 f3 f4 f5⟩
  self := fun _ _ _ _ _ st h => wpAny_pyIter_rangeiter st h
end L2

namespace L2
open PySem PySem.Spec PyProof.Rows
section
variable {X : Cx} {tg : Expr}
def iList (K : PySem.W.Frag) (tl : TE) : TI := fun σ H R => tl σ H fun x H1 => ∃ a, x = .ref a ∧ (∃ xs, SqL K H1 a xs) ∧ R (Itl K a) H1
def iTup (K : PySem.W.Frag) (tl : TE) : TI := fun σ H R => tl σ H fun x H1 => ∃ a, x = .ref a ∧ (∃ xs, SqT K H1 a xs) ∧ R (Itt K a) H1
theorem pi_list {l : Expr} {tl : TE} (hl : PE X l tl) : PI X tg l (iList X.K tl) := by
  intro pins s σ H R I h
  refine thn (hl pins s σ H _ I h) fun v s1 ⟨x, H1, I1, r1, q1⟩ => ?_
  obtain ⟨a, e, ⟨xs, hq⟩, q⟩ := q1
  subst e
  cases r1
  obtain ⟨its, rv, p, hz⟩ := I1.list hq
  refine wpAny_pyIter_list p.isList ?_
  refine ⟨s1.heap.objs.size, [s1.heap.objs.size], _, _, H1, rfl, I1.kept (t' := s1.toks) fun b o e => Heap.get?_push_of_some _ e, turn_list a _, ⟨_, Heap.get?_push_size _ rfl, rfl, rfl⟩, fun b hb => ?_, q⟩
  have e : b = s1.heap.objs.size := by simpa using hb
  subst e
  exact I1.fpOk (Nat.le_refl _) (I1.hok.fresh (Nat.le_refl _))
theorem pi_tup {l : Expr} {tl : TE} (hl : PE X l tl) : PI X tg l (iTup X.K tl) := by
  intro pins s σ H R I h
  refine thn (hl pins s σ H _ I h) fun v s1 ⟨x, H1, I1, r1, q1⟩ => ?_
  obtain ⟨a, e, ⟨xs, hq⟩, q⟩ := q1
  subst e
  cases r1
  obtain ⟨its, rv, p, hz⟩ := I1.tuple hq
  refine wpAny_pyIter_tuple (show s1.heap.IsTuple a its.toArray from p) ?_
  refine ⟨s1.heap.objs.size, [s1.heap.objs.size], _, _, H1, rfl, I1.kept (t' := s1.toks) fun b o e => Heap.get?_push_of_some _ e, turn_tuple a _, ⟨_, Heap.get?_push_size _ rfl, rfl, rfl⟩, fun b hb => ?_, q⟩
  have e : b = s1.heap.objs.size := by simpa using hb
  subst e
  exact I1.fpOk (Nat.le_refl _) (I1.hok.fresh (Nat.le_refl _))
/-- a range object just made, walked -/
theorem range_it {pins : List (Addr × Obj)} {σ : St} {H : Hp} {s : Shared} {R : It → Hp → Prop} {E : Value → Shared → Prop} {lo hi : Int} {t u v : Tok} {tk : Nat} (I : Inv X pins σ H s) (h1 : -(2 ^ 62) ≤ lo) (h2 : lo < 2 ^ 62) (h3 : -(2 ^ 62) ≤ hi) (h4 : hi < 2 ^ 62)
    (q : R (Itr lo (hi - lo).toNat) H) : wpAny (model X.prog X.w) X.A (pyIter (.ref s.heap.objs.size)) (PIE X pins σ tg R) E { s with heap := s.heap.push { cls := .type "range", data := .fields #[.int lo t, .int hi u, .int 1 v] }, toks := tk } := by
  refine wpAny_pyIter_range (IsRange.new ..) (small_one h1 h2 h3 h4) ?_
  have I1 : Inv X pins σ H { s with heap := s.heap.push { cls := .type "range", data := .fields #[.int lo t, .int hi u, .int 1 v] }, toks := tk } := I.kept fun b o e => Heap.get?_push_of_some _ e
  refine ⟨(s.heap.push { cls := .type "range", data := .fields #[.int lo t, .int hi u, .int 1 v] }).objs.size, [(s.heap.push { cls := .type "range", data := .fields #[.int lo t, .int hi u, .int 1 v] }).objs.size], _, _, H, rfl,
    I1.kept (t' := tk) fun b o e => Heap.get?_push_of_some _ e, turn_range _ lo (hi - lo).toNat, ?_, fun b hb => ?_, q⟩
  · have e1 : lo + ((0 : Nat) : Int) * 1 = lo := by simp
    have e2 : (((hi - lo).toNat : Nat) : Int) - ((0 : Nat) : Int) = Builtin.Range.rangeSize lo hi 1 := by rw [rangeSize_one]; split <;> omega
    show IsRangeIter _ _ (lo + ((0 : Nat) : Int) * 1) ((((hi - lo).toNat : Nat) : Int) - ((0 : Nat) : Int)) 1
    rw [e1, e2]
    exact Heap.get?_push_size _ rfl
  · have e : b = (s.heap.push { cls := .type "range", data := .fields #[.int lo t, .int hi u, .int 1 v] }).objs.size := by simpa using hb
    subst e
    exact I1.fpOk (Nat.le_refl _) (I1.hok.fresh (Nat.le_refl _))
def iRng1 (ta : TA) : TI := fun σ H R => ta σ H fun vs H1 => ∃ j : Int, vs = [.int j] ∧ -(2 ^ 62) ≤ j ∧ j < 2 ^ 62 ∧ R (Itr 0 j.toNat) H1
def iRng2 (ta : TA) : TI := fun σ H R => ta σ H fun vs H1 => ∃ i j : Int, vs = [.int i, .int j] ∧ (-(2 ^ 62) ≤ i ∧ i < 2 ^ 62 ∧ -(2 ^ 62) ≤ j ∧ j < 2 ^ 62) ∧ R (Itr i (j - i).toNat) H1
theorem pi_range1 {a : Expr} {ta : TA} {p pos : Pos} (hg : Gl X "range") (hm : X.mg "range" = none) (ha : PA X [a] ta) (hs : starEach [a] X.env = [(false, eval a X.env)] := by rfl) : PI X tg (.Call (.Name "range" p) [a] [] pos) (iRng1 ta) := by
  intro pins s σ H R I h
  refine Call_ (ld_blt I hg hm boot_range (PyProof.Rows.callWith_type1 (thn (ha pos pins s σ H _ I h) fun us s1 ⟨vs, H1, I1, r1, q1⟩ => ?_) hs rfl))
  obtain ⟨j, e, q1, q2, q⟩ := q1
  subst e
  cases r1 with
  | cons r rr =>
    cases rr
    obtain ⟨t, rfl⟩ := r
    exact call_range_1 (range_it I1 (by omega) (by omega) q1 q2 (by simpa using q))
/-! ### for -/
/-- W: the invariant by the turn and a measure; N: what the body is to reach -/
def tFor (wi : TI) (g : TG) (tb : TS) : TS := fun D σ H => wi σ H fun J H1 => ∃ W : Nat → Nat → St → Hp → Prop, (∃ m, W 0 m σ H1) ∧ ∀ i m σ H, W i m σ H →
  (J.stop i H ∧ D.nx σ H) ∨ (J.go i H ∧ ∃ N : St → Hp → Prop, (∀ σ' H', N σ' H' → ∃ m', m' < m ∧ W (i + 1) m' σ' H') ∧ ∀ x H', J.yld i H x H' → g x σ H' fun σ2 H2 => tb { D with nx := N, ct := N, bk := D.nx } σ2 H2)
/-- the records at fp as they stand -/
def pinsAt (fp : List Addr) (h : Heap) : List (Addr × Obj) := fp.filterMap fun b => (h.get? b).map fun o => (b, o)
theorem mem_pinsAt {fp : List Addr} {h : Heap} {b : Addr} {o : Obj} (hb : b ∈ fp) (e : h.get? b = some o) : (b, o) ∈ pinsAt fp h := List.mem_filterMap.mpr ⟨b, hb, by rw [e]; rfl⟩
theorem of_pinsAt {fp : List Addr} {h : Heap} {p : Addr × Obj} (hp : p ∈ pinsAt fp h) : p.1 ∈ fp ∧ h.get? p.1 = some p.2 := by
  obtain ⟨b, hb, e⟩ := List.mem_filterMap.mp hp
  cases q : h.get? b with
  | none => rw [q] at e; cases e
  | some o =>
    rw [q] at e
    have e' : (b, o) = p := Option.some.inj e
    subst e'
    exact ⟨hb, q⟩
theorem Inv.pinned {pins : List (Addr × Obj)} {σ : St} {H : Hp} {s : Shared} {fp : List Addr} (I : Inv X pins σ H s) (hf : ∀ b ∈ fp, FpOk X pins H b) (ho : ∀ b ∈ fp, ∃ o, s.heap.get? b = some o ∧ ∀ v, o.data ≠ .cell v) : Inv X (pins ++ pinsAt fp s.heap) σ H s :=
  I.pins_of fun p hp => (List.mem_append.mp hp).elim (fun z => I.pin p (List.mem_append_right _ z)) fun z => by
    obtain ⟨hb, e⟩ := of_pinsAt z
    obtain ⟨f0, f1, f2, _⟩ := hf p.1 hb
    obtain ⟨o, e', d⟩ := ho p.1 hb
    rw [e] at e'; cases e'
    exact ⟨e, f0, f1, f2, d⟩
theorem Inv.unpinned {pins pl : List (Addr × Obj)} {σ : St} {H : Hp} {s : Shared} (I : Inv X (pins ++ pl) σ H s) : Inv X pins σ H s := I.pins_of fun p hp => I.pin p (List.mem_append_right _ (List.mem_append_left _ hp))
theorem ps_for {iter : Expr} {body : List Stmt} {wi : TI} {g : TG} {tb : TS} {pos : Pos} (hp : PassesOwn (model X.prog X.w) X.A X.env X.xe) (hc : X.calm = true) (hi : PI X tg iter wi) (hg : PG X tg g) (hb : PSs X body tb)
    (hs : ∀ x, foldedSetIterable iter X.env x = pure x := by intro _; rfl) : PS X (.For tg iter body [] pos) (tFor wi g tb) := by
  intro pins s σ H D I h
  refine wpAny_For (thn (hi pins s σ H _ I h) fun v s1 h1 => thn h1 fun itv s2 h2 => ?_) hs
  obtain ⟨it, fp, tn, J, H2, e, I2, T, st2, f2, W, ⟨m0, w0⟩, turn⟩ := h2
  subst e
  -- what stays true of the iterator's objects through the loop
  have stat : ∀ {H' : Hp}, (∀ b ∈ fp, H' b = none) → ∀ b ∈ fp, FpOk X pins H' b := fun hn b hb => ⟨hn b hb, (f2 b hb).2⟩
  refine codeAny_forLoop_any (fun n s' => ∃ i σ' H', Inv X pins σ' H' s' ∧ tn i s'.heap ∧ (∀ b ∈ fp, H' b = none) ∧ W i n σ' H') ?_ m0 ⟨0, σ, H2, I2, st2, fun b hb => (f2 b hb).1, w0⟩
  rintro n s3 ⟨i, σ3, H3, I3, st3, fr3, w3⟩
  rcases turn i n σ3 H3 w3 with ⟨stop, qn⟩ | ⟨go, N, hN, step⟩
  · refine wpAny_passesOwn hp (thn (T.done X rfl rfl rfl hc i pins s3 σ3 H3 X.xe I3 (stat fr3) st3 stop) fun r s4 ⟨hr, I4⟩ => ?_)
    subst hr
    exact wpAny_execs_nil ⟨σ3, H3, I4, qn⟩
  · refine wpAny_passesOwn hp (thn (T.item X rfl rfl rfl hc i pins s3 σ3 H3 X.xe I3 (stat fr3) st3 go) fun r s4 ⟨u, hr, h4⟩ => ?_)
    subst hr
    refine wpAny_passesOwn hp (thn h4 fun _ s5 ⟨x, H5, I5, r5, y5, st5, fr5⟩ => ?_)
    have I5' := I5.pinned (stat fr5) (T.obj _ _ st5)
    refine wpAny_passesOwn hp (thn (hg _ s5 σ3 H5 x u _ I5' r5 (step x H5 y5)) fun _ s6 ⟨σ6, H6, I6, q6⟩ => ?_)
    refine wpAny_passesOwn hp (thn (hb _ s6 σ6 H6 _ I6 q6) fun f s7 q7 => ?_)
    have again : ∀ {σ7 : St} {H7 : Hp}, Inv X (pins ++ pinsAt fp s5.heap) σ7 H7 s7 → N σ7 H7 → ∃ m, m < n ∧ ∃ i σ' H', Inv X pins σ' H' s7 ∧ tn i s7.heap ∧ (∀ b ∈ fp, H' b = none) ∧ W i m σ' H' := fun {σ7 H7} I7 n7 => by
      obtain ⟨m', hm, w7⟩ := hN σ7 H7 n7
      refine ⟨m', hm, i + 1, σ7, H7, I7.unpinned, T.keep _ _ _ st5 fun b hb o e => (I7.pin (b, o) (List.mem_append_right _ (List.mem_append_right _ (mem_pinsAt hb e)))).1, fun b hb => ?_, w7⟩
      obtain ⟨o, e, d⟩ := T.obj _ _ st5 b hb
      exact (I7.pin (b, o) (List.mem_append_right _ (List.mem_append_right _ (mem_pinsAt hb e)))).2.1
    cases f with
    | next => obtain ⟨σ7, H7, I7, n7⟩ := q7; exact again I7 n7
    | cont => obtain ⟨σ7, H7, I7, n7⟩ := q7; exact again I7 n7
    | brk => obtain ⟨σ7, H7, I7, q7⟩ := q7; exact ⟨σ7, H7, I7.unpinned, q7⟩
    | ret v => obtain ⟨x7, σ7, H7, I7, r7, q7⟩ := q7; exact ⟨x7, σ7, H7, I7.unpinned, r7, q7⟩
end

/-! ### the forms one uses -/
/-- over a list that the body leaves as it is -/
theorem for_list {K : PySem.W.Frag} {a : Addr} {xs : List V} {g : TG} {tb : TS} {D : Ends} {σ : St} {H : Hp} (Pv : Nat → St → Hp → Prop) (h0 : Pv 0 σ H) (hl : ∀ i σ H, i ≤ xs.length → Pv i σ H → SqL K H a xs)
    (hs : ∀ i x σ H, xs[i]? = some x → Pv i σ H → g x σ H fun σ2 H2 => tb { D with nx := Pv (i + 1), ct := Pv (i + 1), bk := D.nx } σ2 H2) (hd : ∀ σ H, Pv xs.length σ H → D.nx σ H) :
    ∃ W : Nat → Nat → St → Hp → Prop, (∃ m, W 0 m σ H) ∧ ∀ i m σ H, W i m σ H →
      ((Itl K a).stop i H ∧ D.nx σ H) ∨ ((Itl K a).go i H ∧ ∃ N : St → Hp → Prop, (∀ σ' H', N σ' H' → ∃ m', m' < m ∧ W (i + 1) m' σ' H') ∧ ∀ x H', (Itl K a).yld i H x H' → g x σ H' fun σ2 H2 => tb { D with nx := N, ct := N, bk := D.nx } σ2 H2) := by
  refine ⟨fun i m σ H => m = xs.length - i ∧ i ≤ xs.length ∧ Pv i σ H, ⟨xs.length, by simp, Nat.zero_le _, h0⟩, ?_⟩
  rintro i m σ H ⟨rfl, hi, p⟩
  have q := hl i σ H hi p
  by_cases hlt : i < xs.length
  · refine .inr ⟨⟨xs, xs[i], q, by simp [hlt]⟩, Pv (i + 1), fun σ' H' p' => ⟨xs.length - (i + 1), by omega, rfl, hlt, p'⟩, fun x H' y => ?_⟩
    obtain ⟨e, y⟩ := y
    subst e
    exact hs i x σ _ (y xs q) p
  · have e : i = xs.length := by omega
    subst e
    exact .inl ⟨⟨xs, q, Nat.le_refl _⟩, hd σ H p⟩
theorem for_range {lo : Int} {n : Nat} {g : TG} {tb : TS} {D : Ends} {σ : St} {H : Hp} (Pv : Nat → St → Hp → Prop) (h0 : Pv 0 σ H)
    (hs : ∀ i σ H, i < n → Pv i σ H → g (.int (lo + i)) σ H fun σ2 H2 => tb { D with nx := Pv (i + 1), ct := Pv (i + 1), bk := D.nx } σ2 H2) (hd : ∀ σ H, Pv n σ H → D.nx σ H) :
    ∃ W : Nat → Nat → St → Hp → Prop, (∃ m, W 0 m σ H) ∧ ∀ i m σ H, W i m σ H →
      ((Itr lo n).stop i H ∧ D.nx σ H) ∨ ((Itr lo n).go i H ∧ ∃ N : St → Hp → Prop, (∀ σ' H', N σ' H' → ∃ m', m' < m ∧ W (i + 1) m' σ' H') ∧ ∀ x H', (Itr lo n).yld i H x H' → g x σ H' fun σ2 H2 => tb { D with nx := N, ct := N, bk := D.nx } σ2 H2) := by
  refine ⟨fun i m σ H => m = n - i ∧ i ≤ n ∧ Pv i σ H, ⟨n, by simp, Nat.zero_le _, h0⟩, ?_⟩
  rintro i m σ H ⟨rfl, hi, p⟩
  by_cases hlt : i < n
  · refine .inr ⟨hlt, Pv (i + 1), fun σ' H' p' => ⟨n - (i + 1), by omega, rfl, hlt, p'⟩, fun x H' y => ?_⟩
    obtain ⟨e, y⟩ := y
    subst e y
    exact hs i σ _ hlt p
  · have e : i = n := by omega
    subst e
    exact .inl ⟨Nat.le_refl _, hd σ H p⟩
end L2

namespace L2
open PySem PySem.Spec PyProof.Rows

abbrev R2 := V → V → Hp → VK → Prop
/-- a two-place operation on values: f is binaryOp op, inplaceOp op or compareOp op -/
def OpR (X : Cx) (f : Value → Value → Sem Value) (r : R2) : Prop :=
  ∀ (pins : List (Addr × Obj)) (s : Shared) (σ : St) (H : Hp) (x y : V) (v u : Value) (Q : VK), Inv X pins σ H s → RelV x v → RelV y u → r x y H Q →
    wpAny (model X.prog X.w) X.A (f v u) (EP X pins σ Q) X.xe s
/-- a one-place operation -/
def UnR (X : Cx) (f : Value → Sem Value) (r : V → Hp → VK → Prop) : Prop :=
  ∀ (pins : List (Addr × Obj)) (s : Shared) (σ : St) (H : Hp) (x : V) (v : Value) (Q : VK), Inv X pins σ H s → RelV x v → r x H Q →
    wpAny (model X.prog X.w) X.A (f v) (EP X pins σ Q) X.xe s
/-- a call of a value that is known (a builtin, a type) with values -/
def CallR (X : Cx) (f : Value) (r : List V → Hp → VK → Prop) : Prop :=
  ∀ (pins : List (Addr × Obj)) (s : Shared) (σ : St) (H : Hp) (xs : List V) (us : List Value) (Q : VK), Inv X pins σ H s → Vals xs us → r xs H Q →
    wpAny (model X.prog X.w) X.A (call f us) (EP X pins σ Q) X.xe s
/-- a value's truth -/
def TruR (X : Cx) (r : V → Hp → (Bool → Hp → Prop) → Prop) : Prop :=
  ∀ (pins : List (Addr × Obj)) (s : Shared) (σ : St) (H : Hp) (x : V) (v : Value) (Q : Bool → Hp → Prop), Inv X pins σ H s → RelV x v → r x H Q →
    wpAny (model X.prog X.w) X.A (truthy v) (TP X pins σ Q) X.xe s

def tOp (r : R2) (ta tb : TE) : TE := fun σ H Q => ta σ H fun x H1 => tb σ H1 fun y H2 => r x y H2 Q
def tUn (r : V → Hp → VK → Prop) (ta : TE) : TE := fun σ H Q => ta σ H fun x H1 => r x H1 Q
/-- ints in, under C, and a value out -/
def rI (C : Int → Int → Prop) (g : Int → Int → V) : R2 := fun x y H Q => ∃ i j, x = .int i ∧ y = .int j ∧ C i j ∧ Q (g i j) H
def rI0 (g : Int → Int → V) : R2 := fun x y H Q => ∃ i j, x = .int i ∧ y = .int j ∧ Q (g i j) H
def rU (g : Int → V) : V → Hp → VK → Prop := fun x H Q => ∃ i, x = .int i ∧ Q (g i) H

section
variable {X : Cx} {a b c : Expr} {ta tb tc : TE} {pos : Pos}

theorem binT (ha : PE X a ta) (hb : PE X b tb) {pins : List (Addr × Obj)} {s : Shared} {σ : St} {H : Hp} {R : V → V → Hp → Prop} (I : Inv X pins σ H s)
    (h : ta σ H fun x H1 => tb σ H1 fun y H2 => R x y H2) {Q : Value → Shared → Prop} {f : Value → Value → Sem Value}
    (hf : ∀ v u s2 x y H2, Inv X pins σ H2 s2 → RelV x v → RelV y u → R x y H2 → wpAny (model X.prog X.w) X.A (f v u) Q X.xe s2) :
    wpAny (model X.prog X.w) X.A (eval a X.env) (fun v s₁ => wpAny (model X.prog X.w) X.A (eval b X.env) (fun u s₂ => wpAny (model X.prog X.w) X.A (f v u) Q X.xe s₂) X.xe s₁) X.xe s := by
  refine thn (ha pins s σ H _ I h) fun v s1 ⟨x, H1, I1, r1, q1⟩ => ?_
  refine thn (hb pins s1 σ H1 _ I1 q1) fun u s2 ⟨y, H2, I2, r2, q2⟩ => ?_
  exact hf v u s2 x y H2 I2 r1 r2 q2

theorem pe_op {op : Operator} {r : R2} (ho : OpR X (binaryOp op) r) (ha : PE X a ta) (hb : PE X b tb) : PE X (.BinOp a op b pos) (tOp r ta tb) := by
  intro pins s σ H Q I h
  exact wpAny_BinOp (binT ha hb I h fun v u s2 x y H2 I2 rx ry q => ho pins s2 σ H2 x y v u Q I2 rx ry q)
theorem pe_un {op : UnaryOp} {r : V → Hp → VK → Prop} (ho : UnR X (unaryOp op) r) (ha : PE X a ta) : PE X (.UnaryOp op a pos) (tUn r ta) := by
  intro pins s σ H Q I h
  exact UnaryOp_ (thn (ha pins s σ H _ I h) fun v s1 ⟨x, H1, I1, r1, q1⟩ => ho pins s1 σ H1 x v Q I1 r1 q1)
/-! ### ints -/
theorem opI {f : Value → Value → Sem Value} {C : Int → Int → Prop} {g : Int → Int → Int}
    (rule : ∀ (i j : Int) (t u : Tok) (s : Shared) (Q : Value → Shared → Prop) (E : Value → Shared → Prop), C i j → Q (.int (g i j) s.toks) { s with toks := s.toks + 1 } → wpAny (model X.prog X.w) X.A (f (.int i t) (.int j u)) Q E s) :
    OpR X f (rI C fun i j => .int (g i j)) := by
  intro pins s σ H x y v u Q I rx ry h
  obtain ⟨i, j, rfl, rfl, hc, q⟩ := h
  obtain ⟨t, rfl⟩ := rx
  obtain ⟨t', rfl⟩ := ry
  exact rule i j t t' s _ _ hc ⟨.int (g i j), H, I.tok _, ⟨_, rfl⟩, q⟩
theorem opI0 {f : Value → Value → Sem Value} {g : Int → Int → Int}
    (rule : ∀ (i j : Int) (t u : Tok) (s : Shared) (Q : Value → Shared → Prop) (E : Value → Shared → Prop), Q (.int (g i j) s.toks) { s with toks := s.toks + 1 } → wpAny (model X.prog X.w) X.A (f (.int i t) (.int j u)) Q E s) :
    OpR X f (rI0 fun i j => .int (g i j)) := by
  intro pins s σ H x y v u Q I rx ry h
  obtain ⟨i, j, rfl, rfl, q⟩ := h
  obtain ⟨t, rfl⟩ := rx
  obtain ⟨t', rfl⟩ := ry
  exact rule i j t t' s _ _ ⟨.int (g i j), H, I.tok _, ⟨_, rfl⟩, q⟩
theorem opB0 {f : Value → Value → Sem Value} {g : Int → Int → Bool}
    (rule : ∀ (i j : Int) (t u : Tok) (s : Shared) (Q : Value → Shared → Prop) (E : Value → Shared → Prop), Q (.bool (g i j)) s → wpAny (model X.prog X.w) X.A (f (.int i t) (.int j u)) Q E s) :
    OpR X f (rI0 fun i j => .bl (g i j)) := by
  intro pins s σ H x y v u Q I rx ry h
  obtain ⟨i, j, rfl, rfl, q⟩ := h
  obtain ⟨t, rfl⟩ := rx
  obtain ⟨t', rfl⟩ := ry
  exact rule i j t t' s _ _ ⟨.bl (g i j), H, I, rfl, q⟩

def CDiv (i j : Int) : Prop := 0 < j ∧ j < 1073741824
def CDivN (i j : Int) : Prop := j ≠ 0 ∧ j.natAbs < 1073741824
def CPow (i j : Int) : Prop := 0 ≤ j ∧ j ≤ 1000000 ∧ i.natAbs < 2 ^ 64
def CMul (i j : Int) : Prop := (-(2 ^ 64) < i ∧ i < 2 ^ 64) ∨ (-(2 ^ 64) < j ∧ j < 2 ^ 64)
theorem CMul.ok {i j : Int} (h : CMul i j) : IntMulOk i j := by
  rcases h with ⟨h1, h2⟩ | ⟨h1, h2⟩
  · exact .of_left (intBits_le_64 h1 h2)
  · exact .of_right (intBits_le_64 h1 h2)
theorem op_add : OpR X (binaryOp .Add) (rI0 fun i j => .int (i + j)) := opI0 fun _ _ _ _ _ _ _ q => add_int q
theorem op_sub : OpR X (binaryOp .Sub) (rI0 fun i j => .int (i - j)) := opI0 fun _ _ _ _ _ _ _ q => sub_int q
theorem op_mul : OpR X (binaryOp .Mult) (rI CMul fun i j => .int (i * j)) := opI fun _ _ _ _ _ _ _ hc q => mul_int q hc.ok
/-- // by a positive divisor -/
theorem op_fdiv : OpR X (binaryOp .FloorDiv) (rI CDiv fun i j => .int (i / j)) := opI fun i j _ _ _ _ _ hc q => by
  have h1 : (0 : Int) < j := hc.1
  have h2 : j < 1073741824 := hc.2
  exact floordiv_int (by omega) (by rw [Int.fdiv_eq_ediv_of_nonneg i (by omega)]; exact q) (.inl (PyProof.noPylong_small (by omega)))
/-- % by a positive divisor of any size -/
theorem op_mod : OpR X (binaryOp .Mod) (rI (fun _ j => 0 < j) fun i j => .int (i % j)) := opI fun i j _ _ _ _ _ hc q => by
  have h1 : (0 : Int) < j := hc
  exact mod_int' (by omega) (by rw [Int.fmod_eq_emod_of_nonneg i (by omega)]; exact q)
theorem op_pow : OpR X (binaryOp .Pow) (rI CPow fun i j => .int (i ^ j.toNat)) := opI fun _ _ _ _ _ _ _ hc q => pow_int_small hc.1 hc.2.1 hc.2.2 q
theorem op_xor : OpR X (binaryOp .BitXor) (rI0 fun i j => .int (Builtin.bitXor i j)) := opI0 fun _ _ _ _ _ _ _ q => xor_int q

theorem unI {f : Value → Sem Value} {g : Int → Int}
    (rule : ∀ (i : Int) (t : Tok) (s : Shared) (Q : Value → Shared → Prop) (E : Value → Shared → Prop), Q (.int (g i) s.toks) { s with toks := s.toks + 1 } → wpAny (model X.prog X.w) X.A (f (.int i t)) Q E s) :
    UnR X f (rU fun i => .int (g i)) := by
  intro pins s σ H x v Q I rx h
  obtain ⟨i, rfl, q⟩ := h
  obtain ⟨t, rfl⟩ := rx
  exact rule i t s _ _ ⟨.int (g i), H, I.tok _, ⟨_, rfl⟩, q⟩
theorem un_neg : UnR X (unaryOp .USub) (rU fun i => .int (-i)) := unI fun _ _ _ _ _ q => neg_int q
/-! ### bools among ints: n += (a < b) -/
end

/-! ### comparisons -/
/-- the scalars that == tells apart as data does -/
def scal : V → V → Bool
  | .non, .non => true | .non, .int _ => true | .int _, .non => true | .non, .bl _ => true | .bl _, .non => true | .non, .str _ => true | .str _, .non => true
  | .int _, .int _ => true | .bl _, .bl _ => true | .str _, .str _ => true | .byt _, .byt _ => true
  | .int _, .str _ => true | .str _, .int _ => true | .bl _, .str _ => true | .str _, .bl _ => true
  | _, _ => false
def rEq : R2 := fun x y H Q => scal x y = true ∧ Q (.bl (decide (x = y))) H
def rNe : R2 := fun x y H Q => scal x y = true ∧ Q (.bl (!decide (x = y))) H

theorem dec_int {i j : Int} : decide (V.int i = V.int j) = (i == j) := by
  rw [Bool.eq_iff_iff]
  simp
theorem dec_bl {i j : Bool} : decide (V.bl i = V.bl j) = (i == j) := by
  rw [Bool.eq_iff_iff]
  simp
theorem dec_str {i j : Str} : decide (V.str i = V.str j) = (i == j) := by
  rw [Bool.eq_iff_iff]
  simp
theorem dec_byt {i j : Array UInt8} : decide (V.byt i = V.byt j) = (i.toList == j.toList) := by
  rw [Bool.eq_iff_iff]
  cases i
  cases j
  simp

section
variable {X : Cx} {a b c : Expr} {ta tb tc : TE} {pos : Pos}
theorem fin_bl {pins : List (Addr × Obj)} {σ : St} {H : Hp} {s : Shared} {Q : VK} {k k' : Bool} (I : Inv X pins σ H s) (q : Q (.bl k) H) (e : k = k') : EP X pins σ Q (.bool k') s := by
  subst e
  exact ⟨.bl k, H, I, rfl, q⟩
theorem op_eq : OpR X (compareOp .Eq) rEq := by
  intro pins s σ H x y v u Q I rx ry h
  obtain ⟨hs, q⟩ := h
  cases x with
  | non =>
    cases rx
    cases y with
    | non => cases ry; exact PySem.EqNone.eq_none_none (fin_bl I q (by simp))
    | bl j => cases ry; exact PySem.EqNone.eq_none_bool (fin_bl I q (by simp))
    | int j => obtain ⟨t', rfl⟩ := ry; exact PySem.EqNone.eq_none_int (fin_bl I q (by simp))
    | str j => obtain ⟨t', rfl⟩ := ry; exact PySem.EqNone.eq_none_str (fin_bl I q (by simp))
    | _ => exact absurd (show false = true from hs) Bool.false_ne_true
  | bl i =>
    cases rx
    cases y with
    | non => cases ry; exact PySem.EqNone.eq_bool_none (fin_bl I q (by simp))
    | bl j => cases ry; exact eq_bool (fin_bl I q dec_bl)
    | str j => obtain ⟨t', rfl⟩ := ry; exact PySem.EqMixed.eq_bool_str (fin_bl I q (by simp))
    | _ => exact absurd (show false = true from hs) Bool.false_ne_true
  | int i =>
    obtain ⟨t, rfl⟩ := rx
    cases y with
    | non => cases ry; exact PySem.EqNone.eq_int_none (fin_bl I q (by simp))
    | int j => obtain ⟨t', rfl⟩ := ry; exact eq_int (fin_bl I q dec_int)
    | str j => obtain ⟨t', rfl⟩ := ry; exact PySem.EqMixed.eq_int_str (fin_bl I q (by simp))
    | _ => exact absurd (show false = true from hs) Bool.false_ne_true
  | str i =>
    obtain ⟨t, rfl⟩ := rx
    cases y with
    | non => cases ry; exact PySem.EqNone.eq_str_none (fin_bl I q (by simp))
    | bl j => cases ry; exact PySem.EqMixed.eq_str_bool (fin_bl I q (by simp))
    | int j => obtain ⟨t', rfl⟩ := ry; exact PySem.EqMixed.eq_str_int (fin_bl I q (by simp))
    | str j => obtain ⟨t', rfl⟩ := ry; exact eq_str (fin_bl I q dec_str)
    | _ => exact absurd (show false = true from hs) Bool.false_ne_true
  | byt i =>
    obtain ⟨t, rfl⟩ := rx
    cases y with
    | byt j => obtain ⟨t', rfl⟩ := ry; exact PySem.W.eq_bytes (fin_bl I q dec_byt)
    | _ => exact absurd (show false = true from hs) Bool.false_ne_true
  | _ => cases y <;> exact absurd (show false = true from hs) Bool.false_ne_true
theorem op_ne : OpR X (compareOp .NotEq) rNe := by
  intro pins s σ H x y v u Q I rx ry h
  obtain ⟨hs, q⟩ := h
  cases x with
  | non =>
    cases rx
    cases y with
    | non => cases ry; exact PySem.EqNone.ne_none_none (fin_bl I q (by simp))
    | bl j => cases ry; exact PySem.EqNone.ne_none_bool (fin_bl I q (by simp))
    | int j => obtain ⟨t', rfl⟩ := ry; exact PySem.EqNone.ne_none_int (fin_bl I q (by simp))
    | str j => obtain ⟨t', rfl⟩ := ry; exact PySem.EqNone.ne_none_str (fin_bl I q (by simp))
    | _ => exact absurd (show false = true from hs) Bool.false_ne_true
  | bl i =>
    cases rx
    cases y with
    | non => cases ry; exact PySem.EqNone.ne_bool_none (fin_bl I q (by simp))
    | bl j => cases ry; exact ne_bool (fin_bl I q (congrArg not dec_bl))
    | str j => obtain ⟨t', rfl⟩ := ry; exact PySem.EqMixed.ne_bool_str (fin_bl I q (by simp))
    | _ => exact absurd (show false = true from hs) Bool.false_ne_true
  | int i =>
    obtain ⟨t, rfl⟩ := rx
    cases y with
    | non => cases ry; exact PySem.EqNone.ne_int_none (fin_bl I q (by simp))
    | int j => obtain ⟨t', rfl⟩ := ry; exact ne_int (fin_bl I q (congrArg not dec_int))
    | str j => obtain ⟨t', rfl⟩ := ry; exact PySem.EqMixed.ne_int_str (fin_bl I q (by simp))
    | _ => exact absurd (show false = true from hs) Bool.false_ne_true
  | str i =>
    obtain ⟨t, rfl⟩ := rx
    cases y with
    | non => cases ry; exact PySem.EqNone.ne_str_none (fin_bl I q (by simp))
    | bl j => cases ry; exact PySem.EqMixed.ne_str_bool (fin_bl I q (by simp))
    | int j => obtain ⟨t', rfl⟩ := ry; exact PySem.EqMixed.ne_str_int (fin_bl I q (by simp))
    | str j => obtain ⟨t', rfl⟩ := ry; exact ne_str (fin_bl I q (congrArg not dec_str))
    | _ => exact absurd (show false = true from hs) Bool.false_ne_true
  | byt i =>
    obtain ⟨t, rfl⟩ := rx
    cases y with
    | byt j => obtain ⟨t', rfl⟩ := ry; exact PySem.W.ne_bytes (fin_bl I q (congrArg not dec_byt))
    | _ => exact absurd (show false = true from hs) Bool.false_ne_true
  | _ => cases y <;> exact absurd (show false = true from hs) Bool.false_ne_true

theorem op_lt : OpR X (compareOp .Lt) (rI0 fun i j => .bl (decide (i < j))) := opB0 fun _ _ _ _ _ _ _ q => lt_int q
theorem op_le : OpR X (compareOp .LtE) (rI0 fun i j => .bl (decide (i ≤ j))) := opB0 fun _ _ _ _ _ _ _ q => le_int q
theorem op_gt : OpR X (compareOp .Gt) (rI0 fun i j => .bl (decide (j < i))) := opB0 fun _ _ _ _ _ _ _ q => gt_int q
theorem op_ge : OpR X (compareOp .GtE) (rI0 fun i j => .bl (decide (j ≤ i))) := opB0 fun _ _ _ _ _ _ _ q => ge_int q
/-- is, is not of two objects that are tracked lists or instances -/
def isObj : HO → Bool
  | .lst _ => true
  | .ins _ _ _ => true
  | _ => false
/-- two rules for one operation: by cases -/
theorem OpR.or {f : Value → Value → Sem Value} {r r' : R2} (h : OpR X f r) (h' : OpR X f r') : OpR X f (fun x y H Q => r x y H Q ∨ r' x y H Q) := by
  intro pins s σ H x y v u Q I rx ry q
  rcases q with q | q
  · exact h pins s σ H x y v u Q I rx ry q
  · exact h' pins s σ H x y v u Q I rx ry q

theorem nomark (b : Expr) {op : CmpOp} (h : op ≠ .In := by decide) (h2 : op ≠ .NotIn := by decide) : behindInMarks op b = false := by
  have e1 : (op == CmpOp.In) = false := by cases op <;> first | rfl | exact absurd rfl h
  have e2 : (op == CmpOp.NotIn) = false := by cases op <;> first | rfl | exact absurd rfl h2
  cases b <;> simp [behindInMarks, e1, e2]
/-- a comparison as a value; hm: nomark b, or (for in, not in) by with_unfolding_all rfl -/
theorem pe_cmpR {op : CmpOp} {r : R2} (ho : OpR X (compareOp op) r) (ha : PE X a ta) (hb : PE X b tb) (hm : behindInMarks op b = false) : PE X (.Compare a [op] [b] pos) (tOp r ta tb) := by
  intro pins s σ H Q I h
  exact wpAny_Compare1 (binT ha hb I h fun v u s2 x y H2 I2 rx ry q => ho pins s2 σ H2 x y v u Q I2 rx ry q) hm
/-- a reading of a value as a test -/
def tTest (t : TE) : TT := fun σ H Q => t σ H fun x H' => ∃ k, x = .bl k ∧ Q k H'
theorem pt_cmpR {op : CmpOp} {r : R2} (ho : OpR X (compareOp op) r) (ha : PE X a ta) (hb : PE X b tb) (hm : behindInMarks op b = false) : PT X (.Compare a [op] [b] pos) (tTest (tOp r ta tb)) := by
  intro pins s σ H Q I h
  refine wpAny_isTrue_Compare1 (thn (ha pins s σ H _ I h) fun v s1 ⟨x, H1, I1, r1, q1⟩ => thn (hb pins s1 σ H1 _ I1 q1) fun u s2 ⟨y, H2, I2, r2, q2⟩ =>
    thn (ho pins s2 σ H2 x y v u _ I2 r1 r2 q2) fun c s3 ⟨z, H3, I3, r3, k, e, q3⟩ => ?_) hm
  subst e
  cases r3
  exact wpAny_truthy_bool ⟨H3, I3, q3⟩
/-- a op1 b op2 c -/
def tChain (r r' : R2) (ta tb tc : TE) : TE := fun σ H Q => ta σ H fun x H1 => tb σ H1 fun y H2 => r x y H2 fun z H3 => ∃ k, z = .bl k ∧
  (if k = true then tc σ H3 fun w' H4 => r' y w' H4 Q else Q (.bl false) H3)
theorem pe_chain {op op' : CmpOp} {r r' : R2} (ho : OpR X (compareOp op) r) (ho' : OpR X (compareOp op') r') (ha : PE X a ta) (hb : PE X b tb) (hc : PE X c tc)
    (hm : lastMarks [op, op'] [b, c] = false := by with_unfolding_all rfl) : PE X (.Compare a [op, op'] [b, c] pos) (tChain r r' ta tb tc) := by
  intro pins s σ H Q I h
  refine Compare_chain (thn (ha pins s σ H _ I h) fun v s1 ⟨x, H1, I1, r1, q1⟩ => chain_link (thn (hb pins s1 σ H1 _ I1 q1) fun u s2 ⟨y, H2, I2, r2, q2⟩ =>
    thn (ho pins s2 σ H2 x y v u _ I2 r1 r2 q2) fun d s3 ⟨z, H3, I3, r3, k, e, q3⟩ => ?_)) hm
  subst e
  cases r3
  refine wpAny_truthy_bool ?_
  cases k with
  | false => exact ite_ff ⟨.bl false, H3, I3, rfl, q3⟩
  | true => exact ite_tt (chain_last (thn (hc pins s3 σ H3 _ I3 q3) fun w' s4 ⟨z', H4, I4, r4, q4⟩ => ho' pins s4 σ H4 y z' u w' Q I4 r2 r4 q4))
/-! ### truth -/
/-- a value's truth by the abstract heap -/
def TruV (K : PySem.W.Frag) (x : V) (H : Hp) (k : Bool) : Prop :=
  match x with
  | .non => k = false
  | .bl b => k = b
  | .int i => k = (i != 0)
  | .str y => y.length ≤ sizeLine ∧ k = ((y.length : Int) != 0)
  | .byt y => y.size ≤ sizeLine ∧ k = ((y.size : Int) != 0)
  | .ref p => (∃ xs, SqL K H p xs ∧ k = !xs.isEmpty) ∨ (∃ xs, SqT K H p xs ∧ k = !xs.isEmpty) ∨ ∃ kvs, H p = some (.dK kvs) ∧ k = !kvs.isEmpty
  | _ => False
theorem line63 : (sizeLine : Nat) < 2 ^ 63 := by rw [sizeLine_eq]; decide
/-! ### strs and bytes -/
def PlainIxT (b : Expr) : Prop := ∀ o i, subscripted b false o i = operate [o, i] (getItem o i)
/-! ### scalar builtins, by CallR -/
theorem vals1 {x : V} {us : List Value} (r : Vals [x] us) : ∃ u, us = [u] ∧ RelV x u := by
  cases r with
  | cons r1 r2 => cases r2; exact ⟨_, rfl, r1⟩
theorem vals2 {x y : V} {us : List Value} (r : Vals [x, y] us) : ∃ u w', us = [u, w'] ∧ RelV x u ∧ RelV y w' := by
  cases r with
  | cons r1 r2 =>
    cases r2 with
    | cons r3 r4 => cases r4; exact ⟨_, _, rfl, r1, r3⟩
theorem call_max2 (hc : X.calm = true) : CallR X (.builtin "max") (fun xs H Q => ∃ i j, xs = [.int i, .int j] ∧ Q (.int (if j > i then j else i)) H) := by
  intro pins s σ H xs us Q I r h
  obtain ⟨i, j, rfl, q⟩ := h
  obtain ⟨u, w', rfl, ⟨t, rfl⟩, ⟨t', rfl⟩⟩ := vals2 r
  refine max_two_ints (I.ok.hd hc) fun h' tk k => ⟨_, H, I.kept k, ?_, q⟩
  by_cases hj : j > i
  · rw [if_pos hj, if_pos hj]; exact ⟨_, rfl⟩
  · rw [if_neg hj, if_neg hj]; exact ⟨_, rfl⟩
theorem call_min2 (hc : X.calm = true) : CallR X (.builtin "min") (fun xs H Q => ∃ i j, xs = [.int i, .int j] ∧ Q (.int (if j < i then j else i)) H) := by
  intro pins s σ H xs us Q I r h
  obtain ⟨i, j, rfl, q⟩ := h
  obtain ⟨u, w', rfl, ⟨t, rfl⟩, ⟨t', rfl⟩⟩ := vals2 r
  refine min_two_ints (I.ok.hd hc) fun h' tk k => ⟨_, H, I.kept k, ?_, q⟩
  by_cases hj : j < i
  · rw [if_pos hj, if_pos hj]; exact ⟨_, rfl⟩
  · rw [if_neg hj, if_neg hj]; exact ⟨_, rfl⟩
/-- len of a str, a bytes, a list, a tuple -/
def LenV (K : PySem.W.Frag) (x : V) (H : Hp) (n : Nat) : Prop :=
  match x with
  | .str y => y.length ≤ sizeLine ∧ n = y.length
  | .byt y => y.size ≤ sizeLine ∧ n = y.size
  | .ref p => (∃ xs, SqL K H p xs ∧ n = xs.length) ∨ ∃ xs, SqT K H p xs ∧ n = xs.length
  | _ => False
end
end L2

namespace L2
open PySem PySem.Spec PyProof.Rows

/-! ### an instance, its attributes a map -/
structure ObjM (h : Heap) (x dx C : Addr) (mA : Str → Option Value) : Prop where
  obj : h.get? x = some (PySem.W.instObj C dx)
  ns : h.Ns1 dx mA
  ne : dx ≠ x

theorem lookIn_ns {h : Heap} {dx : Addr} {mA : Str → Option Value} (n : h.Ns1 dx mA) : ∃ od, h.get? dx = some od ∧ ∀ name, PySem.W.lookIn name od = some (mA name) := by
  obtain ⟨o, es, ep, ho, hd, hk, _, hm⟩ := n
  refine ⟨o, ho, fun name => ?_⟩
  have e := hm name
  unfold nsFind findBy at e
  rw [← Array.find?_toList] at e
  unfold PySem.W.lookIn
  rw [hd]
  dsimp only
  split
  · rename_i y q
    rw [q] at e
    exact congrArg some e
  · rename_i q
    rw [q] at e
    have a : es.toList.any (·.refKey) = false := by
      rw [List.any_eq_false]
      intro y hy
      obtain ⟨z, t, hkey⟩ := hk y (Array.mem_toList_iff.mp hy)
      simp [DictEntry.refKey, hkey]
    have a' : ¬ es.toList.any (·.refKey) = true := by rw [a]; exact Bool.false_ne_true
    rw [if_neg a']
    exact congrArg some e

theorem ObjM.look {h : Heap} {x dx C : Addr} {mA : Str → Option Value} (I : ObjM h x dx C mA) : ∃ od, PySem.W.InstAt h x (PySem.W.instObj C dx) C (some od) ∧ ∀ name, PySem.W.lookIn name od = some (mA name) :=
  let ⟨od, ho, hl⟩ := lookIn_ns I.ns
  ⟨od, ⟨I.obj, rfl, rfl, ho⟩, hl⟩

section
variable {prog : Program} {w : World} {A : Around} {E : Value → Shared → Prop} {s : Shared} {K : PySem.W.Frag} {x dx C f : Addr} {mA : Str → Option Value} {name : Str} {v : Value}

end

/-! ### the attributes as a list of pairs -/
def putF (f : Str) (v : V) : List (Str × V) → List (Str × V)
  | [] => [(f, v)]
  | (g, x) :: r => if g = f then (g, v) :: r else (g, x) :: putF f v r
section
variable {P : Program} {w : World} {H H' : Hp} {h h' : Heap} {a C dx : Addr} {fs fs' : List (Str × V)}
theorem ins_get (hok : HOk P w H h) (e : H a = some (.ins C dx fs)) : ∃ mA, ObjM h a dx C mA ∧ (∀ f, RelO (fs.lookup f) (mA f)) ∧ PySem.Within mA (fs.map (·.1)) ∧ fs.length ≤ 1000 ∧ H dx = some (.own a) := by
  obtain ⟨d, z, ne, ob, mA, n, r, q⟩ := (show ObjOk P w H h a (.ins C dx fs) from hok a _ e)
  exact ⟨mA, ⟨ob, n, ne⟩, r, q, z, d⟩
end

/-! ### what of the text a class must have -/
structure Cls (K : PySem.W.Frag) (C : Addr) : Prop where
  pg : PySem.W.plainGet K C Str.empty = true
  hd : PySem.W.hasDictIn K C = true
  po : PySem.W.plainOver K C = true
  sa : PySem.W.findIn K (.ref C) "__setattr__" = some (some (.builtin "object.__setattr__"))
theorem Cls.get {K : PySem.W.Frag} {C : Addr} (c : Cls K C) (f : Str) : PySem.W.plainGet K C f = true := c.pg
/-- no class of it has the name -/
def NoAttr (K : PySem.W.Frag) (C : Addr) (f : Str) : Prop := PySem.W.findIn K (.ref C) f = some none
/-- a constant of the class -/
structure Con (K : PySem.W.Frag) (C : Addr) (f : Str) (v : V) (u : Value) : Prop where
  at_ : PySem.W.findIn K (.ref C) f = some (some u)
  rel : RelV v u
  get : PySem.W.specialIn K u "__get__" = some none
  cp : PySem.W.copiedNames.contains f = false
/-- a method: a plain def of the class or of one above it -/
structure Meth (K : PySem.W.Frag) (C : Addr) (m : Str) (f : Addr) : Prop where
  at_ : PySem.W.findIn K (.ref C) m = some (some (.ref f))
  fn : PySem.W.isFn K (.ref f) = true
  kp : PySem.W.keepIn K (.ref f) = true

section
variable {X : Cx} {pins : List (Addr × Obj)} {σ : St} {H : Hp} {s : Shared} {a C dx : Addr} {fs : List (Str × V)} {f : Str} {v : V} {A : Around} {E : Value → Shared → Prop}

end

/-! ### readings and rules -/
/-- e.f, an attribute of the instance -/
def tFld (K : PySem.W.Frag) (ta : TE) (f : Str) : TE := fun σ H Q => ta σ H fun x H1 => ∃ a C dx fs v, x = .ref a ∧ H1 a = some (.ins C dx fs) ∧ Cls K C ∧ NoAttr K C f ∧ fs.lookup f = some v ∧ Q v H1
/-- e.f, a constant of the class -/
def tCon (K : PySem.W.Frag) (ta : TE) (f : Str) : TE := fun σ H Q => ta σ H fun x H1 => ∃ a C dx fs v u, x = .ref a ∧ H1 a = some (.ins C dx fs) ∧ Cls K C ∧ Con K C f v u ∧ fs.lookup f = none ∧ Q v H1
/-- e.f = value -/
def sFld (K : PySem.W.Frag) (ta tv : TE) (f : Str) : TS := fun D σ H => tv σ H fun y H1 => ta σ H1 fun x H2 => ∃ a C dx fs, x = .ref a ∧ H2 a = some (.ins C dx fs) ∧ Cls K C ∧ NoAttr K C f ∧ fs.length < 1000 ∧
  D.nx σ (upd H2 a (.ins C dx (putF f y fs)))
/-- an augmented operator on two values -/
def InOp (X : Cx) (op : Operator) (rd : V → V → Hp → VK → Prop) : Prop :=
  ∀ (pins : List (Addr × Obj)) (s : Shared) (σ : St) (H : Hp) (x y : V) (u v : Value) (Q : VK), Inv X pins σ H s → RelV x u → RelV y v → rd x y H Q → wpAny (model X.prog X.w) X.A (inplaceOp op u v) (EP X pins σ Q) X.xe s
/-- e.f op= value -/
def sFldAug (K : PySem.W.Frag) (ta tv : TE) (rd : V → V → Hp → VK → Prop) (f : Str) : TS := fun D σ H => ta σ H fun x H1 => ∃ a C dx fs v, x = .ref a ∧ H1 a = some (.ins C dx fs) ∧ Cls K C ∧ NoAttr K C f ∧ fs.lookup f = some v ∧
  tv σ H1 fun y H2 => rd v y H2 fun z H3 => ∃ dx' fs', H3 a = some (.ins C dx' fs') ∧ fs'.length < 1000 ∧ D.nx σ (upd H3 a (.ins C dx' (putF f z fs')))

section
variable {X : Cx} {o e value : Expr} {f : Str} {pos pos' tpos : Pos} {ta tv : TE}
def rAdd : V → V → Hp → VK → Prop := fun x y H Q => ∃ i j, x = .int i ∧ y = .int j ∧ Q (.int (i + j)) H
def rSub : V → V → Hp → VK → Prop := fun x y H Q => ∃ i j, x = .int i ∧ y = .int j ∧ Q (.int (i - j)) H
end

/-! ### isinstance -/
section
variable {X : Cx} {pins : List (Addr × Obj)} {σ : St} {H : Hp} {s : Shared} {A : Around} {E : Value → Shared → Prop} {Q : Value → Shared → Prop} {c : Value} {b : Bool}
/-- the type of a value, as the fragment's deciders take it; for an instance its class -/
inductive TyOf (K : PySem.W.Frag) (H : Hp) : V → Value → Prop where
  | non : TyOf K H .non (.type "NoneType")
  | bl (x : Bool) : TyOf K H (.bl x) (.type "bool")
  | int (i : Int) : TyOf K H (.int i) (.type "int")
  | str (x : Str) : TyOf K H (.str x) (.type "str")
  | flt (x : UInt64) : TyOf K H (.flt x) (.type "float")
  | lst {a : Addr} {xs : List V} (e : H a = some (.lst xs)) : TyOf K H (.ref a) (.type "list")
  | frz {a : Addr} {o : Obj} {xs : List V} (e : H a = some (.frz o (.lst xs))) : TyOf K H (.ref a) (.type "list")
  | tup {a : Addr} {xs : List V} (e : H a = some (.tup xs)) : TyOf K H (.ref a) (.type "tuple")
  | dK {a : Addr} {kvs : List (Key × V)} (e : H a = some (.dK kvs)) : TyOf K H (.ref a) (.type "dict")
  | dT {a : Addr} {kvs : List (List Key × V)} (e : H a = some (.dT kvs)) : TyOf K H (.ref a) (.type "dict")
  | ins {a C dx : Addr} {fs : List (Str × V)} (e : H a = some (.ins C dx fs)) (cl : Cls K C) (ha : PySem.W.findIn K (.ref C) "__class__" = some (some (.builtin "object.__class__")))
      (hn : PySem.W.specialIn K (.builtin "object.__class__") "__get__" = some (some (.builtin "getset_descriptor.__get__"))) (htk : PySem.W.takesIn K (.builtin "object.__class__") = some true)
      (hm : PySem.W.mroIn K C (.type "object") = some true) : TyOf K H (.ref a) (.ref C)
/-- isinstance(x, c) for one class c, a built-in or an own one: kitOne's answer -/
theorem isinst_ok {x : V} {u t : Value} (I : Inv X pins σ H s) (rx : RelV x u) (ty : TyOf X.K H x t) (e : PySem.W.kitOne X.K t c = some b) (h : ∀ tk, Q (.bool b) { s with toks := tk }) :
    wpAny (model X.prog X.w) A (call (.builtin "isinstance") [u, c]) Q E s := by
  cases ty with
  | non => cases (show u = Value.none from rx); exact PySem.W.kia_one PySem.W.kitx_none I.kIn True.intro e (fun z => nomatch z) h
  | bl y => cases (show u = Value.bool y from rx); exact PySem.W.kia_one PySem.W.kitx_bool I.kIn True.intro e (fun z => nomatch z) h
  | int i => obtain ⟨t, q⟩ := (show ∃ t, u = Value.int i t from rx); cases q; exact PySem.W.kia_one PySem.W.kitx_int I.kIn True.intro e (fun z => nomatch z) h
  | str y => obtain ⟨t, q⟩ := (show ∃ t, u = Value.str y t from rx); cases q; exact PySem.W.kia_one PySem.W.kitx_str I.kIn True.intro e (fun z => nomatch z) h
  | flt y => obtain ⟨t, q⟩ := (show ∃ t, u = Value.float y t from rx); cases q; exact PySem.W.kia_one PySem.W.kitx_float I.kIn True.intro e (fun z => nomatch z) h
  | @lst a xs ea =>
    cases (show u = Value.ref a from rx)
    obtain ⟨_, _, n, _, h1⟩ := (show ObjOk X.prog X.w H s.heap a (.lst xs) from I.hok a _ ea)
    exact PySem.W.kia_one PySem.W.kitx_list I.kIn ⟨_, h1, rfl⟩ e (fun z => nomatch z) h
  | @frz a ob xs ea =>
    cases (show u = Value.ref a from rx)
    obtain ⟨_, _, _, n, _, h1⟩ := (show ObjOk X.prog X.w H s.heap a (.frz ob (.lst xs)) from I.hok a _ ea)
    exact PySem.W.kia_one PySem.W.kitx_list I.kIn ⟨_, h1, rfl⟩ e (fun z => nomatch z) h
  | @tup a xs ea =>
    cases (show u = Value.ref a from rx)
    obtain ⟨_, _, _, p, _⟩ := (show ObjOk X.prog X.w H s.heap a (.tup xs) from I.hok a _ ea)
    obtain ⟨o, h1, h2, _⟩ := p
    exact PySem.W.kia_one PySem.W.kitx_tuple I.kIn ⟨o, h1, h2⟩ e (fun z => nomatch z) h
  | @dK a kvs ea =>
    cases (show u = Value.ref a from rx)
    obtain ⟨_, _, vs, _, p⟩ := (show ObjOk X.prog X.w H s.heap a (.dK kvs) from I.hok a _ ea)
    obtain ⟨o, es, ep, h1, h2, _⟩ := p
    exact PySem.W.kia_one PySem.W.kitx_dict I.kIn ⟨o, h1, h2.1⟩ e (fun z => nomatch z) h
  | @dT a kvs ea =>
    cases (show u = Value.ref a from rx)
    obtain ⟨_, _, xs, _, o, es, ep, h1, h2, _⟩ := (show ObjOk X.prog X.w H s.heap a (.dT kvs) from I.hok a _ ea)
    exact PySem.W.kia_one PySem.W.kitx_dict I.kIn ⟨o, h1, h2.1⟩ e (fun z => nomatch z) h
  | @ins a C dx fs ea cl ha hn htk hm =>
    cases (show u = Value.ref a from rx)
    obtain ⟨mA, O, _⟩ := ins_get I.hok ea
    obtain ⟨od, J, _⟩ := O.look
    exact PySem.W.kia_one (PySem.W.kitx_own (cl.get _) cl.hd ha hn htk hm) I.kIn J e (fun z => nomatch z) h
end
end L2

namespace L2
open PySem PySem.Spec PyProof.Rows

/-! ### room -/
structure Room (k : Nat) (A : Around) : Prop where
  hd : A.handled = none
  dp : A.depth + 3 * k + 5 < recursionLimit
  un : A.units + 16 * k + 200 < cLine
theorem Room.mono {j k : Nat} {A : Around} (r : Room k A) (h : j ≤ k) : Room j A := ⟨r.hd, by have := r.dp; omega, by have := r.un; omega⟩
theorem Room.deeper {k : Nat} {A : Around} (r : Room (k + 1) A) (env : Env) : Room k (A.deeper env) :=
  ⟨r.hd, by have := r.dp; show A.depth + 1 + 3 * k + 5 < _; omega, by have := r.un; show A.units + 3 + 16 * k + 200 < _; omega⟩
theorem Room.depth {k : Nat} {A : Around} (r : Room k A) : A.depth < recursionLimit := by have := r.dp; omega
theorem Room.units {k : Nat} {A : Around} (r : Room k A) : A.units + 64 < cLine := by have := r.un; omega
theorem Room.units0 {k : Nat} {A : Around} (r : Room k A) : A.units < cLine := by have := r.un; omega

/-! ### argument lists and displays -/
def tNil : TA := fun _ H Q => Q [] H
def tCons (ta : TE) (tr : TA) : TA := fun σ H Q => ta σ H fun x H1 => tr σ H1 fun xs H2 => Q (x :: xs) H2
section
variable {X : Cx} {e : Expr} {es : List Expr} {te : TE} {t : TA} {pos : Pos}
theorem pa_nil : PA X [] tNil := fun _ _ _ _ H Q I h => Calls.spliced_nil ⟨[], H, I, .nil, h⟩
theorem pa_cons (ha : PE X e te) (hr : PA X es t) (hs : starEach (e :: es) X.env = (false, eval e X.env) :: starEach es X.env := by rfl) : PA X (e :: es) (tCons te t) := by
  intro pos pins s σ H Q I h
  rw [hs]
  show wpAny _ _ (spliced ((false, eval e X.env) :: backTo pos (starEach es X.env))) _ _ s
  refine Calls.spliced_cons (thn (ha pins s σ H _ I h) fun u s1 ⟨x, H1, I1, r1, q1⟩ => ?_)
  exact thn (hr pos pins s1 σ H1 _ I1 q1) fun us s2 ⟨xs, H2, I2, r2, q2⟩ => ⟨x :: xs, H2, I2, .cons r1 r2, q2⟩

/-- a tuple, a list of written items -/
def tTup (t : TA) : TE := fun σ H Q => t σ H fun xs H1 => xs.length ≤ sizeLine ∧ ∀ p, H1 p = none → Q (.ref p) (upd H1 p (.tup xs))
def tLst (t : TA) : TE := fun σ H Q => t σ H fun xs H1 => xs.length ≤ sizeLine ∧ ∀ p, H1 p = none → Q (.ref p) (upd H1 p (.lst xs))
theorem pe_tup {x1} (h : PA X es t) : PE X (.Tuple es x1 pos) (tTup t) := by
  intro pins s σ H Q I hq
  refine wpAny_Tuple_spliced (thn (h pos pins s σ H _ I hq) fun us s1 ⟨xs, H1, I1, r, z, q⟩ => ⟨by rw [← r.length]; exact z, ?_⟩)
  have hf : H1 s1.heap.objs.size = none := I1.hok.fresh (Nat.le_refl _)
  refine ⟨.ref s1.heap.objs.size, upd H1 s1.heap.objs.size (.tup xs), I1.laid (t' := s1.toks) (fun b u e => Heap.get?_push_of_some _ e) (Nat.le_refl _) ?_, rfl, q _ hf⟩
  exact ⟨z, us, r, ⟨_, Heap.get?_push_size _ rfl, rfl, _, rfl⟩, _, Heap.get?_push_size _ rfl, rfl⟩
theorem pe_lst (h : PA X es t) : PE X (.List es pos) (tLst t) := by
  intro pins s σ H Q I hq
  refine wpAny_List_spliced (thn (h pos pins s σ H _ I hq) fun us s1 ⟨xs, H1, I1, r, z, q⟩ => ⟨by rw [← r.length]; exact z, ?_⟩)
  have hf : H1 s1.heap.objs.size = none := I1.hok.fresh (Nat.le_refl _)
  refine ⟨.ref s1.heap.objs.size, upd H1 s1.heap.objs.size (.lst xs), I1.laid (t' := s1.toks) (fun b u e => Heap.get?_push_of_some _ e) (Nat.le_refl _) ?_, rfl, q _ hf⟩
  exact ⟨z, us, 0, r, Heap.get?_push_size _ rfl⟩
end

/-! ### what a def promises -/
/-- a def's promise: the bound arguments in the parameters' order, the heap, the wanted end, the wanted exception -/
abbrev Sp := List V → Hp → VK → XK → Prop
/-- how an exception lies behind a call (file 08 gives it): the callers' frames, abstract heap and state ahead of the call, the wish, the exception, the state -/
abbrev CXT := List Env → Hp → Shared → XK → Value → Shared → Prop

/-- the state at a call -/
structure Env0 (P : Program) (w : World) (K : PySem.W.Frag) (mg : Str → Option Value) (base : Heap) (A : Around) (outer : List Env) (s : Shared) (H : Hp) : Prop where
  frames : A.frames = some outer
  mod : Mod K mg base
  bs : ∀ b o, base.get? b = some o → s.heap.get? b = some o ∧ H b = none
  bsz : base.objs.size ≤ s.heap.objs.size
  funs : s.heap.FunFrames base outer
  frf : ∀ b ∈ frs outer, H b = none
  hok : HOk P w H s.heap
  bare : AllBare s.gens
/-- a call's end -/
def CE (outer : List Env) (P : Program) (w : World) (H : Hp) (s : Shared) (Q : VK) (u : Value) (s' : Shared) : Prop :=
  ∃ v H', s'.os = s.os ∧ AllBare s'.gens ∧ Un (frs outer) [] H H' s.heap s'.heap ∧ HOk P w H' s'.heap ∧ RelV v u ∧ Q v H'
def CR (CX : CXT) (outer : List Env) (P : Program) (w : World) (H : Hp) (s : Shared) (Q : VK) (E : XK) (r : Result) (s' : Shared) : Prop :=
  match r with
  | .ok (.ret u) => CE outer P w H s Q u s'
  | .ok _ => False
  | .error e => CX outer H s E e s'
structure FnOk (P : Program) (w : World) (K : PySem.W.Frag) (mg : Str → Option Value) (base : Heap) (CX : CXT) (k : Nat) (f : Addr) (fd : FuncData) (ps : List Str) (sp : Sp) : Prop where
  len : ∀ vs H Q E, sp vs H Q E → vs.length = ps.length
  run : ∀ (A : Around) (outer : List Env) (s : Shared) (H : Hp) (args : Args) (us : List Value) (vs : List V) (Q : VK) (E : XK), Room k A → Env0 P w K mg base A outer s H → BindsTo s fd args (ps.zip us) → Vals vs us → sp vs H Q E →
    codeAny (model P w) A (.call (.ref f) args) (CR CX outer P w H s Q E) s
section
variable {X : Cx} {pins : List (Addr × Obj)} {σ : St} {H : Hp} {s s' : Shared}
/-- from a body: what a callee wants -/
theorem Inv.env0 (I : Inv X pins σ H s) : Env0 X.prog X.w X.K X.mg X.base X.A X.stack s H :=
  ⟨I.ok.frames, I.ok.mod, I.bs, Nat.le_trans I.ok.bsz I.sz, I.stack, I.stkFree, I.hok, I.bare⟩
/-- behind a call -/
theorem Inv.after {Q : VK} {u : Value} (I : Inv X pins σ H s) (h : CE X.stack X.prog X.w H s Q u s') : EP X pins σ Q u s' := by
  obtain ⟨v, H', os, bare, un, hok, r, q⟩ := h
  obtain ⟨hh, g, d, t, os'⟩ := s'
  obtain rfl : os' = s.os := os
  exact ⟨v, H', I.call (h' := hh) (g' := g) (d' := d) (t' := t) (ch := []) un hok bare (fun b z => absurd z (by simp)), r, q⟩
end

/-! ### calls -/
/-- f(..): the written arguments, then the defaults dvs; E: what is wanted of an exception -/
def tCall (sp : Sp) (dvs : List V) (E : XK) (t : TA) : TE := fun σ H Q => t σ H fun vs H1 => sp (vs ++ dvs) H1 Q E
/-- o.m(..) of an instance of the class at C -/
def tMeth (C : Addr) (m : Str) (sp : Sp) (dvs : List V) (E : XK) (ta : TE) (t : TA) : TE := fun σ H Q => ta σ H fun x H1 => ∃ a dx fs, x = .ref a ∧ H1 a = some (.ins C dx fs) ∧ fs.lookup m = none ∧
  t σ H1 fun vs H2 => sp (x :: (vs ++ dvs)) H2 Q E
/-- C(..): a new instance and its dict, then __init__ -/
def tMake (C : Addr) (sp : Sp) (dvs : List V) (E : XK) (t : TA) : TE := fun σ H Q => t σ H fun vs H1 => ∀ x dx, H1 x = none → H1 dx = none → dx ≠ x →
  sp (.ref x :: (vs ++ dvs)) (upd (upd H1 dx (.own x)) x (.ins C dx [])) (fun v H2 => v = .non ∧ Q (.ref x) H2) E

/-- how the parameters are bound: us the positional arguments, kw the keywords' values by name, ds the defaults that fill up -/
def Binds (K : PySem.W.Frag) (fd : FuncData) (ps : List Str) (ds : List Value) : Prop :=
  ∀ (s : Shared) (us : List Value), K.In s.heap → (us ++ ds).length = ps.length → BindsTo s fd ⟨us, []⟩ (ps.zip (us ++ ds))
/-- every parameter is given -/
theorem Binds.all {K : PySem.W.Frag} {fd : FuncData} {ps : List Str} (h : ∀ us : List Value, us.length = ps.length → bindArgs fd ⟨us, []⟩ = pure (ps.zip us)) : Binds K fd ps [] := fun s us _ hl => by
  rw [List.append_nil] at hl ⊢
  exact .of_eq (h us hl)

/-- an exception of a callee reaches what this body wants of exceptions -/
def Passes (CX : CXT) (X : Cx) (E : XK) : Prop := ∀ (pins : List (Addr × Obj)) (σ : St) (H : Hp) (s : Shared) (e : Value) (s' : Shared), Inv X pins σ H s → CX X.stack H s E e s' → X.xe e s'

section
variable {X : Cx} {CX : CXT} {k : Nat} {f C : Addr} {fd : FuncData} {ps : List Str} {sp : Sp} {dvs : List V} {ds : List Value} {E : XK} {x m : Str} {p pos apos : Pos} {e o : Expr} {es : List Expr} {ta : TE} {t : TA}

/-- the callee runs -/
theorem run_fn {pins : List (Addr × Obj)} {σ : St} {H : Hp} {s : Shared} {Q : VK} {us : List Value} {vs : List V} (F : FnOk X.prog X.w X.K X.mg X.base CX k f fd ps sp) (hr : Room k X.A) (hb : Binds X.K fd ps ds) (hd : Vals dvs ds) (hx : Passes CX X E)
    (I : Inv X pins σ H s) (r : Vals vs us) (h : sp (vs ++ dvs) H Q E) : wpAny (model X.prog X.w) X.A (call (.ref f) us) (EP X pins σ Q) X.xe s := by
  have r2 : Vals (vs ++ dvs) (us ++ ds) := r.append hd
  have hl : (us ++ ds).length = ps.length := by rw [← r2.length]; exact F.len _ _ _ _ h
  refine wpAny_call (codeAny_mono (F.run X.A X.stack s H ⟨us, []⟩ (us ++ ds) (vs ++ dvs) Q E hr I.env0 (hb s us I.kIn hl) r2 h) fun r s' hq => ?_)
  cases r with
  | error e => exact hx pins σ H s e s' I hq
  | ok fl =>
    cases fl with
    | ret u => exact I.after hq
    | next => exact False.elim hq
    | brk => exact False.elim hq
    | cont => exact False.elim hq

theorem pe_call (F : FnOk X.prog X.w X.K X.mg X.base CX k f fd ps sp) (hr : Room k X.A) (hg : Gl X x) (hm : X.mg x = some (.ref f)) (hk : PySem.W.keepIn X.K (.ref f) = true) (hb : Binds X.K fd ps ds) (hd : Vals dvs ds) (hx : Passes CX X E)
    (ha : PA X (e :: es) t) (hdb : (x == ("__debug__" : Str)) = false := by decide) (he : starEach (e :: es) X.env = (false, eval e X.env) :: starEach es X.env := by rfl) (hpl : (backTo pos (starEach es X.env)).any (·.1) = false := by rfl) :
    PE X (.Call (.Name x p) (e :: es) [] pos) (tCall sp dvs E t) := by
  intro pins s σ H Q I h
  refine wpAny_Call_Name_kw (ld_glob I hg hm ?_ hdb)
  refine PySem.W.callWith_K (h₀ := X.base) I.ok.mod.kin hk (thn (ha pos pins s σ H _ I h) fun us s1 ⟨vs, H1, I1, r, q⟩ => ⟨I1.kIn, ?_⟩) he hpl
  exact run_fn F hr hb hd hx I1 r q
theorem pe_call0 (F : FnOk X.prog X.w X.K X.mg X.base CX k f fd ps sp) (hr : Room k X.A) (hg : Gl X x) (hm : X.mg x = some (.ref f)) (hk : PySem.W.keepIn X.K (.ref f) = true) (hb : Binds X.K fd ps ds) (hd : Vals dvs ds) (hx : Passes CX X E)
    (hdb : (x == ("__debug__" : Str)) = false := by decide) : PE X (.Call (.Name x p) [] [] pos) (tCall sp dvs E tNil) := by
  intro pins s σ H Q I h
  refine wpAny_Call_Name_kw (ld_glob I hg hm ?_ hdb)
  exact PySem.W.callWith_K0 I.kIn hk (run_fn (us := []) F hr hb hd hx I .nil h)

/-- what a class must have to be made -/
structure Mk (K : PySem.W.Frag) (C f : Addr) : Prop where
  makes : PySem.W.makesIn K C = true
  init : PySem.W.findIn K (.ref C) "__init__" = some (some (.ref f))
  fn : PySem.W.isFn K (.ref f) = true
  kp : PySem.W.keepIn K (.ref C) = true

end

/-! ### keywords -/
/-- the values of the keywords, from the left -/
def PK (X : Cx) (kws : List Keyword) (t : TA) : Prop :=
  ∀ (pos : Pos) (pins : List (Addr × Obj)) (s : Shared) (σ : St) (H : Hp) (Q : List V → Hp → Prop), Inv X pins σ H s → t σ H Q → wpAny (model X.prog X.w) X.A (evalAll ((backToKw pos (keywordEach kws X.env)).map (·.2))) (AP X pins σ Q) X.xe s
section
variable {X : Cx} {CX : CXT} {k : Nat} {f C : Addr} {fd : FuncData} {ps ks : List Str} {sp : Sp} {E : XK} {x m : Str} {p pos apos kpos : Pos} {e o : Expr} {es : List Expr} {kws : List Keyword} {te ta : TE} {t tk : TA} {nm : Option Str}
/-- how a call with keywords binds: g puts the positional values us and the keywords' values ws (names ks) in the parameters' order, defaults among them -/
structure KBinds (K : PySem.W.Frag) (fd : FuncData) (ps ks : List Str) (g : List Value → List Value → List Value) (gV : List V → List V → List V) : Prop where
  to : ∀ (s : Shared) (us ws : List Value), K.In s.heap → (g us ws).length = ps.length → BindsTo s fd ⟨us, ks.zip ws⟩ (ps.zip (g us ws))
  rel : ∀ {vs : List V} {us : List Value} {zs : List V} {ws : List Value}, Vals vs us → Vals zs ws → Vals (gV vs zs) (g us ws)
def tCallK (sp : Sp) (gV : List V → List V → List V) (E : XK) (t tk : TA) : TE := fun σ H Q => t σ H fun vs H1 => tk σ H1 fun zs H2 => sp (gV vs zs) H2 Q E
variable {g : List Value → List Value → List Value} {gV : List V → List V → List V}
end

/-! ### a def's body keeps its promise -/
/-- names: the parameters first -/
structure FnScope (N P : List Str) (sc : Scope) : Prop where
  kind : sc.kind = .function
  co : sc.isCoroutine = false
  gen : sc.isGenerator = false
  nd : N.Nodup
  pre : N.take P.length = P
  par : ∀ x ∈ P, sc.names.lookup x = some .local ∨ sc.names.lookup x = some .cell
  nofree : ∀ y ∈ sc.names, y.2 ≠ .free

theorem bindL_out {kindOf : Str → Option NameKind} {x : Str} : ∀ {binds : List (Str × Value)} {m : Str → Option Value}, (∀ v, (x, v) ∉ binds) → bindL kindOf binds m x = m x
  | [], _, _ => rfl
  | (n, v) :: r, m, h => by
    unfold bindL
    rw [bindL_out fun w hw => h w (List.mem_cons_of_mem _ hw)]
    split
    · have : x ≠ n := by rintro rfl; exact h v List.mem_cons_self
      simp [this]
    · rfl
theorem bindC_out {kindOf : Str → Option NameKind} {x : Str} : ∀ {binds : List (Str × Value)} {m : Str → Option Value}, (∀ v, (x, v) ∉ binds) → bindC kindOf binds m x = m x
  | [], _, _ => rfl
  | (n, v) :: r, m, h => by
    unfold bindC
    rw [bindC_out fun w hw => h w (List.mem_cons_of_mem _ hw)]
    split
    · rfl
    · have : x ≠ n := by rintro rfl; exact h v List.mem_cons_self
      simp [this]
theorem bindL_get {kindOf : Str → Option NameKind} {x : Str} {v : Value} : ∀ {P : List Str} {vs : List Value} {i : Nat} {m : Str → Option Value}, P.Nodup → P[i]? = some x → vs[i]? = some v → kindOf x = some .local →
    bindL kindOf (P.zip vs) m x = some v
  | [], _, _, _, _, h, _, _ => by simp at h
  | _ :: _, [], _, _, _, _, h, _ => by simp at h
  | p :: P, w :: vs, 0, m, nd, h1, h2, hk => by
    simp at h1 h2; subst h1; subst h2
    show bindL kindOf ((p, w) :: P.zip vs) m p = _
    unfold bindL
    rw [bindL_out fun v hv => (List.nodup_cons.mp nd).1 (List.of_mem_zip hv).1, if_pos hk]
    simp
  | p :: P, w :: vs, i + 1, m, nd, h1, h2, hk => by
    show bindL kindOf ((p, w) :: P.zip vs) m x = _
    unfold bindL
    exact bindL_get (i := i) (List.nodup_cons.mp nd).2 (by simpa using h1) (by simpa using h2) hk
theorem bindC_get {kindOf : Str → Option NameKind} {x : Str} {v : Value} : ∀ {P : List Str} {vs : List Value} {i : Nat} {m : Str → Option Value}, P.Nodup → P[i]? = some x → vs[i]? = some v → kindOf x ≠ some .local →
    bindC kindOf (P.zip vs) m x = some v
  | [], _, _, _, _, h, _, _ => by simp at h
  | _ :: _, [], _, _, _, _, h, _ => by simp at h
  | p :: P, w :: vs, 0, m, nd, h1, h2, hk => by
    simp at h1 h2; subst h1; subst h2
    show bindC kindOf ((p, w) :: P.zip vs) m p = _
    unfold bindC
    rw [bindC_out fun v hv => (List.nodup_cons.mp nd).1 (List.of_mem_zip hv).1, if_neg hk]
    simp
  | p :: P, w :: vs, i + 1, m, nd, h1, h2, hk => by
    show bindC kindOf ((p, w) :: P.zip vs) m x = _
    unfold bindC
    exact bindC_get (i := i) (List.nodup_cons.mp nd).2 (by simpa using h1) (by simpa using h2) hk

/-- the names' values at the entry -/
def start (N : List Str) (vs : List V) : St := vs.map some ++ List.replicate (N.length - vs.length) none

/-- the context of a def's body, at its entry; an exception leaves the frame, then lies as CX says -/
def cxOf (CX : CXT) (P : Program) (w : World) (K : PySem.W.Frag) (mg : Str → Option Value) (base : Heap) (N : List Str) (qual : Str) (scope : Scope) (f : Addr) (cd : Value) (A : Around) (outer : List Env) (s : Shared) (H : Hp) (E : XK) : Cx where
  prog := P
  w := w
  K := K
  mg := mg
  base := base
  A := A.deeper (envOfC qual scope s.heap.objs.size f cd)
  N := N
  s₀ := s
  H₀ := H
  env := envOfC qual scope s.heap.objs.size f cd
  outer := outer
  stack := envOfC qual scope s.heap.objs.size f cd :: outer
  ex := []
  calm := true
  fn := fun _ => true
  pn := []
  xe := fun e s' => wpAny (model P w) (A.deeper (envOfC qual scope s.heap.objs.size f cd)) (leaving (envOfC qual scope s.heap.objs.size f cd) e) (fun _ s'' => CX outer H s E e s'') (fun e' s'' => CX outer H s E e' s'') s'

theorem cell_has {sc : Scope} {n : Nat} {x : Str} (h : sc.names.lookup x = some .cell) : ∃ c, (cellsFrom n sc.names []).lookup x = some c := by
  have q := PySem.W.cellsFrom_some sc.names n [] (.inl h)
  exact Option.isSome_iff_exists.mp q

theorem inv_start {CX : CXT} {P : Program} {w : World} {K : PySem.W.Frag} {mg : Str → Option Value} {base : Heap} {N ps : List Str} {qual : Str} {scope : Scope} {f : Addr} {cd : Value} {A : Around} {outer : List Env} {s s1 : Shared} {H : Hp} {E : XK} {us : List Value} {vs : List V}
    (S : FnScope N ps scope) (hd : A.handled = none) (e0 : Env0 P w K mg base A outer s H) (hl : vs.length = ps.length) (r : Vals vs us)
    (x : InCallC s s.heap.objs.size (bindL (envOfC qual scope s.heap.objs.size f cd).kindOf (ps.zip us) fun _ => none) (cellsFrom (s.heap.objs.size + 1) scope.names []) (bindC (envOfC qual scope s.heap.objs.size f cd).kindOf (ps.zip us) fun _ => none) s1) :
    Inv (cxOf CX P w K mg base N qual scope f cd A outer s H E) [] (start N vs) H s1 := by
  have hpl : ps.length ≤ N.length := by have := congrArg List.length S.pre; rw [List.length_take] at this; omega
  obtain ⟨h1, tk, rfl, hk⟩ := x.done
  have noA : ∀ b : Addr, b ∉ (cxOf CX P w K mg base N qual scope f cd A outer s H E).ex := fun b z => absurd (show b ∈ ([] : List Addr) from z) (by simp)
  refine ⟨⟨e0.mod, S.kind, rfl, rfl, Nat.le_refl _, fun y z c h1 h2 => ?_, fun y hy => ?_, fun y c _ h => ?_, fun _ => hd, Around.frames_deeper e0.frames, .inr ⟨rfl, rfl⟩, fun b z => absurd z (noA b), e0.bs, e0.bsz, fun b _ _ => noA b, fun b z => absurd z (noA b), e0.funs, e0.frf⟩,
    rfl, e0.bare, Un.kept hk, ⟨_, x.toInCall.ns, fun i y v h1 h2 h3 => ?_⟩, fun y c h => ⟨_, x.cell y c h⟩, e0.hok.fresh (Nat.le_refl _), fun y c h => ?_, fun p hp => absurd (show p ∈ ([] : List (Addr × Obj)) from hp) (by simp), e0.hok.kept hk, ?_⟩
  · exact name_of_addr x.apart (PySem.mem_of_lookup h1) (PySem.mem_of_lookup h2)
  · have hy : scope.names.lookup y = some .cell ∨ scope.names.lookup y = some .free := hy
    rcases hy with hy | hy
    · exact cell_has hy
    · exact absurd rfl (S.nofree _ (PySem.mem_of_lookup hy))
  · exact Nat.le_of_lt (x.above y c (PySem.mem_of_lookup h))
  · have hi : i < vs.length := by
      unfold start at h2
      by_cases hi : i < vs.length
      · exact hi
      · rw [List.getElem?_append_right (by simpa using hi)] at h2
        rw [List.getElem?_replicate] at h2
        split at h2 <;> cases h2
    have ha : vs[i]? = some v := by
      unfold start at h2
      rw [List.getElem?_append_left (by simpa using hi), List.getElem?_map] at h2
      cases e : vs[i]? with
      | none => rw [e] at h2; cases h2
      | some a => rw [e] at h2; cases h2; rfl
    obtain ⟨u, hu, rv⟩ := r.get ha
    have hp : ps[i]? = some y := by
      rw [← S.pre, List.getElem?_take_of_lt (by omega)]; exact h1
    have ndP : ps.Nodup := by rw [← S.pre]; exact S.nd.sublist (List.take_sublist _ _)
    refine ⟨u, rv, ?_⟩
    rcases S.par y (List.mem_of_getElem? hp) with k | k
    · exact .inl ⟨k, bindL_get ndP hp hu k⟩
    · obtain ⟨c, e⟩ := cell_has (n := s.heap.objs.size + 1) k
      refine .inr ⟨.inl k, c, e, ?_⟩
      have q := x.cell y c e
      rw [bindC_get ndP hp hu (by show scope.names.lookup y ≠ _; rw [k]; decide)] at q
      exact q
  · exact e0.hok.fresh (Nat.le_of_lt (x.above y c (PySem.mem_of_lookup h)))
  · unfold start
    show _ = N.length
    rw [List.length_append, List.length_map, List.length_replicate]
    omega

/-- THE RULE: a def (or a method) of the text, by its body. The body's reading t is chosen for each entry; it is run at the parameters' values -/
theorem fn_of {CX : CXT} {P : Program} {w : World} {K : PySem.W.Frag} {mg : Str → Option Value} {base : Heap} {k : Nat} {f : Addr} {name qual : Str} {params : Arguments} {body : List Stmt} {scope : Scope} {dV kV doc pm cdv ct oc : Value} {an od : Option Addr}
    {osl : Array (Option Value)} {N ps : List Str} {sp : Sp} (lk : K.lookup f = some ⟨oc, od, .func (PySem.W.fnOf name qual params body scope dV kV doc pm an cdv ct), osl⟩) (hcd : PySem.W.codeIn K cdv qual = true) (S : FnScope N ps scope)
    (len : ∀ vs H Q E, sp vs H Q E → vs.length = ps.length)
    (hbody : ∀ (A : Around) (outer : List Env) (s : Shared) (H : Hp) (vs : List V) (Q : VK) (E : XK), Room k (A.deeper (envOfC qual scope s.heap.objs.size f cdv)) → sp vs H Q E →
      ∃ t, PSs (cxOf CX P w K mg base N qual scope f cdv A outer s H E) body t ∧ t { nx := fun _ H' => Q .non H', rt := Q } (start N vs) H) :
    FnOk P w K mg base CX (k + 1) f (PySem.W.fnOf name qual params body scope dV kV doc pm an cdv ct) ps sp := by
  refine ⟨len, fun A outer s H args us vs Q E hr e0 hb r hsp => ?_⟩
  have hl := len _ _ _ _ hsp
  have KX : K.In s.heap := e0.mod.kin.keeps fun b o e => (e0.bs b o e).1
  have lim : s.heap.NoLimit := e0.mod.nolimit.keeps fun b o e => (e0.bs b o e).1
  have hkind : ∀ y ∈ ps.zip us, scope.names.lookup y.1 = some .local ∨ (scope.names.lookup y.1 = some .cell ∧ ((cellsFrom (s.heap.objs.size + 1) scope.names []).lookup y.1).isSome = true) := fun ⟨n, v⟩ hy => by
    rcases S.par n (List.of_mem_zip hy).1 with q | q
    · exact .inl q
    · exact .inr ⟨q, PySem.W.cellsFrom_some _ _ _ (.inl q)⟩
  refine codeAny_call_function hr.depth (KX _ _ lk) rfl S.co S.gen rfl (PySem.W.codeRec_of KX hcd) (hb _ _ _ _ ?_)
  refine wpAny_newFunctionEnv_cells S.kind hkind fun env he s1 x => ?_
  subst he
  refine ⟨lim.keeps x.toInCall.keep, codeAny_func ?_⟩
  obtain ⟨t, ht, hq⟩ := hbody A outer s H vs Q E (hr.deeper _) hsp
  have I : Inv (cxOf CX P w K mg base N qual scope f cdv A outer s H E) [] (start N vs) H s1 := inv_start S hr.hd e0 hl r x
  refine wpAny_mono (ht [] s1 (start N vs) H _ I hq) (fun fl s' hs => ?_) fun e s' hs => hs
  have fin : ∀ {σ' : St} {H' : Hp} {v : V} {u : Value}, Inv (cxOf CX P w K mg base N qual scope f cdv A outer s H E) [] σ' H' s' → RelV v u → Q v H' → CE outer P w H s Q u s' :=
    fun {σ' H' v u} J rv q => ⟨v, H', J.os, J.bare, J.base, J.hok, rv, q⟩
  cases fl with
  | ret u =>
    obtain ⟨v, σ', H', J, rv, q⟩ := hs
    exact fin J rv q
  | next =>
    obtain ⟨σ', H', J, q⟩ := hs
    exact fin (v := V.non) (u := Value.none) J rfl q
  | brk =>
    obtain ⟨_, _, _, q⟩ := hs
    exact False.elim q
  | cont =>
    obtain ⟨_, _, _, q⟩ := hs
    exact False.elim q
end L2

namespace L2
open PySem PySem.Spec PyProof.Rows
section
variable {X : Cx} {x : Str} {p pos : Pos} {e : Expr} {es : List Expr} {t : TA} {id T : String} {r : List V → Hp → VK → Prop}

def tCB (r : List V → Hp → VK → Prop) (t : TA) : TE := fun σ H Q => t σ H fun vs H1 => r vs H1 Q
/-- f(e, ..), f a built-in function -/
theorem pe_callB (hc : CallR X (.builtin id) r) (hg : Gl X x) (hm : X.mg x = none) (hv : bootBuiltins x = some (.builtin id)) (ha : PA X (e :: es) t) (hn : x ≠ "__name__" := by decide) (hdb : (x == ("__debug__" : Str)) = false := by decide)
    (he : starEach (e :: es) X.env = (false, eval e X.env) :: starEach es X.env := by rfl) (hpl : (backTo pos (starEach es X.env)).any (·.1) = false := by rfl) : PE X (.Call (.Name x p) (e :: es) [] pos) (tCB r t) := by
  intro pins s σ H Q I h
  refine wpAny_Call_Name_kw (ld_blt I hg hm hv ?_ hn hdb)
  exact PyProof.Rows.callWith_builtin1 (thn (ha pos pins s σ H _ I h) fun us s1 ⟨vs, H1, I1, r1, q1⟩ => hc pins s1 σ H1 vs us Q I1 r1 q1) he hpl
/-- T(e, ..), T a built-in type -/
theorem pe_callTy (hc : CallR X (.type T) r) (hg : Gl X x) (hm : X.mg x = none) (hv : bootBuiltins x = some (.type T)) (ha : PA X (e :: es) t) (hn : x ≠ "__name__" := by decide) (hdb : (x == ("__debug__" : Str)) = false := by decide)
    (he : starEach (e :: es) X.env = (false, eval e X.env) :: starEach es X.env := by rfl) (hpl : (backTo pos (starEach es X.env)).any (·.1) = false := by rfl) : PE X (.Call (.Name x p) (e :: es) [] pos) (tCB r t) := by
  intro pins s σ H Q I h
  refine wpAny_Call_Name_kw (ld_blt I hg hm hv ?_ hn hdb)
  exact PyProof.Rows.callWith_type1 (thn (ha pos pins s σ H _ I h) fun us s1 ⟨vs, H1, I1, r1, q1⟩ => hc pins s1 σ H1 vs us Q I1 r1 q1) he hpl
end
end L2

namespace HT
open PySem PyProof.Rows

/-- t < u of tuples of ints -/
def lexLt : List Int → List Int → Bool
  | [], [] => false
  | [], _ :: _ => true
  | _ :: _, [] => false
  | x :: xs, y :: ys => if x = y then lexLt xs ys else decide (x < y)
section
open PySem.SeqAt
open PySem.AutoSeq1 (wpAny_loadPart')
open PySem.MeetsSeq PySem.MeetsSeq2 PySem.MeetsSeq3

end

section
variable {prog : Program} {w : World} {A : Around} {E : Value → Shared → Prop} {s : Shared}

/-- t + u, t not empty -/
theorem cat_tup {t b : Addr} {vs ws : List Value} {Q : Value → Shared → Prop} (ht : IsTup s.heap t vs.toArray) (hb : IsTup s.heap b ws.toArray) (hv : vs ≠ [])
    (h1 : ws = [] → Q (.ref t) s) (h2 : ws ≠ [] → Q (.ref s.heap.objs.size) { s with heap := s.heap.push { cls := .type "tuple", data := .seq (vs ++ ws).toArray } })
    (hsz : vs.length + ws.length ≤ sizeLine) : wpAny (model prog w) A (binaryOp .Add (.ref t) (.ref b)) Q E s := by
  obtain ⟨⟨cls, dd, data, sl⟩, ho, hc, n, hd⟩ := id ht
  obtain ⟨⟨cls2, dd2, data2, sl2⟩, ho2, hc2, n2, hd2⟩ := id hb
  simp only at hc hd hc2 hd2
  subst hc hd hc2 hd2
  have e : vs.toArray ++ ws.toArray = (vs ++ ws).toArray := by simp
  by_cases hw : ws = []
  · exact concat_meets ⟨_, ho, rfl⟩ ⟨_, ho2, rfl⟩ noFill_tuple_add seq_tuple_add PySem.F.slot_tuple_add PySem.F.entry_tuple_add (PySem.F.args_tuple_add_2 _ _)
      (tuple_addW1 t b vs.toArray ws.toArray n n2 dd dd2 sl sl2 (by simpa using hv) (by simp [hw])) ⟨ho, ho2, h1 hw⟩
  · refine concat_meets ⟨_, ho, rfl⟩ ⟨_, ho2, rfl⟩ noFill_tuple_add seq_tuple_add PySem.F.slot_tuple_add PySem.F.entry_tuple_add (PySem.F.args_tuple_add_2 _ _)
      (tuple_addW2 t b vs.toArray ws.toArray n n2 dd dd2 sl sl2 (by simpa using hv) (by simpa using hw) (by rw [List.size_toArray, List.size_toArray]; exact hsz)) ⟨ho, ho2, ?_⟩
    rw [e]
    exact h2 hw

/-! ### t[a:b], not the whole -/
/-- a slice's bound as a place among n (d where it is left out) -/
def sIx (n d : Nat) : Option Int → Nat
  | none => d
  | some v => if v < 0 then (v + (n : Int)).toNat else min v.toNat n
theorem sIx_none (n d : Nat) : sIx n d none = d := rfl
theorem sIx_nat (n d k : Nat) : sIx n d (some (k : Int)) = min k n := by
  show (if (k : Int) < 0 then ((k : Int) + (n : Int)).toNat else min (k : Int).toNat n) = min k n
  rw [if_neg (by omega), Int.toNat_natCast]
theorem sIx_le (n d : Nat) (hd : d ≤ n) (o : Option Int) : sIx n d o ≤ n := by
  cases o with
  | none => exact hd
  | some v =>
    show (if v < 0 then (v + (n : Int)).toNat else min v.toNat n) ≤ n
    by_cases hv : v < 0
    · rw [if_pos hv]; omega
    · rw [if_neg hv]; exact Nat.min_le_right _ _
theorem clip_eq (v : Int) (n d : Nat) : (if v < 0 then max (v + (n : Int)) 0 else min v (n : Int)) = ((sIx n d (some v) : Nat) : Int) := by
  show (if v < 0 then max (v + (n : Int)) 0 else min v (n : Int)) = (((if v < 0 then (v + (n : Int)).toNat else min v.toNat n) : Nat) : Int)
  by_cases hv : v < 0
  · simp only [if_pos hv]; omega
  · simp only [if_neg hv]; omega
theorem adjust_gen (lo hi : Option Int) (n : Nat) : Builtin.Slice.sliceAdjust lo hi 1 (n : Int) = (((sIx n 0 lo : Nat) : Int), ((sIx n n hi : Nat) : Int)) := by
  have h1 : ¬ ((1 : Int) < 0) := by omega
  unfold Builtin.Slice.sliceAdjust
  simp only [h1, if_false]
  refine Prod.ext ?_ ?_
  · cases lo with
    | none => rfl
    | some v => exact clip_eq v n 0
  · cases hi with
    | none => rfl
    | some v => exact clip_eq v n n
theorem places_gen (i j : Nat) : Builtin.Slice.slicePlaces (i : Int) (j : Int) 1 = j - i := by
  unfold Builtin.Slice.slicePlaces
  have h1 : (1 : Int) > 0 := by omega
  simp only [h1, if_true, Int.ediv_one]
  split <;> omega
theorem slicePart_ {v : Value} {o : Option Int} {Q : Option Int → Shared → Prop} (p : IsPart v o) (h : Q o s) : wpAny (model prog w) A (Builtin.Slice.slicePartIndex v) Q E s := by
  cases p with
  | none => exact slicePart_none h
  | int i t => exact slicePart_int h
theorem sliceApplied_gen {sl : Addr} {vl vu : Value} {lo hi : Option Int} {n : Nat} {Q : Int × Int × Nat → Shared → Prop} (hs : s.heap.IsSliceOf sl vl vu .none) (pl : IsPart vl lo) (pu : IsPart vu hi)
    (h : Q (((sIx n 0 lo : Nat) : Int), 1, sIx n n hi - sIx n 0 lo) s) : wpAny (model prog w) A (Builtin.Slice.sliceApplied (.ref sl) (pure (n : Int))) Q E s := by
  obtain ⟨os, hos, hcs, hds⟩ := id hs
  unfold Builtin.Slice.sliceApplied Builtin.Slice.sliceFields
  refine wpAny_bind (wpAny_bind (wpAny_field hos hds (x := vl) rfl (wpAny_bind (wpAny_field hos hds (x := vu) rfl (wpAny_bind (wpAny_field hos hds (x := .none) rfl (wpAny_pure ?_)))))))
  refine wpAny_bind (slicePart_none ?_)
  show wpAny _ _ (if ((1 : Int) == 0) = true then _ else _) _ _ s
  rw [if_neg (by decide)]
  refine wpAny_bind (slicePart_ pl (wpAny_bind (slicePart_ pu (wpAny_bind (wpAny_pure ?_)))))
  show wpAny _ _ (match Builtin.Slice.sliceAdjust lo hi 1 (n : Int) with | (lo, hi) => pure (lo, (1 : Int), Builtin.Slice.slicePlaces lo hi 1)) _ _ s
  rw [adjust_gen lo hi n]
  show wpAny _ _ (pure (((sIx n 0 lo : Nat) : Int), (1 : Int), Builtin.Slice.slicePlaces ((sIx n 0 lo : Nat) : Int) ((sIx n n hi : Nat) : Int) 1)) _ _ s
  rw [places_gen]
  exact wpAny_pure h
theorem pick_gen (xs : Array Value) (i k : Nat) : ((List.range k).filterMap fun (m : Nat) => xs[((i : Int) + (m : Int) * 1).toNat]?).toArray = ((xs.toList.drop i).take k).toArray := by
  have e : (fun (m : Nat) => xs[((i : Int) + (m : Int) * 1).toNat]?) = fun m => xs[i + m]? := by
    funext m
    have : ((i : Int) + (m : Int) * 1).toNat = i + m := by omega
    rw [this]
  rw [e]
  have := pick_run xs i k
  rw [List.filterMap_map] at this
  have e2 : ((fun x => xs[x]?) ∘ fun x => i + x) = fun m => xs[i + m]? := rfl
  rw [e2] at this
  rw [this]

theorem getItem_tuple_cut {t sl : Addr} {items : Array Value} {vl vu : Value} {lo hi : Option Int} {Q : Value → Shared → Prop} (ht : IsTup s.heap t items) (hs : s.heap.IsSliceOf sl vl vu .none) (pl : IsPart vl lo) (pu : IsPart vu hi)
    (hw : ¬ (sIx items.size 0 lo = 0 ∧ sIx items.size items.size hi = items.size))
    (h : Q (.ref s.heap.objs.size) { s with heap := s.heap.push { cls := .type "tuple", data := .seq ((items.toList.drop (sIx items.size 0 lo)).take (sIx items.size items.size hi - sIx items.size 0 lo)).toArray } })
    (hsz : items.size ≤ sizeLine) : wpAny (model prog w) A (getItem (.ref t) (.ref sl)) Q E s := by
  have htake : sizeOk (.seq ((items.toList.drop (sIx items.size 0 lo)).take (sIx items.size items.size hi - sIx items.size 0 lo)).toArray) := by
    show ((items.toList.drop (sIx items.size 0 lo)).take (sIx items.size items.size hi - sIx items.size 0 lo)).toArray.size ≤ sizeLine
    rw [List.size_toArray, List.length_take, List.length_drop, Array.length_toList]
    omega
  have hj : sIx items.size items.size hi ≤ items.size := sIx_le _ _ (Nat.le_refl _) hi
  obtain ⟨os, hos, hcs, hds⟩ := id hs
  have hTs : s.TypeIs (.ref sl) "slice" := ⟨os, hos, hcs⟩
  unfold getItem
  try with_reducible refine wpAny_holding ?_
  first | refine wpAny_bind (wpAny_pure ?_) | skip
  refine wpAny_bind (wpAny_sequenceKey ht.typeIs (by decide) ?_)
  refine wpAny_bind (wpAny_callSpecial?_slot (name := Str.ofString "__getitem__") ht.typeIs PyProof.Rows.slot_tuple_getitem
    (wpAny_call_entry PyProof.Rows.slot_tuple_getitem ht.typeIs entry_tuple_getitem ?_ (args_tuple_getitem _ _)))
  show wpAny _ _ (Builtin.Tuple.tupleItemsOf (.ref t) >>= _) _ _ s
  refine wpAny_bind (tupleItemsOf_ ht ?_)
  refine wpAny_bind (wpAny_typeOf hTs ?_)
  rw [if_pos (by decide)]
  refine wpAny_bind (sliceApplied_gen hs pl pu ?_)
  have hno : ¬ ((((sIx items.size 0 lo : Nat) : Int) == 0 && (1 : Int) == 1 && (sIx items.size items.size hi - sIx items.size 0 lo) == items.size) = true) := by
    intro q
    rw [Bool.and_eq_true, Bool.and_eq_true] at q
    have q1 : ((sIx items.size 0 lo : Nat) : Int) = 0 := eq_of_beq q.1.1
    have q2 : sIx items.size items.size hi - sIx items.size 0 lo = items.size := eq_of_beq q.2
    exact hw ⟨by omega, by omega⟩
  show wpAny _ _ (if (((sIx items.size 0 lo : Nat) : Int) == 0 && (1 : Int) == 1 && (sIx items.size items.size hi - sIx items.size 0 lo) == items.size) = true then _ else _) _ _ s
  rw [if_neg hno, pick_gen]
  first
    | exact wpAny_bind (m := Builtin.Tuple.tupleExact _) (wpAny_newObj_type (wpAny_pure ⟨_, rfl, wpAny_pure h⟩) htake)
    | exact wpAny_bind (m := Builtin.Tuple.tupleExact _) (wpAny_newObj_type (wpAny_bind (wpAny_pure (wpAny_pure ⟨_, rfl, wpAny_pure h⟩))) htake)
    | exact wpAny_bind (wpAny_bind (m := Builtin.Tuple.tupleExact _) (wpAny_newObj_type (wpAny_pure (wpAny_pure ⟨_, rfl, wpAny_pure h⟩)) htake))
    | exact wpAny_bind (wpAny_bind (m := Builtin.Tuple.tupleExact _) (wpAny_newObj_type (wpAny_pure ⟨_, rfl, wpAny_pure h⟩) htake))
end
end HT

namespace L2
open PySem PySem.Spec PyProof.Rows

/-! ### the parts of a slice -/
abbrev TO := St → Hp → (Option Int → Hp → Prop) → Prop
/-- a slice's part (left out, or an int) -/
def PO (X : Cx) (e : Option Expr) (t : TO) : Prop :=
  ∀ (pins : List (Addr × Obj)) (s : Shared) (σ : St) (H : Hp) (Q : Option Int → Hp → Prop), Inv X pins σ H s → t σ H Q →
    wpAny (model X.prog X.w) X.A (evalPart e X.env) (fun u s' => ∃ o H', Inv X pins σ H' s' ∧ IsPart u o ∧ Q o H') X.xe s
def tNoPart : TO := fun _ H Q => Q none H
def tPart (t : TE) : TO := fun σ H Q => t σ H fun x H1 => ∃ i, x = .int i ∧ Q (some i) H1

theorem intsAre_of {ns : List Int} : ∀ {us : List Value}, Vals (ns.map V.int) us → IntsAre us ns := by
  induction ns with
  | nil => intro us r; rw [List.map_nil] at r; cases r; exact .nil
  | cons n ns ih =>
    intro us r
    rw [List.map_cons] at r
    cases r with
    | cons r1 r2 =>
      obtain ⟨t, e⟩ := r1
      subst e
      exact .cons n t (ih r2)

section
variable {X : Cx} {e : Expr} {te : TE} {lo hi : Option Expr} {tl th : TO} {pos p2 : Pos}

theorem po_none : PO X none tNoPart := by
  intro pins s σ H Q I h
  rw [evalPart_none]
  exact wpAny_pure ⟨none, H, I, .none, h⟩
theorem po_some (h : PE X e te) : PO X (some e) (tPart te) := by
  intro pins s σ H Q I hw
  rw [evalPart_some]
  refine thn (h pins s σ H _ I hw) fun u s1 ⟨x, H1, I1, r1, q1⟩ => ?_
  obtain ⟨i, rfl, q⟩ := q1
  obtain ⟨t, rfl⟩ := r1
  exact ⟨some i, H1, I1, .int i t, q⟩

/-- what a slice of a value is, by values: the slice object stands at sl -/
def SlR (X : Cx) (r : V → Option Int → Option Int → Hp → VK → Prop) : Prop :=
  ∀ (pins : List (Addr × Obj)) (s : Shared) (σ : St) (H : Hp) (x : V) (v vl vu : Value) (lo hi : Option Int) (sl : Addr) (Q : VK), Inv X pins σ H s → RelV x v → s.heap.IsSliceOf sl vl vu .none → IsPart vl lo → IsPart vu hi → r x lo hi H Q →
    ∃ T id, typeLookup (.type T) "__getitem__" = pure (some (.builtin id)) ∧ s.TypeIs v T ∧ wpAny (model X.prog X.w) X.A (getItem v (.ref sl)) (EP X pins σ Q) X.xe s
def tSl (r : V → Option Int → Option Int → Hp → VK → Prop) (te : TE) (tl th : TO) : TE := fun σ H Q => te σ H fun x H1 => tl σ H1 fun l H2 => th σ H2 fun u H3 => r x l u H3 Q
/-- a[lo:hi], any a -/
theorem pe_slice {r : V → Option Int → Option Int → Hp → VK → Prop} (hr : SlR X r) (he : PE X e te) (hl : PO X lo tl) (hu : PO X hi th) : PE X (.Subscript e (.Slice lo hi none p2) pos) (tSl r te tl th) := by
  intro pins s σ H Q I h
  refine Subscript_ (thn (he pins s σ H _ I h) fun v s1 ⟨x, H1, I1, r1, q1⟩ => ?_)
  refine wpAny_Slice (thn (hl pins s1 σ H1 _ I1 q1) fun vl s2 ⟨l, H2, I2, pl, q2⟩ => thn (hu pins s2 σ H2 _ I2 q2) fun vu s3 ⟨u, H3, I3, pu, q3⟩ => ?_)
  rw [evalPart_none]
  refine wpAny_pure ?_
  have I4 : Inv X pins σ H3 { s3 with heap := s3.heap.push { cls := .type "slice", data := .fields #[vl, vu, .none] } } := I3.kept (t' := s3.toks) fun b ob q => Heap.get?_push_of_some _ q
  obtain ⟨T, id, hT, ht, hg⟩ := hr pins { s3 with heap := s3.heap.push { cls := .type "slice", data := .fields #[vl, vu, .none] } } σ H3 x v vl vu l u s3.heap.objs.size Q I4 r1 (Heap.IsSliceOf.new ..) pl pu q3
  show wpAny (model X.prog X.w) X.A (subscriptTail e (.Slice lo hi none p2) v (.ref s3.heap.objs.size)) (EP X pins σ Q) X.xe { s3 with heap := s3.heap.push { cls := .type "slice", data := .fields #[vl, vu, .none] } }
  exact tail_any (ops := [.ref s3.heap.objs.size, v]) ht hT hg (by with_unfolding_all rfl)

/-- the items of xs[lo:hi] -/
def cutV (xs : List V) (lo hi : Option Int) : List V := (xs.drop (HT.sIx xs.length 0 lo)).take (HT.sIx xs.length xs.length hi - HT.sIx xs.length 0 lo)
theorem cutV_length (xs : List V) (lo hi : Option Int) : (cutV xs lo hi).length ≤ xs.length := by
  unfold cutV
  rw [List.length_take, List.length_drop]
  omega
/-- t[lo:hi], not the whole of it (the whole would be t itself) -/
def rSlT (K : PySem.W.Frag) : V → Option Int → Option Int → Hp → VK → Prop := fun x lo hi H Q => ∃ a xs, x = .ref a ∧ SqT K H a xs ∧
  ¬ (HT.sIx xs.length 0 lo = 0 ∧ HT.sIx xs.length xs.length hi = xs.length) ∧ ∀ p, H p = none → Q (.ref p) (upd H p (.tup (cutV xs lo hi)))
theorem sl_tup : SlR X (rSlT X.K) := by
  intro pins s σ H x v vl vu lo hi sl Q I rx hs pl pu h
  obtain ⟨a, xs, rfl, hx, hw, q⟩ := h
  cases rx
  obtain ⟨its, r, ht, hz⟩ := I.tuple hx
  have hlen : its.toArray.size = xs.length := by rw [List.size_toArray]; exact r.length.symm
  refine ⟨"tuple", _, PyProof.Rows.slot_tuple_getitem.lookup, ht.typeIs, ?_⟩
  refine HT.getItem_tuple_cut ht hs pl pu (by rw [hlen]; exact hw) ?_ (by rw [hlen]; exact hz)
  rw [hlen]
  refine ⟨.ref s.heap.objs.size, _, I.laid (t' := s.toks) (o := .tup (cutV xs lo hi)) (fun b ob q => Heap.get?_push_of_some _ q) (Nat.le_refl _) ?_, rfl, q _ (I.hok.fresh (Nat.le_refl _))⟩
  exact ⟨Nat.le_trans (cutV_length xs lo hi) hz, _, (r.drop (HT.sIx xs.length 0 lo)).take (HT.sIx xs.length xs.length hi - HT.sIx xs.length 0 lo), IsTup.new _ _, _, Heap.get?_push_size _ rfl, rfl⟩

/-! ### t < u, t + u -/
def rLtT (K : PySem.W.Frag) : R2 := fun x y H Q => ∃ a b ns ms, x = .ref a ∧ y = .ref b ∧ SqT K H a (ns.map V.int) ∧ SqT K H b (ms.map V.int) ∧ Q (.bl (HT.lexLt ns ms)) H
/-- t + u, t not empty: u empty gives t itself -/
def rCatT (K : PySem.W.Frag) : R2 := fun x y H Q => ∃ a b xs ys, x = .ref a ∧ y = .ref b ∧ SqT K H a xs ∧ SqT K H b ys ∧ xs ≠ [] ∧ xs.length + ys.length ≤ sizeLine ∧
  (ys = [] → Q (.ref a) H) ∧ (ys ≠ [] → ∀ p, H p = none → Q (.ref p) (upd H p (.tup (xs ++ ys))))
theorem Vals.nil_iff {xs : List V} {us : List Value} (r : Vals xs us) : us = [] ↔ xs = [] := by
  cases r with
  | nil => simp
  | cons _ _ => simp
theorem op_catT : OpR X (binaryOp .Add) (rCatT X.K) := by
  intro pins s σ H x y v u Q I rx ry h
  obtain ⟨a, b, xs, ys, rfl, rfl, ha, hb, hx, hz, q1, q2⟩ := h
  cases rx
  cases ry
  obtain ⟨its, r1, p1, _⟩ := I.tuple ha
  obtain ⟨its2, r2, p2, _⟩ := I.tuple hb
  refine HT.cat_tup p1 p2 (fun z => hx (r1.nil_iff.mp z)) (fun z => ⟨.ref a, H, I, rfl, q1 (r2.nil_iff.mp z)⟩) (fun z => ?_) (by rw [← r1.length, ← r2.length]; exact hz)
  refine ⟨.ref s.heap.objs.size, _, I.laid (t' := s.toks) (o := .tup (xs ++ ys)) (fun b ob q => Heap.get?_push_of_some _ q) (Nat.le_refl _) ?_, rfl, q2 (fun w => z (r2.nil_iff.mpr w)) _ (I.hok.fresh (Nat.le_refl _))⟩
  exact ⟨by rw [List.length_append]; exact hz, _, r1.append r2, IsTup.new _ _, _, Heap.get?_push_size _ rfl, rfl⟩
end
end L2

namespace L2
open PySem PySem.Spec PyProof.Rows

/-! ### places -/
/-- the place that an index of any sign means -/
def ixN (n : Nat) (i : Int) : Option Nat := if 0 ≤ i then (if i < n then some i.toNat else none) else if -(n : Int) ≤ i then some (i + n).toNat else none
def atI {α : Type} (xs : List α) (i : Int) : Option α := (ixN xs.length i).bind fun j => xs[j]?
theorem ixN_seq {n : Nat} {i : Int} {j : Nat} (h : ixN n i = some j) : seqIndex? i n = some j ∧ j < n ∧ -(n : Int) ≤ i ∧ i < n := by
  unfold ixN at h
  by_cases h0 : 0 ≤ i
  · rw [if_pos h0] at h
    by_cases h1 : i < n
    · rw [if_pos h1] at h
      have e : i.toNat = j := Option.some.inj h
      exact ⟨by rw [seqIndex_of h0 h1, e], by omega, by omega, h1⟩
    · rw [if_neg h1] at h; cases h
  · rw [if_neg h0] at h
    by_cases h1 : -(n : Int) ≤ i
    · rw [if_pos h1] at h
      have e : (i + n).toNat = j := Option.some.inj h
      exact ⟨by rw [seqIndex_neg (by omega) h1, e], by omega, h1, by omega⟩
    · rw [if_neg h1] at h; cases h
theorem atI_get {α : Type} {xs : List α} {i : Int} {v : α} (h : atI xs i = some v) : ∃ j, seqIndex? i xs.length = some j ∧ xs[j]? = some v ∧ j < xs.length ∧ -(xs.length : Int) ≤ i ∧ i < xs.length := by
  unfold atI at h
  cases e : ixN xs.length i with
  | none => rw [e] at h; cases h
  | some j =>
    rw [e] at h
    obtain ⟨h1, h2, h3, h4⟩ := ixN_seq e
    exact ⟨j, h1, h, h2, h3, h4⟩
theorem atI_nat {α : Type} {xs : List α} {j : Nat} {v : α} (h : xs[j]? = some v) : atI xs (j : Int) = some v := by
  have hj : j < xs.length := (List.getElem?_eq_some_iff.mp h).1
  have e : ixN xs.length (j : Int) = some j := by
    unfold ixN
    rw [if_pos (by omega), if_pos (by omega)]; simp
  unfold atI; rw [e]; exact h
/-! ### what may be subscripted -/
/-- what stands as an index of a plain subscript -/
def PlainIx (b : Expr) : Prop := ∀ o i, subscripted b false o i = operate [o, i] (getItem o i)
/-- a subscript by values -/
def IxR (X : Cx) (r : R2) : Prop :=
  ∀ (value slice : Expr) (pins : List (Addr × Obj)) (s : Shared) (σ : St) (H : Hp) (x y : V) (v u : Value) (Q : VK), Inv X pins σ H s → RelV x v → RelV y u → r x y H Q →
    subscripted slice false v u = operate [v, u] (getItem v u) → wpAny (model X.prog X.w) X.A (subscriptTail value slice v u) (EP X pins σ Q) X.xe s
/-- a call of a builtin's method by values: the receiver, the arguments -/
def MtR (X : Cx) (id : String) (r : V → List V → Hp → VK → Prop) : Prop :=
  ∀ (pins : List (Addr × Obj)) (s : Shared) (σ : St) (H : Hp) (x : V) (xs : List V) (v : Value) (us : List Value) (Q : VK), Inv X pins σ H s → RelV x v → Vals xs us → r x xs H Q →
    wpAny (model X.prog X.w) X.A (call (.builtin id) (v :: us)) (EP X pins σ Q) X.xe s
section
variable {X : Cx} {a b : Expr} {ta tb : TE} {pos : Pos}
/-- a[b] -/
theorem pe_ix {r : R2} (hr : IxR X r) (ha : PE X a ta) (hb : PE X b tb) (hs : PlainIx b) : PE X (.Subscript a b pos) (tOp r ta tb) := by
  intro pins s σ H Q I h
  exact Subscript_ (binT ha hb I h fun v u s2 x y H2 I2 rx ry q => hr a b pins s2 σ H2 x y v u Q I2 rx ry q (hs _ _))

def rIxL (K : PySem.W.Frag) : R2 := fun x y H Q => ∃ p xs i v, x = .ref p ∧ y = .int i ∧ SqL K H p xs ∧ atI xs i = some v ∧ Q v H
def rIxT (K : PySem.W.Frag) : R2 := fun x y H Q => ∃ p xs i v, x = .ref p ∧ y = .int i ∧ SqT K H p xs ∧ atI xs i = some v ∧ Q v H
def rIxS : R2 := fun x y H Q => ∃ z i c, x = .str z ∧ y = .int i ∧ z.length ≤ sizeLine ∧ atI z.cps.toList i = some c ∧ Q (.str ⟨#[c]⟩) H
theorem ix_list : IxR X (rIxL X.K) := by
  intro value slice pins s σ H x y v u Q I rx ry h hs
  obtain ⟨p, xs, i, z, rfl, rfl, hq, he, q⟩ := h
  cases rx
  obtain ⟨t, rfl⟩ := ry
  obtain ⟨its, r, pl, hz⟩ := I.list hq
  obtain ⟨j, h1, h2, h3, h4, h5⟩ := atI_get he
  obtain ⟨w, ew, rw'⟩ := r.get h2
  have hl := r.length
  have hn := line63
  have fin : EP X pins σ Q w s := ⟨z, H, I, rw', q⟩
  by_cases h0 : 0 ≤ i
  · have hj : i.toNat = j := by
      rw [seqIndex_of h0 h5] at h1
      exact Option.some.inj h1
    exact item_listR pl.isList h0 (by omega) (by rw [hj]; simpa using ew) fin hs
  · have hj : (i + (its.toArray.size : Int)).toNat = j := by
      rw [seqIndex_neg (by omega) h4] at h1
      rw [List.size_toArray, ← hl]
      exact Option.some.inj h1
    exact subscriptTail_builtinR (x := w) pl.isList.typeIs slot_list_getitem.lookup
      (wpAny_getItem_list_neg (Q := fun r s' => r = w ∧ EP X pins σ Q r s') pl.isList (by omega) (by rw [List.size_toArray] <;> omega) (by omega) (by rw [hj]; simpa using ew) ⟨rfl, fin⟩) hs
theorem ix_tup : IxR X (rIxT X.K) := by
  intro value slice pins s σ H x y v u Q I rx ry h hs
  obtain ⟨p, xs, i, z, rfl, rfl, hq, he, q⟩ := h
  cases rx
  obtain ⟨t, rfl⟩ := ry
  obtain ⟨its, r, pl, hz⟩ := I.tuple hq
  obtain ⟨j, h1, h2, h3, h4, h5⟩ := atI_get he
  obtain ⟨w, ew, rw'⟩ := r.get h2
  have hl := r.length
  have hn := line63
  have fin : EP X pins σ Q w s := ⟨z, H, I, rw', q⟩
  exact subscriptTail_builtinR (x := w) pl.typeIs slot_tuple_getitem.lookup
    (getItem_tuple (j := j) (Q := fun r s' => r = w ∧ EP X pins σ Q r s') pl (by omega) (by omega) (by rw [List.size_toArray, ← hl]; exact h1) (by simpa using ew) ⟨rfl, fin⟩) hs
/-- list, tuple or str -/
def rIx (K : PySem.W.Frag) : R2 := fun x y H Q => rIxL K x y H Q ∨ rIxT K x y H Q ∨ rIxS x y H Q
/-! ### xs[i] = v, any sign -/
/-- the list's object behind a store -/
theorem mapSeq_set (its : List Value) (n j : Nat) (u : Value) : Obj.mapSeq (·.setIfInBounds j u) { cls := .type "list", data := .seq its.toArray n } = { cls := .type "list", data := .seq (its.set j u).toArray n } := by
  simp [Obj.mapSeq]
theorem Inv.lst {pins : List (Addr × Obj)} {σ : St} {H : Hp} {s : Shared} {p : Addr} {xs : List V} (I : Inv X pins σ H s) (h : H p = some (.lst xs)) :
    ∃ (its : List Value) (n : Nat), Vals xs its ∧ s.heap.get? p = some { cls := .type "list", data := .seq its.toArray n } ∧ xs.length ≤ sizeLine := by
  obtain ⟨z, its, n, r, e⟩ := I.hok p _ h
  exact ⟨its, n, r, e, z⟩
/-- the list at p is written by an update of its object -/
theorem Inv.lstUpd {pins : List (Addr × Obj)} {σ : St} {H : Hp} {s : Shared} {p : Addr} {xs ys : List V} {its its' : List Value} {n n' : Nat} {f : Obj → Obj} (I : Inv X pins σ H s) (h : H p = some (.lst xs))
    (ho : s.heap.get? p = some { cls := .type "list", data := .seq its.toArray n }) (hf : f { cls := .type "list", data := .seq its.toArray n } = { cls := .type "list", data := .seq its'.toArray n' }) (r : Vals ys its') (hz : ys.length ≤ sizeLine) (t : Nat) :
    Inv X pins σ (upd H p (.lst ys)) { s with heap := s.heap.update p f, toks := t } := by
  have e : (s.heap.update p f).get? p = some { cls := .type "list", data := .seq its'.toArray n' } := by
    rw [Heap.get?_update_self f ho (by rw [hf] <;> rfl), hf]
  refine I.write (x := p) (e := p) (by rw [h]; trivial) (.inl rfl) (fun b u hb q => (Heap.get?_update_other _ _ (Ne.symm hb)).trans q) ⟨_, e⟩ ?_
  exact ⟨hz, its', n', r, e⟩
def rSetL : V → V → V → Hp → (Hp → Prop) → Prop := fun o i v H Q => ∃ p xs k j, o = .ref p ∧ i = .int k ∧ H p = some (.lst xs) ∧ ixN xs.length k = some j ∧ Q (upd H p (.lst (xs.set j v)))
theorem set_list : PSet X rSetL := by
  intro pins s σ H o i v ov iv u Q I ro ri rv h
  obtain ⟨p, xs, k, j, rfl, rfl, hp, hj, q⟩ := h
  cases ro
  obtain ⟨t, rfl⟩ := ri
  obtain ⟨its, n, r, ho, hz⟩ := I.lst hp
  obtain ⟨h1, h2, h3, h4⟩ := ixN_seq hj
  have hl := r.length
  have hn := line63
  have I' : Inv X pins σ (upd H p (.lst (xs.set j v))) { s with heap := s.heap.update p (Obj.mapSeq (·.setIfInBounds j u)) } :=
    I.lstUpd hp ho (mapSeq_set its n j u) (r.set rv j) (by rw [List.length_set]; exact hz) s.toks
  by_cases h0 : 0 ≤ k
  · have hk : k.toNat = j := by
      rw [seqIndex_of h0 h4] at h1
      exact Option.some.inj h1
    exact PySem.W.ki_setAt ho h0 (by omega) (by rw [List.size_toArray, ← hl]; exact h4) (by rw [hk]; exact ⟨_, I', q⟩)
  · have hk : (k + (its.toArray.size : Int)).toNat = j := by
      rw [seqIndex_neg (by omega) h3] at h1
      rw [List.size_toArray, ← hl]
      exact Option.some.inj h1
    exact PySem.W.ki_setBack ho (by omega) (by rw [List.size_toArray, ← hl]; exact h3) (by omega) (by rw [hk]; exact ⟨_, I', q⟩)

/-! ### slices -/
/-- xs[lo:hi] of a list: a new list -/
def rSlL (K : PySem.W.Frag) : V → Option Int → Option Int → Hp → VK → Prop := fun x lo hi H Q => ∃ a xs, x = .ref a ∧ SqL K H a xs ∧ ∀ p, H p = none → Q (.ref p) (upd H p (.lst (cutV xs lo hi)))
/-! ### in, not in: flat items -/
def flatV : V → Bool
  | .non => true
  | .bl _ => true
  | .int _ => true
  | .str _ => true
  | _ => false
/-- == of flat values -/
def eqV : V → V → Bool
  | .non, .non => true
  | .bl a, .bl b => a == b
  | .bl a, .int b => (if a then 1 else 0) == b
  | .int a, .bl b => a == (if b then 1 else 0)
  | .int a, .int b => a == b
  | .str a, .str b => a == b
  | _, _ => false
theorem eqAt_V {A : Around} {s : Shared} {y x : V} {u v : Value} (ry : RelV y u) (rx : RelV x v) (fy : flatV y = true) (fx : flatV x = true) : SeqAt.EqAt A s u v (eqV y x) := by
  cases y with
  | non =>
    cases ry
    cases x with
    | non => cases rx; exact SeqAt.EqAt.same _
    | bl b => cases rx; exact SeqAt.EqAt.none_bool b
    | int b => obtain ⟨t, rfl⟩ := rx; exact SeqAt.EqAt.none_int b t
    | str b => obtain ⟨t, rfl⟩ := rx; exact SeqAt.EqAt.none_str b t
    | _ => exact absurd (show false = true from fx) Bool.false_ne_true
  | bl a =>
    cases ry
    cases x with
    | non => cases rx; exact SeqAt.EqAt.bool_none a
    | bl b => cases rx; exact SeqAt.EqAt.bool_bool a b
    | int b => obtain ⟨t, rfl⟩ := rx; exact SeqAt.EqAt.bool_int a b t
    | str b => obtain ⟨t, rfl⟩ := rx; exact SeqAt.EqAt.bool_str a b t
    | _ => exact absurd (show false = true from fx) Bool.false_ne_true
  | int a =>
    obtain ⟨t', rfl⟩ := ry
    cases x with
    | non => cases rx; exact SeqAt.EqAt.int_none a t'
    | bl b => cases rx; exact SeqAt.EqAt.int_bool a t' b
    | int b => obtain ⟨t, rfl⟩ := rx; exact SeqAt.EqAt.int_int a t' b t
    | str b => obtain ⟨t, rfl⟩ := rx; exact SeqAt.EqAt.int_str a t' b t
    | _ => exact absurd (show false = true from fx) Bool.false_ne_true
  | str a =>
    obtain ⟨t', rfl⟩ := ry
    cases x with
    | non => cases rx; exact SeqAt.EqAt.str_none a t'
    | bl b => cases rx; exact SeqAt.EqAt.str_bool a t' b
    | int b => obtain ⟨t, rfl⟩ := rx; exact SeqAt.EqAt.str_int a t' b t
    | str b => obtain ⟨t, rfl⟩ := rx; exact SeqAt.EqAt.str_str a t' b t
    | _ => exact absurd (show false = true from fx) Bool.false_ne_true
  | _ => exact absurd (show false = true from fy) Bool.false_ne_true
/-- the items' answers, read off the values (a value's own answer does not lean on its token) -/
def eqU (x : V) (u : Value) : Bool := match u with
  | .none => eqV .non x
  | .bool b => eqV (.bl b) x
  | .int i _ => eqV (.int i) x
  | .str z _ => eqV (.str z) x
  | _ => false
theorem eqU_of {x y : V} {u : Value} (r : RelV y u) (f : flatV y = true) : eqU x u = eqV y x := by
  cases y with
  | non => cases r; rfl
  | bl b => cases r; rfl
  | int i => obtain ⟨t, rfl⟩ := r; rfl
  | str z => obtain ⟨t, rfl⟩ := r; rfl
  | _ => exact absurd (show false = true from f) Bool.false_ne_true
theorem any_eqU {x : V} : ∀ {xs : List V} {us : List Value}, Vals xs us → xs.all flatV = true → us.any (eqU x) = xs.any fun y => eqV y x
  | _, _, .nil, _ => rfl
  | y :: xs, u :: us, .cons r t, f => by
    rw [List.all_cons, Bool.and_eq_true] at f
    rw [List.any_cons, List.any_cons, eqU_of r f.1, any_eqU t f.2]
theorem mem_eqAt {A : Around} {s : Shared} {x : V} {v : Value} (rx : RelV x v) (fx : flatV x = true) : ∀ {xs : List V} {us : List Value}, Vals xs us → xs.all flatV = true → ∀ u ∈ us, SeqAt.EqAt A s u v (eqU x u)
  | _, _, .nil, _ => fun u hu => by cases hu
  | y :: xs, u :: us, .cons r t, f => fun u' hu => by
    rw [List.all_cons, Bool.and_eq_true] at f
    rcases List.mem_cons.mp hu with rfl | hu
    · rw [eqU_of r f.1]; exact eqAt_V r rx f.1 fx
    · exact mem_eqAt rx fx t f.2 u' hu
def inV (x : V) (xs : List V) : Bool := xs.any fun y => eqV y x
/-- x in a list or tuple of flat items -/
def rIn (K : PySem.W.Frag) (neg : Bool) : R2 := fun x y H Q => ∃ p xs, y = .ref p ∧ (SqL K H p xs ∨ SqT K H p xs) ∧ flatV x = true ∧ xs.all flatV = true ∧ Q (.bl (if neg then !inV x xs else inV x xs)) H
theorem op_in_seq : OpR X (compareOp .In) (rIn X.K false) := by
  intro pins s σ H x y v u Q I rx ry h
  obtain ⟨p, xs, rfl, hq, fx, fs, q⟩ := h
  cases ry
  rcases hq with hq | hq
  · obtain ⟨its, r, pl, hz⟩ := I.list hq
    refine SeqAt.in_listAt (eqU x) pl.isList (fun w hw => mem_eqAt rx fx r fs w (by simpa using hw)) ⟨.bl _, H, I, rfl, ?_⟩
    rw [show its.toArray.any (eqU x) = its.any (eqU x) by simp, any_eqU r fs]
    exact q
  · obtain ⟨its, r, pl, hz⟩ := I.tuple hq
    refine SeqAt.in_tupleAt (eqU x) pl (fun w hw => mem_eqAt rx fx r fs w (by simpa using hw)) ⟨.bl _, H, I, rfl, ?_⟩
    rw [show its.toArray.any (eqU x) = its.any (eqU x) by simp, any_eqU r fs]
    exact q
/-! ### len, list(x), tuple(x) of any list or tuple that is read -/
theorem call_len_seq : CallR X (.builtin "len") (fun xs H Q => ∃ p ys, xs = [.ref p] ∧ (SqL X.K H p ys ∨ SqT X.K H p ys) ∧ Q (.int ys.length) H) := by
  intro pins s σ H xs us Q I r h
  obtain ⟨p, ys, rfl, hq, q⟩ := h
  obtain ⟨u, rfl, rx⟩ := vals1 r
  cases rx
  have hn := line63
  rcases hq with hq | hq
  · obtain ⟨its, r', pl, hz⟩ := I.list hq
    have hlen := r'.length
    exact Calls.call_len_list pl.isList (by simp only [List.size_toArray] <;> omega) ⟨.int ys.length, H, I.tok _, ⟨s.toks + 1, by rw [List.size_toArray, hlen]⟩, q⟩
  · obtain ⟨its, r', pl, hz⟩ := I.tuple hq
    have hlen := r'.length
    exact len_tuple pl (by simp only [List.size_toArray] <;> omega) ⟨.int ys.length, H, I.tok _, ⟨s.toks + 1, by rw [List.size_toArray, hlen]⟩, q⟩
theorem call_list_of : CallR X (.type "list") (fun xs H Q => ∃ p ys, xs = [.ref p] ∧ (SqL X.K H p ys ∨ SqT X.K H p ys) ∧ ∀ l, H l = none → Q (.ref l) (upd H l (.lst ys))) := by
  intro pins s σ H xs us Q I r h
  obtain ⟨p, ys, rfl, hq, q⟩ := h
  obtain ⟨u, rfl, rx⟩ := vals1 r
  cases rx
  have fin : ∀ (its : List Value), Vals ys its → ys.length ≤ sizeLine → ∀ (h' : Heap) (c' : Nat), (∀ b o', s.heap.get? b = some o' → h'.get? b = some o') →
      h'.get? s.heap.objs.size = some { cls := .type "list", dict := none, data := .seq its.toArray c', slots := #[] } → EP X pins σ Q (.ref s.heap.objs.size) { s with heap := h' } := fun its r' hz h' c' kp e =>
    ⟨.ref s.heap.objs.size, _, I.laid (t' := s.toks) kp (Nat.le_refl _) (show ObjOk X.prog X.w _ h' _ (.lst ys) from ⟨hz, its, c', r', e⟩), rfl, q _ (I.hok.fresh (Nat.le_refl _))⟩
  rcases hq with hq | hq
  · obtain ⟨its, r', pl, hz⟩ := I.list hq
    have hlen := r'.length
    obtain ⟨o, ho, hc, n, hd⟩ := pl.isList
    exact call_list_seq p (.inl rfl) ho hc hd (fun h' c' kp e => fin its r' hz h' c' kp e) (by simp only [List.size_toArray] <;> omega)
  · obtain ⟨its, r', pl, hz⟩ := I.tuple hq
    have hlen := r'.length
    obtain ⟨o, ho, hc, n, hd⟩ := pl
    exact call_list_seq p (.inr rfl) ho hc hd (fun h' c' kp e => fin its r' hz h' c' kp e) (by simp only [List.size_toArray] <;> omega)
theorem call_tuple_of : CallR X (.type "tuple") (fun xs H Q => ∃ p ys, xs = [.ref p] ∧ ((SqL X.K H p ys ∧ ∀ l, H l = none → Q (.ref l) (upd H l (.tup ys))) ∨ (SqT X.K H p ys ∧ Q (.ref p) H))) := by
  intro pins s σ H xs us Q I r h
  obtain ⟨p, ys, rfl, h⟩ := h
  obtain ⟨u, rfl, rx⟩ := vals1 r
  cases rx
  rcases h with ⟨hq, q⟩ | ⟨hq, q⟩
  · obtain ⟨its, r', pl, hz⟩ := I.list hq
    have hlen := r'.length
    refine call_tuple_list pl.isList (fun h' kp => ?_) (by simp only [List.size_toArray] <;> omega)
    have I1 : Inv X pins σ H { s with heap := h' } := I.kept (t' := s.toks) kp
    have I2 : Inv X pins σ (upd H h'.objs.size (.tup ys)) { s with heap := h'.push { cls := .type "tuple", data := .seq its.toArray } } :=
      I1.laid (t' := s.toks) (fun b o e => Heap.get?_push_of_some _ e) (Nat.le_refl _) (show ObjOk X.prog X.w _ _ _ (.tup ys) from ⟨hz, its, r', IsTup.new _ _, _, Heap.get?_push_size _ rfl, rfl⟩)
    exact ⟨.ref h'.objs.size, _, I2, rfl, q _ (I1.hok.fresh (Nat.le_refl _))⟩
  · obtain ⟨its, r', pl, hz⟩ := I.tuple hq
    exact call_tuple_same pl ⟨.ref p, H, I, rfl, q⟩

/-! ### the call of a builtin's method: o.m(..) -/
/-- the value is of that builtin type -/
def tyV (K : PySem.W.Frag) (T : String) (x : V) (H : Hp) : Prop := match x with
  | .str _ => T = "str"
  | .int _ => T = "int"
  | .ref p => (T = "list" ∧ ∃ xs, SqL K H p xs) ∨ (T = "tuple" ∧ ((∃ o, K.lookup p = some o ∧ o.cls = .type "tuple" ∧ o.dict = none) ∨ ∃ xs, H p = some (.tup xs))) ∨
      (T = "dict" ∧ ((∃ kvs, H p = some (.dK kvs)) ∨ ∃ kvs, H p = some (.dT kvs))) ∨ (T = "set" ∧ ∃ S n, H p = some (.set S n))
  | _ => False
theorem tyV_is {pins : List (Addr × Obj)} {σ : St} {H : Hp} {s : Shared} {T : String} {x : V} {v : Value} (I : Inv X pins σ H s) (r : RelV x v) (ty : tyV X.K T x H) :
    s.TypeIs v T ∧ ∀ a, v = .ref a → ∃ ob, s.heap.get? a = some ob ∧ ob.dict = none := by
  cases x with
  | str z =>
    obtain ⟨t, rfl⟩ := r
    cases (show T = "str" from ty)
    exact ⟨typeIs_str s z t, fun _ e => nomatch e⟩
  | int i =>
    obtain ⟨t, rfl⟩ := r
    cases (show T = "int" from ty)
    exact ⟨typeIs_int s i t, fun _ e => nomatch e⟩
  | ref p =>
    cases r
    rcases ty with ⟨rfl, xs, hq⟩ | ⟨rfl, ⟨o, hk, hc, hd⟩ | ⟨xs, hx⟩⟩ | ⟨rfl, hk⟩ | ⟨rfl, S, n, hk⟩
    · obtain ⟨its, _, pl, _⟩ := I.list hq
      refine ⟨pl.isList.typeIs, fun a e => ?_⟩
      cases e
      obtain ⟨o, n, e, c, hd, _⟩ := pl
      exact ⟨o, e, hd⟩
    · refine ⟨⟨o, I.kIn p o hk, hc⟩, fun a e => ?_⟩
      cases e
      exact ⟨o, I.kIn _ o hk, hd⟩
    · obtain ⟨_, _, _, ⟨o, e, c, _⟩, o2, e2, hd⟩ := (show ObjOk X.prog X.w H s.heap p (.tup xs) from I.hok p _ hx)
      refine ⟨⟨o, e, c⟩, fun a e3 => ?_⟩
      cases e3
      exact ⟨o2, e2, hd⟩
    · have z : ∃ o, s.heap.get? p = some o ∧ o.ExactDict := by
        rcases hk with ⟨kvs, hk⟩ | ⟨kvs, hk⟩
        · obtain ⟨_, _, _, _, o, _, _, e, ex, _⟩ := I.hok p _ hk
          exact ⟨o, e, ex⟩
        · obtain ⟨_, _, _, _, o, _, _, e, ex, _⟩ := I.hok p _ hk
          exact ⟨o, e, ex⟩
      obtain ⟨o, e, ex⟩ := z
      refine ⟨⟨o, e, ex.1⟩, fun a e2 => ?_⟩
      cases e2
      exact ⟨o, e, ex.2.1⟩
    · obtain ⟨o, _, _, _, e, ex, _⟩ := I.hok p _ hk
      refine ⟨⟨o, e, ex.1⟩, fun a e2 => ?_⟩
      cases e2
      exact ⟨o, e, ex.2.1⟩
  | _ => exact False.elim ty
def tBM0 (K : PySem.W.Frag) (T : String) (r : V → List V → Hp → VK → Prop) (to : TE) : TE := fun σ H Q => to σ H fun x H1 => tyV K T x H1 ∧ r x [] H1 Q
def tBM (K : PySem.W.Frag) (T : String) (r : V → List V → Hp → VK → Prop) (to : TE) (t : TA) : TE := fun σ H Q => to σ H fun x H1 => tyV K T x H1 ∧ t σ H1 fun xs H2 => r x xs H2 Q
variable {o e : Expr} {es : List Expr} {to : TE} {t : TA} {name : Str} {apos cpos : Pos} {T id : String} {r : V → List V → Hp → VK → Prop}
theorem pe_bm (pa : PlainAttrs T) (slot : Slot T name id) (hty : typeOf (.builtin id) = pure (.type "method_descriptor")) (hm : MtR X id r) (ho : PE X o to) (ha : PA X (e :: es) t)
    (hbase : attributeBase o name X.env (eval o X.env) = eval o X.env := by rfl)
    (hfew : ((backTo cpos (starEach (e :: es) X.env)).all (fun x => !x.1) && (backToKw cpos (keywordEach [] X.env)).all (fun x => x.1.isSome)
      && decide ((e :: es).length + ([] : List Keyword).length + (if ([] : List Keyword).isEmpty then 0 else 1) < 30)) = true := by rfl)
    (hline : (apos.endLine == cpos.line) = true := by rfl) (hs : starEach (e :: es) X.env = (false, eval e X.env) :: starEach es X.env := by rfl) (hplain : (backTo cpos (starEach es X.env)).any (·.1) = false := by rfl) :
    PE X (.Call (.Attribute o name apos) (e :: es) [] cpos) (tBM X.K T r to t) := by
  intro pins s σ H Q I h
  refine wpAny_Call_method_late hbase hfew hline rfl (thn (ho pins s σ H _ I h) fun v s1 ⟨x, H1, I1, r1, ty, q1⟩ => ?_)
  obtain ⟨h1, h2⟩ := tyV_is I1 r1 ty
  refine ⟨T, id, pa, slot, hty, h1, h2, ?_⟩
  have hA := ha cpos pins s1 σ H1 _ I1 q1
  rw [hs] at hA ⊢
  refine Calls.callWith_builtin (by show (false || (backTo cpos (starEach es X.env)).any (·.1)) = false; rw [hplain] <;> rfl) (Calls.evalArgs_plain ?_)
  exact thn hA fun us s2 ⟨vs, H2, I2, r2, q2⟩ => hm pins s2 σ H2 x vs v us Q I2 r1 r2 q2
/- xs.append(e), list.index on a module's tuple .. are MtR facts of 06m -/
end
end L2

namespace L2
open PySem PySem.Spec PyProof.Rows

def MtM (X : Cx) (id : String) (r : V → List V → Hp → VK → Prop) : Prop :=
  ∀ (pins : List (Addr × Obj)) (s : Shared) (σ : St) (H : Hp) (x : V) (xs : List V) (v : Value) (us : List Value) (Q : VK), Inv X pins σ H s → RelV x v → Vals xs us → r x xs H Q →
    wpAny (model X.prog X.w) X.A (call (.builtin id) (v :: us)) (EP X pins σ Q) X.xe s

/-! ### lists of values -/
theorem Vals.one : ∀ {x : V} {us : List Value}, Vals [x] us → ∃ u, us = [u] ∧ RelV x u
  | _, _, .cons r .nil => ⟨_, rfl, r⟩
theorem Vals.eraseIdx : ∀ {xs : List V} {us : List Value} (i : Nat), Vals xs us → Vals (xs.eraseIdx i) (us.eraseIdx i)
  | _, _, _, .nil => .nil
  | _, _, 0, .cons _ t => t
  | _, _, i + 1, .cons r t => .cons r (Vals.eraseIdx i t)
theorem Vals.rep {xs : List V} {us : List Value} (h : Vals xs us) : ∀ k : Nat, Vals (List.replicate k xs).flatten (List.replicate k us).flatten
  | 0 => .nil
  | k + 1 => by
    rw [List.replicate_succ, List.replicate_succ, List.flatten_cons, List.flatten_cons]
    exact Vals.append h (Vals.rep h k)
theorem len_erase {α : Type} : ∀ (l : List α) (i : Nat), (l.eraseIdx i).length ≤ l.length
  | [], _ => Nat.le_refl _
  | _ :: _, 0 => Nat.le_succ _
  | _ :: r, i + 1 => Nat.succ_le_succ (len_erase r i)
theorem foldl_rep (its : List Value) : ∀ (k : Nat) (acc : List Value),
    List.foldl (fun x1 x2 => x1 ++ x2) acc.toArray (List.replicate k its.toArray) = (acc ++ (List.replicate k its).flatten).toArray
  | 0, acc => by simp
  | k + 1, acc => by
    have e : acc.toArray ++ its.toArray = (acc ++ its).toArray := by simp
    have e2 : (acc ++ its) ++ (List.replicate k its).flatten = acc ++ (List.replicate (k + 1) its).flatten := by
      rw [List.replicate_succ, List.flatten_cons, List.append_assoc]
    rw [← e2, ← foldl_rep its k (acc ++ its), ← e, List.replicate_succ, List.foldl_cons]

section
variable {X : Cx} {pins : List (Addr × Obj)} {σ : St} {H : Hp} {s : Shared} {l b : Addr} {xs ys zs : List V}

/-! ### the two steps: a tracked list is rewritten, a new list is laid -/
theorem Inv.lset {its its' : List Value} {n : Nat} {f : Array Value → Array Value} {t' : Nat} (I : Inv X pins σ H s) (hH : H l = some (.lst xs))
    (e : s.heap.get? l = some { cls := .type "list", data := .seq its.toArray n }) (hf : f its.toArray = its'.toArray) (hv : Vals ys its') (hz : ys.length ≤ sizeLine) :
    Inv X pins σ (upd H l (.lst ys)) { s with heap := s.heap.update l (Obj.mapSeq f), toks := t' } := by
  have q := PySem.IsL.update e f
  rw [hf] at q
  refine I.write (x := l) (e := l) (by rw [hH]; exact trivial) (.inl rfl) (fun b' u hb hu => (Heap.get?_update_other s.heap (Obj.mapSeq f) (Ne.symm hb)).trans hu) ⟨_, q⟩ ?_
  exact ⟨hz, its', _, hv, q⟩
theorem Inv.lnew {its : List Value} {t' : Nat} (I : Inv X pins σ H s) (hv : Vals ys its) (hz : ys.length ≤ sizeLine) :
    Inv X pins σ (upd H s.heap.objs.size (.lst ys)) { s with heap := s.heap.push { cls := .type "list", data := .seq its.toArray }, toks := t' } :=
  I.laid (fun _ _ q => Heap.get?_push_of_some _ q) (Nat.le_refl _) ⟨hz, its, 0, hv, Heap.get?_push_size _ rfl⟩
theorem Inv.fresh (I : Inv X pins σ H s) : H s.heap.objs.size = none := I.hok.fresh (Nat.le_refl _)
theorem Inv.lstM (I : Inv X pins σ H s) (hH : H l = some (.lst xs)) : xs.length ≤ sizeLine ∧ ∃ (its : List Value) (n : Nat), Vals xs its ∧ xs.length = its.length ∧ s.heap.get? l = some { cls := .type "list", data := .seq its.toArray n } := by
  obtain ⟨z, its, n, r, e⟩ := I.hok l _ hH
  exact ⟨z, its, n, r, r.length, e⟩

theorem notLongL {n : Nat} (h : n ≤ sizeLine) : Builtin.List.listTooLong n = false := by
  unfold Builtin.List.listTooLong
  exact decide_eq_false (by omega)
end

section
variable {X : Cx}

/-! ### methods -/
def rAppend : V → List V → Hp → VK → Prop := fun x vs H Q => ∃ l xs y, x = .ref l ∧ vs = [y] ∧ H l = some (.lst xs) ∧ xs.length < sizeLine ∧ Q .non (upd H l (.lst (xs ++ [y])))
theorem mt_append : MtM X "list.append" rAppend := by
  intro pins s σ H x vs v us Q I rx rv h
  obtain ⟨l, xs, y, rfl, rfl, hH, hz, q⟩ := h
  cases rx
  obtain ⟨u, rfl, ru⟩ := rv.one
  obtain ⟨z, its, n, r, hl, e⟩ := I.lstM hH
  refine call_meets F.slot_list_append ⟨_, e, rfl⟩ F.entry_list_append (F.args_list_append_2 _ _) (PySem.list_append l its.toArray n u (by rw [List.size_toArray]; omega)) ⟨e, ?_⟩
  refine ⟨.non, _, I.lset (its' := its ++ [u]) hH e (by simp) (r.append (.cons ru .nil)) ?_, rfl, q⟩
  rw [List.length_append, List.length_singleton]
  omega

def rExtend : V → List V → Hp → VK → Prop := fun x vs H Q => ∃ l b xs zs, x = .ref l ∧ vs = [.ref b] ∧ H l = some (.lst xs) ∧ H b = some (.lst zs) ∧ xs.length + zs.length ≤ sizeLine ∧ Q .non (upd H l (.lst (xs ++ zs)))
theorem mt_extend : MtM X "list.extend" rExtend := by
  intro pins s σ H x vs v us Q I rx rv h
  obtain ⟨l, b, xs, zs, rfl, rfl, hH, hB, hz, q⟩ := h
  cases rx
  obtain ⟨u, rfl, ru⟩ := rv.one
  cases ru
  obtain ⟨z, its, n, r, hl, e⟩ := I.lstM hH
  obtain ⟨z2, its2, n2, r2, hl2, e2⟩ := I.lstM hB
  have hsz : its.toArray.size + its2.toArray.size ≤ sizeLine := by rw [List.size_toArray, List.size_toArray]; omega
  have hlong : ¬ (!its.toArray.isEmpty && Builtin.List.listTooLong (its.toArray.size + its2.toArray.size)) = true := by
    rw [notLongL hsz, Bool.and_false]
    exact Bool.false_ne_true
  refine call_meets F.slot_list_extend ⟨_, e, rfl⟩ F.entry_list_extend (F.args_list_extend_2 _ _)
    (AutoSeq1.list_extend_list_list_0 l its.toArray n b its2.toArray n2 hlong (by rw [List.size_toArray]; omega) (by omega)) ⟨e, e2, ?_⟩
  refine ⟨.non, _, I.lset (its' := its ++ its2) hH e (by simp) (r.append r2) ?_, rfl, q⟩
  rw [List.length_append]
  omega

def rPop : V → List V → Hp → VK → Prop := fun x vs H Q => ∃ l xs y, x = .ref l ∧ vs = [] ∧ H l = some (.lst xs) ∧ xs[xs.length - 1]? = some y ∧ Q y (upd H l (.lst xs.dropLast))
def rPopAt : V → List V → Hp → VK → Prop := fun x vs H Q => ∃ l xs i k y, x = .ref l ∧ vs = [.int i] ∧ H l = some (.lst xs) ∧ -(2 ^ 63) ≤ i ∧ i < 2 ^ 63 ∧ seqIndex? i xs.length = some k ∧ xs[k]? = some y ∧ Q y (upd H l (.lst (xs.eraseIdx k)))
theorem mt_popAt : MtM X "list.pop" rPopAt := by
  intro pins s σ H x vs v us Q I rx rv h
  obtain ⟨l, xs, i, k, y, rfl, rfl, hH, h1, h2, hk, hy, q⟩ := h
  cases rx
  obtain ⟨u, rfl, ru⟩ := rv.one
  obtain ⟨t, rfl⟩ := ru
  obtain ⟨z, its, n, r, hl, e⟩ := I.lstM hH
  obtain ⟨w, hw, rw'⟩ := r.get hy
  refine call_meets F.slot_list_pop ⟨_, e, rfl⟩ F.entry_list_pop (F.args_list_pop_2 _ _)
    (MeetsSeq.list_pop_at l its.toArray n i t k w (fitsIndex_both h1 h2) (by rw [List.size_toArray, ← hl]; exact hk) (by rw [← Array.getElem?_toList]; exact hw) (by rw [List.size_toArray]; omega)) ⟨e, ?_⟩
  refine ⟨y, _, I.lset (its' := its.eraseIdx k) hH e ?_ (r.eraseIdx k) ?_, rw', q⟩
  · show its.toArray.eraseIdxIfInBounds k = (its.eraseIdx k).toArray
    rw [List.eraseIdxIfInBounds_toArray]
  · have := len_erase xs k
    omega

def rReverse : V → List V → Hp → VK → Prop := fun x vs H Q => ∃ l xs, x = .ref l ∧ vs = [] ∧ H l = some (.lst xs) ∧ Q .non (upd H l (.lst xs.reverse))
def rClear : V → List V → Hp → VK → Prop := fun x vs H Q => ∃ l xs, x = .ref l ∧ vs = [] ∧ H l = some (.lst xs) ∧ Q .non (upd H l (.lst []))
/-! ### list + list, list += list, list * int -/
def rCat : R2 := fun x y H Q => ∃ l b xs zs, x = .ref l ∧ y = .ref b ∧ H l = some (.lst xs) ∧ H b = some (.lst zs) ∧ xs.length + zs.length ≤ sizeLine ∧ ∀ p, H p = none → Q (.ref p) (upd H p (.lst (xs ++ zs)))
theorem op_cat : OpR X (binaryOp .Add) rCat := by
  intro pins s σ H x y v u Q I rx ry h
  obtain ⟨l, b, xs, zs, rfl, rfl, hH, hB, hz, q⟩ := h
  cases rx
  cases ry
  obtain ⟨z, its, n, r, hl, e⟩ := I.lstM hH
  obtain ⟨z2, its2, n2, r2, hl2, e2⟩ := I.lstM hB
  refine PySem.P.add_list e e2 ?_ (by rw [List.size_toArray, List.size_toArray]; omega)
  have ea : its.toArray ++ its2.toArray = (its ++ its2).toArray := by simp
  rw [ea]
  exact ⟨.ref _, _, I.lnew (t' := s.toks) (r.append r2) (by rw [List.length_append]; omega), rfl, q _ I.fresh⟩
/-- a list times an int (a negative one is nothing) -/
def rRep : R2 := fun x y H Q => ∃ l k xs, x = .ref l ∧ y = .int k ∧ H l = some (.lst xs) ∧ -(2 ^ 63) ≤ k ∧ k < 2 ^ 63 ∧ xs.length * k.toNat ≤ sizeLine ∧
  ∀ p, H p = none → Q (.ref p) (upd H p (.lst (List.replicate k.toNat xs).flatten))
theorem len_rep {α : Type} (xs : List α) (k : Nat) : (List.replicate k xs).flatten.length = k * xs.length := by
  induction k with
  | zero => simp
  | succ k ih => rw [List.replicate_succ, List.flatten_cons, List.length_append, ih, Nat.succ_mul, Nat.add_comm]
theorem op_rep : OpR X (binaryOp .Mult) rRep := by
  intro pins s σ H x y v u Q I rx ry h
  obtain ⟨l, k, xs, rfl, rfl, hH, h1, h2, hz, q⟩ := h
  cases rx
  obtain ⟨t, rfl⟩ := ry
  obtain ⟨z, its, n, r, hl, e⟩ := I.lstM hH
  have hlen : its.toArray.size * k.toNat ≤ sizeLine := by rw [List.size_toArray, ← hl]; exact hz
  have hcap : ¬ its.toArray.size * k.toNat > (2 ^ 63 - 1) / 8 := by
    have : (sizeLine : Nat) ≤ (2 ^ 63 - 1) / 8 := by decide
    omega
  have hfit : ¬ (!Builtin.List.listFitsIndex k) = true := by
    rw [fitsIndex_both h1 h2]
    exact Bool.false_ne_true
  have hlong : ¬ Builtin.List.listTooLong (its.toArray.size * k.toNat) = true := by
    rw [notLongL hlen]
    exact Bool.false_ne_true
  have hnew : List.foldl (fun x1 x2 => x1 ++ x2) #[] (List.replicate (if its.toArray.isEmpty = true then 0 else k.toNat) its.toArray) = (List.replicate k.toNat its).flatten.toArray := by
    have f0 : ∀ m : Nat, List.foldl (fun x1 x2 => x1 ++ x2) #[] (List.replicate m its.toArray) = (List.replicate m its).flatten.toArray := fun m => by
      have := foldl_rep its m []
      rw [List.nil_append] at this
      exact this
    rw [f0]
    cases its with
    | nil => simp
    | cons a r' => rw [if_neg (by simp)]
  refine wpAny_binaryOp_repeat_ref (T := "list") (U := "int") (by decide) ⟨_, e, rfl⟩ (fun s' => typeIs_int s' k t) noFill_list_mul F.fills_int_mul F.slot_int_rmul repeat_list F.slot_int_index.lookup
    (call_meets F.slot_int_rmul (typeIs_int s k t) F.entry_int_rmul (F.args_int_rmul_2 _ _) (int___rmul___int_list k t l its.toArray n)
      ⟨e, rfl, ⟨_, e, rfl⟩, call_meets F.slot_list_mul ⟨_, e, rfl⟩ F.entry_list_mul (F.args_list_mul_2 _ _) (AutoListH.list___mul___list_int_3 l its.toArray n k t hfit hcap hlong) ⟨e, ?_⟩⟩)
  rw [hnew]
  exact ⟨.ref _, _, I.lnew (t' := s.toks) (r.rep k.toNat) (by rw [len_rep, Nat.mul_comm]; exact hz), rfl, q _ I.fresh⟩

/-! ### del xs[i] -/
end

/-! ### xs[a:b] = ys -/
section
variable {prog : Program} {w : World} {A : Around} {E : Value → Shared → Prop} {s : Shared}
end

section
variable {X : Cx}
end
end L2

namespace Att
open PySem PySem.W PySem.Calls PyProof.Rows

/-! ### the script -/
theorem ints_of_wellAll {P : Params} {h : Heap} : ∀ (ns : List Int) (vs : List Value), WellAll P h vs (ns.map WData.int) → IntsAre vs ns := by
  intro ns
  induction ns with
  | nil =>
    intro vs w
    rw [List.map_nil] at w
    cases w
    exact .nil
  | cons n ns ih =>
    intro vs w
    rw [List.map_cons] at w
    cases w with
    | cons a b =>
      cases a
      exact .cons _ _ (ih _ b)

theorem script_of {l : OpenLaw} {n : Nat} (hn : l.most = some n) {P : Params} {h : Heap} {args : List WData} {vals : List Value}
    (hpre : l.row.toRowW.claim.pre args = true) (hwl : WellAll P h vals args) :
    ∃ a vs ns, vals = [Value.ref a] ∧ args = [WData.list (ns.map WData.int)] ∧ h.get? a = some { cls := .type "list", data := .seq vs.toArray } ∧ IntsAre vs ns ∧ ns.length ≤ n := by
  have hsh : WShape.hasAll [] args [.list .int] = true := (pre_splitW hpre).1
  have hc : l.pre.holds [] { args := args } = true := (pre_splitW hpre).2
  obtain ⟨d, r, rfl, h1, h2⟩ := hasAllW_cons hsh
  obtain rfl := hasAllW_nil h2
  obtain ⟨xs, rfl, h3⟩ := hasW_list h1
  obtain ⟨ns, rfl⟩ := items_int h3
  have hlen : ns.length ≤ n := by
    unfold OpenLaw.pre at hc
    have h4 : (WTm.not (.lt (.lit (.int (n : Int))) (.len (.arg 0)))).holds [] { args := [.list (ns.map .int)] } = true := by
      have h4 := (holds_andW hc).1
      rw [hn] at h4
      exact h4
    have h5 := condW_of h4 (w_not (w_lt w_lit (w_len_list (w_arg rfl))))
    rw [List.length_map] at h5
    refine Nat.le_of_not_lt fun q => ?_
    have q' : (n : Int) < ((ns.length : Nat) : Int) := by omega
    first
      | (rw [decide_eq_true q'] at h5; exact absurd h5 (by decide))
      | (simp at h5; omega)
  cases hwl with
  | cons w1 w2 =>
    cases w2
    cases w1 with
    | list ho hall => exact ⟨_, _, ns, rfl, rfl, ho, ints_of_wellAll ns _ hall, hlen⟩

theorem post_true (l : OpenLaw) (args : List WData) : l.row.toRowW.claim.post args (.bool true) args = true :=
  postW_of (r := l.row.toRowW) (X := (true == true))
    (show WShape.has [] (.bool true) .bool = true by first | rfl | decide | simp [WShape.has, WShape.arms, WShape.armsAll])
    (show (WTm.eq .res (.lit (.bool true))).value [] { args := args, res := some (.bool true), after := args } = some (.bool (true == true)) from w_eq_bool (w_res rfl) w_lit) rfl

/-! ### the attachment: holds_open's last premise (the goal 'hc' behind k_head) from a wpAny of the law's body -/
/-- the same from a codeAny of the CALL (for a layer whose function contracts speak of calls) -/
theorem attach_call {l : OpenLaw} {n : Nat} {q : Program} {loose : List Str} {XP : (Str → Option Value) → Heap → Prop} {YP : World → Heap → Prop} {d : DefRec}
    (hn : l.most = some n) (hdf : d.params.defaults = [])
    (call : ∀ (w : World) (s₀ s₁ : Shared) (mg mb : Str → Option Value) (fa : Addr) (o : Obj) (pm cd doc : Value) (a : Addr) (vs : List Value) (ns : List Int),
      Ground q loose [] XP w s₀ mg mb s₁.heap → YP w s₁.heap →
      s₁.heap.get? fa = some o → o.data = .func (docDef d.name d.params d.body d.scope pm cd doc) → s₁.heap.CodeRec cd d.name → mg d.name = some (.ref fa) →
      s₁.heap.get? a = some { cls := .type "list", data := .seq vs.toArray } → IntsAre vs ns → ns.length ≤ n → s₁.gens = #[] →
      codeAny (model l.prog w) callerA (.call (.ref fa) ⟨[.ref a], []⟩) (fun r s' => r = .ok (.ret (.bool true)) ∧ OldK s₁.heap s'.heap ∧ s'.os = s₁.os ∧ AllBare s'.gens) s₁) :
    WalkO q loose XP YP l.row.toRowW d [] (fun f vs => PySem.call f vs) := by
  intro w s₀ s₁ mg mb G Y fa o pm cd doc dV kV ho hd hcd hD hmg hg args vals as hpre hlay hrd hwl hlo
  obtain rfl : dV = .none := Dflts.none hD hdf
  obtain rfl : kV = .none := Dflts.noKw hD
  obtain ⟨a, vs, ns, rfl, rfl, hobj, hints, hlen⟩ := script_of hn hpre hwl
  refine enter_call (codeAny_mono (call w s₀ s₁ mg mb fa o pm cd doc a vs ns G Y ho (fd_plain hd) hcd hmg hobj hints hlen hg) fun r s' hq => ?_)
  obtain ⟨rfl, h2, h3, h4⟩ := hq
  exact ⟨.inl ⟨.bool true, .bool true, [], rfl, fun _ => rfl, .bool true, post_true l _, fun _ => ⟨List.Pairwise.nil, fun _ hm => (nomatch hm)⟩⟩, h2, h3, h4⟩

/-! ### rules over ANY heap (no ledger) from facts about the written part K: the library's own take a ledger (News) for what they write -/
section
variable {prog : Program} {w : World} {A : Around} {E : Value → Shared → Prop} {s : Shared} {K : Frag}

/-! the whole heap as the ledger: makes every rule that writes through a ledger a rule over any heap -/
def noObjs (h : Heap) : Heap := { h with objs := #[] }
def ledger (h : Heap) (L d : Addr) : List (Addr × Obj) := (List.range h.objs.size).filterMap fun a => if a = L ∨ a = d then none else (h.get? a).map fun o => (a, o)
end
end Att

namespace L2
open PySem PySem.Spec PyProof.Rows

theorem vals_ints : ∀ {vs : List Value} {ns : List Int}, IntsAre vs ns → Vals (ns.map V.int) vs
  | _, _, .nil => .nil
  | _, _, .cons n t h => .cons ⟨t, rfl⟩ (vals_ints h)

/-- nothing is tracked but the script, known to the object (or it is an object of the module) -/
def Only (H : Hp) : Prop := ∀ b, H b = none ∨ ∃ o xs, H b = some (.frz o (.lst xs))

end L2

namespace L2
open PySem PySem.Spec PyProof.Rows

abbrev KOf {K : PySem.W.Frag} {h : Heap} (_ : K.In h) : PySem.W.Frag := K

end L2

/- THE LAST THEOREM (shape; LID, My.* are yours):
   My.Adr: a structure of the addresses that your layer names (classes, functions); My.Txt K t: a structure (Prop) of the equations over K;
   My.txt_mk : {K} {implicit addresses ..} (e1 : nsIn K mainGlobals "law" = some (some (.ref f))) (e2 : K.lookup f = some ⟨oc, od, .func (fnOf "law" "law" params body scope dV kV doc pm an cdv ct), sl⟩) (e3 : codeIn K cdv "law" = true) .. : ∃ t, My.Txt K t

set_option maxRecDepth 100000 in
set_option maxHeartbeats 0 in
theorem PySem.Challenge.cw_LID_holds : PySem.Challenge.rw_LID.Holds := by
  w_on; o_law; k_head; (case hw => w_witness2)
  k_fill
  refine L2.walk_of (l := PySem.Challenge.rw_LID) (n := 63) (k := 40) (x := "script") (CX := fun w => ..) (sp := fun _ => My.sp_law) rfl (by decide) rfl ⟨rfl, by decide, by decide⟩ (fun w h Y => PySem.W.kIn_of Y) ?F ?S ?C
  case F =>
    intro w mg fa h KX G hmg
    have T : ∃ t, My.Txt (L2.KOf KX) t := by
      dsimp only [L2.KOf]                          -- K must stand as «<heap const> w.params» for k_is
      refine' My.txt_mk ?e1 ?e2 ?e3 ..
      (case e1 => PySem.W.k_is)                    -- in the order: a name -> its address -> its object -> its parts
      (case e2 => PySem.W.k_is)
      ..
    obtain ⟨t, T⟩ := T
    have e0 := hmg.symm.trans (PySem.W.mg_of KX G T.law)
    cases e0                                       -- fa is the law's own address
    exact ⟨_, fun s u => .of_eq rfl, fun base kb nb => My.law_fn T kb nb⟩     -- if «.of_eq rfl» comes too early: refine' ⟨_, ?b, fun base kb nb => My.law_fn T kb nb⟩; exact fun s u => .of_eq rfl
  case S => exact fun w H a ns hl hO hS => ..
  case C => exact ..
(the tactic k_is has no namespace: write k_is) -/

/-! SHORT WORDS over the layer: a def of the text, its body, what a loop and a test want. -/
namespace L2
open PySem PySem.Spec PyProof.Rows

/-! ### the text by places -/
/-- the j-th statement of a class's body -/
def inClass (s : Stmt) (j : Nat) : Stmt := match s with
  | .ClassDef _ _ _ body _ _ _ _ _ _ _ => body.getD j (.Pass ⟨0, 0, 0, 0⟩)
  | _ => .Pass ⟨0, 0, 0, 0⟩
def defArgs (s : Stmt) : Arguments := match s with
  | .FunctionDef _ a _ _ _ _ _ _ _ _ => a
  | _ => { posonlyargs := [], args := [], vararg := none, kwonlyargs := [], kw_defaults := [], kwarg := none, defaults := [] }
def defBody (s : Stmt) : List Stmt := match s with
  | .FunctionDef _ _ b _ _ _ _ _ _ _ => b
  | _ => []
def defScope (s : Stmt) : Scope := match s with
  | .FunctionDef _ _ _ _ _ _ sc _ _ _ => sc
  | _ => { kind := .function, names := [], isGenerator := false, isCoroutine := false }

/-! ### no exception leaves a def -/
abbrev CX0 : CXT := fun _ _ _ _ _ _ => False
abbrev E0 : XK := fun _ _ _ => False
theorem pass0 {X : Cx} : Passes CX0 X E0 := fun _ _ _ _ _ _ _ h => h.elim

/-! ### a def (or method) of the text as it stands behind the top -/
structure Fun (K : PySem.W.Frag) (x qual : Str) (st : Stmt) (f : Addr) (fd : FuncData) : Prop where
  ex : ∃ (oc : Value) (od : Option Addr) (kV doc pm : Value) (an : Option Addr) (cdv ct : Value) (osl : Array (Option Value)),
    fd = PySem.W.fnOf x qual (defArgs st) (defBody st) (defScope st) .none kV doc pm an cdv ct ∧ K.lookup f = some ⟨oc, od, .func fd, osl⟩ ∧ PySem.W.codeIn K cdv qual = true
  kp : PySem.W.keepIn K (.ref f) = true
section
variable {P : Program} {w : World} {K : PySem.W.Frag} {mg : Str → Option Value} {base : Heap}
/-- THE RULE for a def: its body as a term of rules, and the reading of that term -/
theorem Fun.ok {x qual : Str} {st : Stmt} {f : Addr} {fd : FuncData} {N ps : List Str} {k : Nat} {sp : Sp} (F : Fun K x qual st f fd) (S : FnScope N ps (defScope st)) (len : ∀ vs H Q E, sp vs H Q E → vs.length = ps.length)
    (hbody : ∀ (cdv : Value) (A : Around) (outer : List Env) (s : Shared) (H : Hp) (vs : List V) (Q : VK) (E : XK), Room k (A.deeper (envOfC qual (defScope st) s.heap.objs.size f cdv)) → sp vs H Q E →
      ∃ t, PSs (cxOf CX0 P w K mg base N qual (defScope st) f cdv A outer s H E).nox (defBody st) t ∧ t { nx := fun _ H' => Q .non H', rt := Q } (start N vs) H) : FnOk P w K mg base CX0 (k + 1) f fd ps sp := by
  obtain ⟨oc, od, kV, doc, pm, an, cdv, ct, osl, rfl, lk, hcd⟩ := F.ex
  refine fn_of lk hcd S len fun A outer s H vs Q E hr hsp => ?_
  obtain ⟨t, h, q⟩ := hbody cdv A outer s H vs Q E hr hsp
  exact ⟨t, h.nox, q⟩
/-- how its arguments bind (no defaults): h is «fun _ _ _ _ _ _ us hl => match us, hl with | [_, _], _ => rfl», one _ a parameter -/
theorem Fun.binds {x qual : Str} {st : Stmt} {f : Addr} {fd : FuncData} {ps : List Str} (F : Fun K x qual st f fd)
    (h : ∀ (kV doc pm : Value) (an : Option Addr) (cdv ct : Value) (us : List Value), us.length = ps.length → bindArgs (PySem.W.fnOf x qual (defArgs st) (defBody st) (defScope st) .none kV doc pm an cdv ct) ⟨us, []⟩ = pure (ps.zip us)) : Binds K fd ps [] := by
  obtain ⟨oc, od, kV, doc, pm, an, cdv, ct, osl, rfl, lk, hcd⟩ := F.ex
  exact .all (h kV doc pm an cdv ct)
theorem fun_mk {x qual : Str} {st : Stmt} {f : Addr} {oc : Value} {od an : Option Addr} {osl : Array (Option Value)} {kV doc pm cdv ct : Value} (l : K.lookup f = some ⟨oc, od, .func (PySem.W.fnOf x qual (defArgs st) (defBody st) (defScope st) .none kV doc pm an cdv ct), osl⟩)
    (c : PySem.W.codeIn K cdv qual = true) (k : PySem.W.keepIn K (.ref f) = true) : Fun K x qual st f (PySem.W.fnOf x qual (defArgs st) (defBody st) (defScope st) .none kV doc pm an cdv ct) := ⟨⟨oc, od, kV, doc, pm, an, cdv, ct, osl, rfl, l, c⟩, k⟩
end
theorem hu_of {A : Around} {k : Nat} (hr : Room k A) : A.units + 1 < cLine := Nat.lt_of_le_of_lt (Nat.add_le_add_left (by decide : 1 ≤ 64) _) hr.units
theorem small1000 {n : Nat} (h : n ≤ 1000) : n < sizeLine := Nat.lt_of_le_of_lt h (by decide)

/-! ### expressions in short: the name that stands in the i-th slot -/
section
variable {X : Cx}
theorem pv (i : Nat) {x : Str} {pos : Pos} (hN : X.N[i]? = some x := by rfl) (hv : Vis X.env.scope x := by first | exact Or.inl rfl | exact Or.inr (Or.inl rfl) | exact Or.inr (Or.inr rfl)) (hd : (x == ("__debug__" : Str)) = false := by decide)
    (hcd : (x == ("__classdict__" : Str)) = false := by decide) : PE X (.Name x pos) (tVar i) := pe_var hN hv hd hcd
end

/-! ### tests -/
theorem iteF {A B : Prop} (h : B) : if false = true then A else B := by
  rw [if_neg Bool.false_ne_true]
  exact h
theorem iteT {A B : Prop} (h : A) : if true = true then A else B := by
  rw [if_pos rfl]
  exact h
/-! ### heaps -/
/-- all that was tracked is as it was -/
def Same (H H' : Hp) : Prop := ∀ b o, H b = some o → H' b = some o
theorem Same.refl (H : Hp) : Same H H := fun _ _ h => h
theorem Same.trans {H H1 H2 : Hp} (a : Same H H1) (b : Same H1 H2) : Same H H2 := fun c o h => b c o (a c o h)
theorem Same.free {H H' : Hp} (e : Same H H') {l : Addr} (h : H' l = Option.none) : H l = Option.none := by
  cases q : H l with
  | none => rfl
  | some o =>
    rw [e l o q] at h
    cases h
end L2
-- part PDict
set_option Elab.async false
set_option linter.all false
set_option maxRecDepth 100000

namespace L2
open PySem PySem.Spec PyProof.Rows

/-! ### lists of pairs as tables -/
section
variable {κ : Type} [DecidableEq κ]
def valV (kvs : List (κ × V)) (k : κ) : Option V := (kvs.find? fun kv => decide (kv.1 = k)).map (·.2)
/-- in its place, or at the end -/
def putK (kvs : List (κ × V)) (k : κ) (v : V) : List (κ × V) :=
  if (kvs.any fun kv => decide (kv.1 = k)) = true then kvs.map (fun kv => if kv.1 = k then (kv.1, v) else kv) else kvs ++ [(k, v)]
def dropK (kvs : List (κ × V)) (k : κ) : List (κ × V) := kvs.filter fun kv => decide (kv.1 ≠ k)

theorem valV_pos {p : κ × V} {r : List (κ × V)} {k : κ} (e : p.1 = k) : valV (p :: r) k = some p.2 := by simp [valV, List.find?_cons, e]
theorem valV_neg {p : κ × V} {r : List (κ × V)} {k : κ} (e : ¬ p.1 = k) : valV (p :: r) k = valV r k := by simp [valV, List.find?_cons, e]
theorem valV_any (k : κ) : ∀ kvs : List (κ × V), (kvs.any fun kv => decide (kv.1 = k)) = (valV kvs k).isSome
  | [] => rfl
  | p :: r => by
    rw [List.any_cons]
    by_cases e : p.1 = k
    · simp only [valV_pos e, decide_eq_true e, Bool.true_or, Option.isSome_some]
    · rw [valV_neg e, decide_eq_false e, Bool.false_or]; exact valV_any k r
theorem valV_map (k j : κ) (y : V) : ∀ kvs : List (κ × V), valV (kvs.map fun kv => if kv.1 = k then (kv.1, y) else kv) j = (valV kvs j).map fun x => if j = k then y else x
  | [] => rfl
  | p :: r => by
    have ih := valV_map k j y r
    rw [List.map_cons]
    by_cases h : p.1 = k
    · rw [if_pos h]
      by_cases e : p.1 = j
      · rw [valV_pos (p := (p.1, y)) e, valV_pos e, Option.map_some, if_pos (e.symm.trans h)]
      · rw [valV_neg (p := (p.1, y)) e, valV_neg e, ih]
    · rw [if_neg h]
      by_cases e : p.1 = j
      · rw [valV_pos (p := p) e, valV_pos e, Option.map_some, if_neg (fun z => h (e.trans z))]
      · rw [valV_neg (p := p) e, valV_neg e, ih]
theorem valV_snoc (k j : κ) (y : V) : ∀ kvs : List (κ × V), valV kvs k = none → valV (kvs ++ [(k, y)]) j = if j = k then some y else valV kvs j
  | [], _ => by
    by_cases e : k = j
    · rw [if_pos e.symm]; exact valV_pos (p := (k, y)) e
    · rw [if_neg (fun z => e z.symm)]; exact valV_neg (p := (k, y)) e
  | p :: r, hn => by
    rw [List.cons_append]
    have hk : ¬ p.1 = k := fun z => by rw [valV_pos z] at hn; cases hn
    rw [valV_neg hk] at hn
    have ih := valV_snoc k j y r hn
    by_cases e : p.1 = j
    · rw [valV_pos e, valV_pos e, if_neg (fun z => hk (e.trans z))]
    · rw [valV_neg e, valV_neg e, ih]
theorem valV_put (kvs : List (κ × V)) (k j : κ) (y : V) : valV (putK kvs k y) j = if j = k then some y else valV kvs j := by
  unfold putK
  by_cases a : (kvs.any fun kv => decide (kv.1 = k)) = true
  · rw [if_pos a, valV_map]
    rw [valV_any] at a
    by_cases e : j = k
    · obtain ⟨x, hx⟩ := Option.isSome_iff_exists.mp a
      rw [if_pos e, e, hx, Option.map_some, if_pos rfl]
    · rw [if_neg e]
      cases valV kvs j with
      | none => rfl
      | some x => rw [Option.map_some, if_neg e]
  · rw [if_neg a]
    refine valV_snoc k j y kvs ?_
    rw [valV_any] at a
    cases q : valV kvs k with
    | none => rfl
    | some x => rw [q] at a; exact (a rfl).elim
theorem length_putK (kvs : List (κ × V)) (k : κ) (v : V) : (putK kvs k v).length ≤ kvs.length + 1 := by
  unfold putK
  split
  · rw [List.length_map]; omega
  · rw [List.length_append, List.length_cons, List.length_nil]; omega
theorem RelO.getD {o : Option V} {u : Option Value} {d : V} {d' : Value} (r : RelO o u) (rd : RelV d d') : RelV (o.getD d) (u.getD d') := by
  cases o with
  | none => cases u with
    | none => exact rd
    | some _ => exact (show False from r).elim
  | some _ => cases u with
    | none => exact (show False from r).elim
    | some _ => exact r

/-- raw tables of the same keys -/
theorem KV.val {kvs : List (κ × V)} {vs : List (κ × Value)} (r : KV kvs vs) (k : κ) : RelO (valV kvs k) (valueAt vs k) := by
  unfold KV at r
  induction r with
  | nil => exact True.intro
  | @cons p q ps qs h t ih =>
    obtain ⟨h1, h2⟩ := h
    by_cases e : p.1 = k
    · have e' : q.1 = k := h1.symm.trans e
      have b : valueAt (q :: qs) k = some q.2 := by simp [valueAt, List.find?_cons, e']
      rw [valV_pos e, b]; exact h2
    · have e' : ¬ q.1 = k := fun z => e (h1.trans z)
      have b : valueAt (q :: qs) k = valueAt qs k := by simp [valueAt, List.find?_cons, e']
      rw [valV_neg e, b]; exact ih
theorem KV.any {kvs : List (κ × V)} {vs : List (κ × Value)} (r : KV kvs vs) (k : κ) : (kvs.any fun kv => decide (kv.1 = k)) = vs.any fun kv => decide (kv.1 = k) := by
  unfold KV at r
  induction r with
  | nil => rfl
  | cons h t ih => rw [List.any_cons, List.any_cons, ih, h.1]
theorem KV.repl {kvs : List (κ × V)} {vs : List (κ × Value)} (r : KV kvs vs) (k : κ) {y : V} {u : Value} (ry : RelV y u) :
    KV (kvs.map fun kv => if kv.1 = k then (kv.1, y) else kv) (vs.map fun kv => if kv.1 = k then (kv.1, u) else kv) := by
  unfold KV at r ⊢
  induction r with
  | nil => exact .nil
  | @cons p q ps qs h t ih =>
    rw [List.map_cons, List.map_cons]
    refine .cons ?_ ih
    obtain ⟨h1, h2⟩ := h
    by_cases e : p.1 = k
    · rw [if_pos e, if_pos (h1.symm.trans e)]; exact ⟨h1, ry⟩
    · rw [if_neg e, if_neg (fun z => e (h1.trans z))]; exact ⟨h1, h2⟩
theorem KV.put {kvs : List (κ × V)} {vs : List (κ × Value)} (r : KV kvs vs) (k : κ) {y : V} {u : Value} (ry : RelV y u) : KV (putK kvs k y) (stored vs k u) := by
  unfold putK stored
  rw [r.any k]
  by_cases e : (vs.any fun kv => decide (kv.1 = k)) = true
  · rw [if_pos e, if_pos e]; exact r.repl k ry
  · rw [if_neg e, if_neg e]; exact Paired.snoc r ⟨rfl, ry⟩
theorem KV.length {kvs : List (κ × V)} {vs : List (κ × Value)} (r : KV kvs vs) : kvs.length = vs.length := Paired.length r
end


/-! ### a tracked dict, its keys ints and texts or tuples of these -/
theorem kV_is {P : Program} {w : World} {k : Key} {u : Value} (r : RelV (kV k) u) : (mixKind P w).is k u = true := by
  cases k with
  | inl i => obtain ⟨t, e⟩ := (show ∃ t, u = Value.int i t from r); subst e; exact mixKind_int P w i t
  | inr x => obtain ⟨t, e⟩ := (show ∃ t, u = Value.str x t from r); subst e; exact mixKind_str P w x t
theorem items_are {P : Program} {w : World} : ∀ {ks : List Key} {us : List Value}, Vals (ks.map kV) us → ItemsAre (mixKind P w) ks us
  | [], _, r => by rw [List.map_nil] at r; cases r; exact .nil
  | k :: ks, _, r => by
    rw [List.map_cons] at r
    cases r with
    | cons h t => exact .cons (kV_is h) (items_are t)

/-- raw entries of a dict with tuple keys -/
abbrev KT (H : Hp) : List (List Key × V) → List (List Key × Addr × Value) → Prop := Paired fun p q => p.1 = q.1 ∧ H q.2.1 = some (.tup (p.1.map kV)) ∧ RelV p.2 q.2.2
theorem KT.val {H : Hp} {kvs : List (List Key × V)} {xs : List (List Key × Addr × Value)} (r : KT H kvs xs) (k : List Key) : RelO (valV kvs k) ((atKey xs k).map (·.2)) := by
  induction r with
  | nil => exact True.intro
  | @cons p q ps qs h t ih =>
    obtain ⟨h1, _, h2⟩ := h
    by_cases e : p.1 = k
    · have e' : q.1 = k := h1.symm.trans e
      have b : atKey (q :: qs) k = some q.2 := by simp [atKey, List.find?_cons, e']
      rw [valV_pos e, b]; exact h2
    · have e' : ¬ q.1 = k := fun z => e (h1.trans z)
      have b : atKey (q :: qs) k = atKey qs k := by simp [atKey, List.find?_cons, e']
      rw [valV_neg e, b]; exact ih
section
variable {P : Program} {w : World} {H : Hp} {h : Heap} {a : Addr}
theorem rd_of {u : HO} (ok : HOk P w H h) (e : Rd H a u) : ObjOk P w H h a u := e.ok ok
theorem dk_rd {kvs : List (Key × V)} (ok : HOk P w H h) (e : Rd H a (.dK kvs)) : kvs.length ≤ sizeLine ∧ (a == sysModules) = false ∧ ∃ vs, KV kvs vs ∧ h.DictOf (mixKind P w) a vs :=
  show ObjOk P w H h a (.dK kvs) from rd_of ok e
/-- a tracked tuple of ints and texts is a key -/
theorem key_of {ks : List Key} (ok : HOk P w H h) (e : H a = some (.tup (ks.map kV))) : (tupleKind (mixKind P w)).is h ks a := by
  obtain ⟨_, its, r, ⟨o, h1, h2, n, h3⟩, _⟩ := (show ObjOk P w H h a (.tup (ks.map kV)) from ok a _ e)
  exact ⟨o, its.toArray, n, h1, h2, h3, by simpa using items_are r⟩
theorem dt_rd {kvs : List (List Key × V)} (ok : HOk P w H h) (e : Rd H a (.dT kvs)) : kvs.length ≤ sizeLine ∧ (a == sysModules) = false ∧
    ∃ xs, KT H kvs xs ∧ h.DictOfH (tupleKind (mixKind P w)) a xs := by
  obtain ⟨z, y, xs, r, o, es, ep, h1, h2, h3, h4, h5⟩ := (show ObjOk P w H h a (.dT kvs) from rd_of ok e)
  refine ⟨z, y, xs, r, o, es, ep, h1, h2, h3, h4, fun x hx => ?_, h5⟩
  have all : ∀ {l : List (List Key × V)} {m : List (List Key × Addr × Value)}, KT H l m → ∀ x ∈ m, (tupleKind (mixKind P w)).is h x.1 x.2.1 := by
    intro l m q
    induction q with
    | nil => intro x hx; exact nomatch hx
    | @cons p q ps qs hq t ih =>
      intro x hx
      rcases List.mem_cons.mp hx with e | hx
      · subst e
        exact key_of ok (by rw [← hq.1]; exact hq.2.1)
      · exact ih x hx
  exact all r x hx
end

/-- what the dict at a holds at the key y -/
def DGet (H : Hp) (a : Addr) (y : V) (r : Option V) : Prop :=
  (∃ kvs k, Rd H a (.dK kvs) ∧ y = kV k ∧ r = valV kvs k) ∨ ∃ kvs k b, Rd H a (.dT kvs) ∧ y = .ref b ∧ H b = some (.tup (k.map kV)) ∧ r = valV kvs k
/-- the heap behind a[y] = v -/
def DPut (H : Hp) (a : Addr) (y v : V) (H' : Hp) : Prop :=
  (∃ kvs k, H a = some (.dK kvs) ∧ y = kV k ∧ kvs.length < sizeLine ∧ H' = upd H a (.dK (putK kvs k v))) ∨
  ∃ kvs k b, H a = some (.dT kvs) ∧ y = .ref b ∧ H b = some (.tup (k.map kV)) ∧ kvs.length < sizeLine ∧ H' = upd H a (.dT (putK kvs k v))
theorem DGet.k {H : Hp} {a : Addr} {kvs : List (Key × V)} {k : Key} (e : H a = some (.dK kvs)) : DGet H a (kV k) (valV kvs k) := .inl ⟨kvs, k, .inl e, rfl, rfl⟩
section
variable {X : Cx} {pins : List (Addr × Obj)} {σ : St} {H : Hp} {s : Shared} {a : Addr} {y v : V} {u r : Value} {o : Option V} {A : Around} {E : Value → Shared → Prop}

theorem Inv.big (I : Inv X pins σ H s) : sysModules < s.heap.objs.size := by
  have h : mainGlobals < s.heap.objs.size := (I.mod.glob.keeps I.bk).lt
  exact Nat.lt_trans (by decide) h

theorem dk_new {P : Program} {w : World} {H' : Hp} {h' : Heap} {kvs : List (Key × V)} {vs : List (Key × Value)} (z : kvs.length ≤ sizeLine) (hd : (a == sysModules) = false) (rel : KV kvs vs) (dd : h'.DictOf (mixKind P w) a vs) :
    ObjOk P w H' h' a (.dK kvs) := ⟨z, hd, vs, rel, dd⟩
end

section
variable {X : Cx} {pins : List (Addr × Obj)} {σ : St} {H : Hp} {s : Shared} {a : Addr} {kvs : List (Key × V)} {k : Key} {u : Value} {A : Around} {E : Value → Shared → Prop}
end


/-! ### readings and rules -/
/-- the element of a subscription, not a slice -/
def NoSl (i : Expr) : Prop := ∀ ov iv, subscripted i false ov iv = operate [ov, iv] (getItem ov iv)
/-- d[y] -/
def tDGet (td ty : TE) : TE := fun σ H Q => td σ H fun x H1 => ty σ H1 fun y H2 => ∃ a v, x = .ref a ∧ DGet H2 a y (some v) ∧ Q v H2
/-- y in d, y not in d -/
def tDIn (ty td : TE) : TE := fun σ H Q => ty σ H fun y H1 => td σ H1 fun x H2 => ∃ a o, x = .ref a ∧ DGet H2 a y o ∧ Q (.bl o.isSome) H2
def tDNotIn (ty td : TE) : TE := fun σ H Q => ty σ H fun y H1 => td σ H1 fun x H2 => ∃ a o, x = .ref a ∧ DGet H2 a y o ∧ Q (.bl (!o.isSome)) H2
/-- d[y] = v -/
def sDPut (td ty tv : TE) : TS := fun D σ H => tv σ H fun v H1 => td σ H1 fun x H2 => ty σ H2 fun y H3 => ∃ a H4, x = .ref a ∧ DPut H3 a y v H4 ∧ D.nx σ H4
/-- d[y] op= v -/
def sDAug (td ty tv : TE) (rd : V → V → Hp → VK → Prop) : TS := fun D σ H => td σ H fun x H1 => ty σ H1 fun y H2 => ∃ a v, x = .ref a ∧ DGet H2 a y (some v) ∧
  tv σ H2 fun y2 H3 => rd v y2 H3 fun z H4 => ∃ H5, DPut H4 a y z H5 ∧ D.nx σ H5
/-- del d[y] -/
def sDDel (td ty : TE) : TS := fun D σ H => td σ H fun x H1 => ty σ H1 fun y H2 => ∃ a kvs k, x = .ref a ∧ H2 a = some (.dK kvs) ∧ y = kV k ∧ (valV kvs k).isSome = true ∧ D.nx σ (upd H2 a (.dK (dropK kvs k)))

section
variable {X : Cx} {o i e value : Expr} {pos pos' tpos : Pos} {td ty tv : TE}
end


/-! ### displays -/
theorem dk_empty {P : Program} {w : World} {H : Hp} (h : Heap) (hb : sysModules < h.objs.size) : ObjOk P w H (h.push { cls := .type "dict", data := .dict #[] }) h.objs.size (.dK []) :=
  ⟨Nat.zero_le _, beq_eq_false_iff_ne.mpr (Ne.symm (Nat.ne_of_lt hb)), [], .nil, Heap.DictOf.new h⟩
/-- {}, to be a dict of the kind that is wanted -/
def tDNewK : TE := fun _ H Q => ∀ p, H p = none → Q (.ref p) (upd H p (.dK []))
def tDNewT : TE := fun _ H Q => ∀ p, H p = none → Q (.ref p) (upd H p (.dT []))
section
variable {X : Cx} {pos : Pos}
theorem pe_dnewK : PE X (.Dict [] [] pos) tDNewK := fun pins s σ H Q I h =>
  wpAny_Dict_empty ⟨.ref s.heap.objs.size, _, I.laid (a := s.heap.objs.size) (o := .dK []) (t' := s.toks) (fun _ _ q => Heap.get?_push_of_some _ q) (Nat.le_refl _) (dk_empty s.heap I.big), rfl, h _ (I.hok.fresh (Nat.le_refl _))⟩
end

/-- the pairs of a display, from the left -/
def tPairs : List (TE × TE) → St → Hp → (List (V × V) → Hp → Prop) → Prop
  | [], _, H, Q => Q [] H
  | (tk, tv) :: r, σ, H, Q => tk σ H fun x H1 => tv σ H1 fun y H2 => tPairs r σ H2 fun ps H3 => Q ((x, y) :: ps) H3
abbrev VV : List (V × V) → List (Value × Value) → Prop := Paired fun p q => RelV p.1 q.1 ∧ RelV p.2 q.2
def PPs (X : Cx) (pos : Pos) (keys : List (Option Expr)) (values : List Expr) (trs : List (TE × TE)) : Prop :=
  ∀ (pins : List (Addr × Obj)) (s : Shared) (σ : St) (H : Hp) (Q : List (V × V) → Hp → Prop), Inv X pins σ H s → tPairs trs σ H Q →
    wpAny (model X.prog X.w) X.A (evalPairs (pairTrees keys values X.env pos)) (fun vs s' => ∃ ps H', Inv X pins σ H' s' ∧ VV ps vs ∧ Q ps H') X.xe s
def mergeK (kvs more : List (Key × V)) : List (Key × V) := more.foldl (fun acc kv => putK acc kv.1 kv.2) kvs
theorem KV.merge : ∀ {more : List (Key × V)} {rs : List (Key × Value)} {kvs : List (Key × V)} {vs : List (Key × Value)}, KV more rs → KV kvs vs → KV (mergeK kvs more) (merged vs rs) := by
  intro more rs kvs vs r
  unfold KV at r
  induction r generalizing kvs vs with
  | nil => intro q; exact q
  | @cons p q ps qs h t ih =>
    intro r0
    have e : KV (putK kvs p.1 p.2) (stored vs q.1 q.2) := by
      have := r0.put p.1 h.2
      rw [← h.1]; exact this
    exact ih e
theorem length_mergeK : ∀ (more kvs : List (Key × V)), (mergeK kvs more).length ≤ kvs.length + more.length
  | [], kvs => by show kvs.length ≤ kvs.length + 0; omega
  | p :: r, kvs => by
    have h1 := length_mergeK r (putK kvs p.1 p.2)
    have h2 := length_putK kvs p.1 p.2
    show (mergeK (putK kvs p.1 p.2) r).length ≤ _
    rw [List.length_cons]; omega
/-- {k: v, ..} with keys ints and texts; the new dict stands empty while the pairs are made -/
def tDisp (trs : List (TE × TE)) : TE := fun σ H Q => ∀ p, H p = none → tPairs trs σ (upd H p (.dK [])) fun ps H2 => H2 p = some (.dK []) ∧ ∃ kvs : List (Key × V), ps = kvs.map (fun kv => (kV kv.1, kv.2)) ∧ kvs.length ≤ 15 ∧ Q (.ref p) (upd H2 p (.dK (mergeK [] kvs)))
/-! ### methods -/
/-- a method call o.m(e) of a built-in, with one argument: what must be seen of the text -/
structure M1 (X : Cx) (o : Expr) (m : Str) (apos : Pos) (e : Expr) (cpos : Pos) : Prop where
  base : attributeBase o m X.env (eval o X.env) = eval o X.env
  few : ((backTo cpos (starEach [e] X.env)).all (fun x => !x.1) && (backToKw cpos (keywordEach [] X.env)).all (fun x => x.1.isSome)
    && decide (([e] : List Expr).length + ([] : List Keyword).length + (if ([] : List Keyword).isEmpty then 0 else 1) < 30)) = true
  line : (apos.endLine == cpos.line) = true
  trees : backTo cpos (starEach [e] X.env) = [(false, eval e X.env)]
structure M2 (X : Cx) (o : Expr) (m : Str) (apos : Pos) (e f : Expr) (cpos : Pos) : Prop where
  base : attributeBase o m X.env (eval o X.env) = eval o X.env
  few : ((backTo cpos (starEach [e, f] X.env)).all (fun x => !x.1) && (backToKw cpos (keywordEach [] X.env)).all (fun x => x.1.isSome)
    && decide (([e, f] : List Expr).length + ([] : List Keyword).length + (if ([] : List Keyword).isEmpty then 0 else 1) < 30)) = true
  line : (apos.endLine == cpos.line) = true
  trees : backTo cpos (starEach [e, f] X.env) = [(false, eval e X.env), (false, eval f X.env)]

/-- a is a dict, whatever its keys -/
def IsD (H : Hp) (a : Addr) : Prop := (∃ kvs, Rd H a (.dK kvs)) ∨ ∃ kvs, Rd H a (.dT kvs)
theorem isD_at {X : Cx} {pins : List (Addr × Obj)} {σ : St} {H : Hp} {s : Shared} {a : Addr} (I : Inv X pins σ H s) (d : IsD H a) :
    s.TypeIs (.ref a) "dict" ∧ (∀ b, Value.ref a = .ref b → ∃ ob, s.heap.get? b = some ob ∧ ob.dict = none) ∧ (a == sysModules) = false := by
  rcases d with ⟨kvs, e⟩ | ⟨kvs, e⟩
  · obtain ⟨_, hd, vs, _, dd⟩ := dk_rd I.hok e
    refine ⟨dd.typeIs, fun b q => ?_, hd⟩
    cases q
    obtain ⟨ob, _, _, h1, h2, _⟩ := dd
    exact ⟨ob, h1, h2.2.1⟩
  · obtain ⟨_, hd, xs, _, dd⟩ := dt_rd I.hok e
    refine ⟨dd.typeIs, fun b q => ?_, hd⟩
    cases q
    obtain ⟨ob, _, _, h1, h2, _⟩ := dd
    exact ⟨ob, h1, h2.2.1⟩

section
variable {X : Cx} {pins : List (Addr × Obj)} {σ : St} {H : Hp} {s : Shared} {a : Addr} {y d : V} {u r : Value} {o : Option V} {A : Around} {E : Value → Shared → Prop}
/-- d.get(y) -/
theorem d_get1 {Q : Value → Shared → Prop} (hu : A.units + 1 < cLine) (I : Inv X pins σ H s) (g : DGet H a y o) (ry : RelV y u) (h : ∀ w' s', Inv X pins σ H s' → RelV (o.getD .non) w' → Q w' s') :
    wpAny (model X.prog X.w) A (call (.builtin "dict.get") [.ref a, u]) Q E s := by
  rcases g with ⟨kvs, k, e, ey, l⟩ | ⟨kvs, k, b, e, ey, eb, l⟩
  · subst ey
    obtain ⟨z, hd, vs, rel, dd⟩ := dk_rd I.hok e
    refine call_meetsIn PySem.F.slot_dict_get dd.typeIs PySem.F.entry_dict_get (PySem.F.args_dict_get_2 _ _) (meets_dict_get (mixKind X.prog X.w) a (kV_is ry) hd) ⟨_, dd.mapOf, h _ _ (I.tok _) ?_⟩
    rw [l]
    exact (rel.val k).getD rfl
  · subst ey
    cases (show u = Value.ref b from ry)
    obtain ⟨z, hd, xs, rel, dd⟩ := dt_rd I.hok e
    refine call_meetsIn PySem.F.slot_dict_get dd.typeIs PySem.F.entry_dict_get (PySem.F.args_dict_get_2 _ _) (meetsH_dict_get (tupleKind (mixKind X.prog X.w)) a b hd) ⟨tupleKind_room_in1 hu, k, xs, key_of I.hok eb, dd, h _ _ (I.tok _) ?_⟩
    rw [l]
    exact (rel.val k).getD rfl
end

def tDGet1 (td ty : TE) : TE := fun σ H Q => td σ H fun x H1 => ∃ a, x = .ref a ∧ IsD H1 a ∧ ty σ H1 fun y H2 => ∃ o, DGet H2 a y o ∧ Q (o.getD .non) H2
def tDGet2 (td ty tx : TE) : TE := fun σ H Q => td σ H fun x H1 => ∃ a, x = .ref a ∧ IsD H1 a ∧ ty σ H1 fun y H2 => tx σ H2 fun z H3 => ∃ o, DGet H3 a y o ∧ Q (o.getD z) H3
/-- d.pop(k): there; d.pop(k, x): there or not -/
def tDPop1 (td ty : TE) : TE := fun σ H Q => td σ H fun x H1 => ∃ a, x = .ref a ∧ IsD H1 a ∧ ty σ H1 fun y H2 => ∃ kvs k v, H2 a = some (.dK kvs) ∧ y = kV k ∧ valV kvs k = some v ∧ Q v (upd H2 a (.dK (dropK kvs k)))
def tDPop2 (td ty tx : TE) : TE := fun σ H Q => td σ H fun x H1 => ∃ a, x = .ref a ∧ IsD H1 a ∧ ty σ H1 fun y H2 => tx σ H2 fun z H3 => ∃ kvs k, H3 a = some (.dK kvs) ∧ y = kV k ∧
  (∀ v, valV kvs k = some v → Q v (upd H3 a (.dK (dropK kvs k)))) ∧ (valV kvs k = none → Q z H3)
section
variable {X : Cx} {o e f : Expr} {apos cpos : Pos} {td ty tx : TE}
theorem pe_dget1 (hu : X.A.units + 1 < cLine) (ho : PE X o td) (he : PE X e ty) (m : M1 X o "get" apos e cpos) : PE X (.Call (.Attribute o "get" apos) [e] [] cpos) (tDGet1 td ty) := by
  intro pins s σ H Q I h
  refine wpAny_Call_method m.base m.few m.line PySem.F.plainAttrs_dict PySem.F.slot_dict_get PySem.F.type_dict_get (thn (ho pins s σ H _ I h) fun u s1 ⟨x, H1, I1, rx, a, ex, d, q1⟩ => ?_)
  subst ex
  obtain rfl : u = Value.ref a := rx
  obtain ⟨t1, t2, _⟩ := isD_at I1 d
  refine ⟨t1, t2, ?_⟩
  rw [m.trees]
  refine Calls.callWith_builtin rfl (Calls.evalArgs_plain (Calls.spliced_cons (thn (he pins s1 σ H1 _ I1 q1) fun iv s2 ⟨y, H2, I2, ry, ov, g, q2⟩ => Calls.spliced_nil ?_)))
  exact d_get1 hu I2 g ry fun w' s3 I3 rw' => ⟨_, H2, I3, rw', q2⟩
end

/-! ### dict(d): a copy -/
section
variable {X : Cx} {pins : List (Addr × Obj)} {σ : St} {H : Hp} {s : Shared} {a : Addr} {kvs : List (Key × V)} {A : Around} {E : Value → Shared → Prop}
end


section
variable {X : Cx} {pins : List (Addr × Obj)} {σ : St} {H : Hp} {s : Shared} {a : Addr} {y : V} {u : Value} {A : Around} {E : Value → Shared → Prop}
end
end L2
namespace L2
open PySem PySem.Spec PyProof.Rows
section
variable {κ : Type} [DecidableEq κ]
end
end L2
-- part PC
set_option Elab.async false
set_option linter.all false
set_option maxRecDepth 100000
/-! COMPREHENSIONS over the hand layer: a list comprehension's block as a context of its own. -/
namespace L2
open PySem PySem.Spec PyProof.Rows

/-- the cells that a block captures -/
def clOf (scope : Scope) (env : Env) : List (Str × Addr) := scope.names.foldl (fun cs y => if y.2 == .free then (y.1, (env.cells.lookup y.1).getD 0) :: cs else cs) []

theorem closureFor_eq {scope : Scope} {env : Env} (h : ∀ y ∈ scope.names, y.2 = .free → ∃ c, env.cells.lookup y.1 = some c) : closureFor scope env = pure (clOf scope env) := by
  unfold closureFor clOf
  have key : ∀ (l : List (Str × NameKind)) (cs : List (Str × Addr)), (∀ y ∈ l, y.2 = .free → ∃ c, env.cells.lookup y.1 = some c) →
      (forIn l cs (fun x r => match x with | (name, kind) => if (kind == NameKind.free) = true then do let c ← cellOf env name; pure (ForInStep.yield ((name, c) :: r)) else pure (ForInStep.yield r)) : Sem (List (Str × Addr)))
        = pure (l.foldl (fun cs y => if y.2 == .free then (y.1, (env.cells.lookup y.1).getD 0) :: cs else cs) cs) := by
    intro l
    induction l with
    | nil => intro cs _; rfl
    | cons y l ih =>
      intro cs hl
      obtain ⟨n, k⟩ := y
      rw [List.forIn_cons, List.foldl_cons]
      by_cases hk : k = .free
      · subst hk
        obtain ⟨c, hc⟩ := hl (n, .free) List.mem_cons_self rfl
        have hc' : env.cells.lookup n = some c := hc
        have e1 : cellOf env n = pure c := by unfold cellOf; rw [hc']
        simp only [beq_self_eq_true, if_true, e1, hc', Option.getD_some, pure_bind]
        exact ih _ fun y hy => hl y (List.mem_cons_of_mem _ hy)
      · have hb : (k == NameKind.free) = false := by simpa using hk
        simp only [hb, Bool.false_eq_true, if_false, pure_bind]
        exact ih _ fun y hy => hl y (List.mem_cons_of_mem _ hy)
  simp only [key scope.names [] h, pure_bind]
  all_goals rfl

theorem clOf_mem {scope : Scope} {env : Env} {x : Str} {c : Addr} (h : (clOf scope env).lookup x = some c) : c = (env.cells.lookup x).getD 0 ∧ (x, NameKind.free) ∈ scope.names := by
  unfold clOf at h
  have key : ∀ (l : List (Str × NameKind)) (cs : List (Str × Addr)), (l.foldl (fun cs y => if y.2 == .free then (y.1, (env.cells.lookup y.1).getD 0) :: cs else cs) cs).lookup x = some c →
      (c = (env.cells.lookup x).getD 0 ∧ (x, NameKind.free) ∈ l) ∨ cs.lookup x = some c := by
    intro l
    induction l with
    | nil => intro cs h; exact .inr h
    | cons y l ih =>
      intro cs h
      obtain ⟨n, k⟩ := y
      rw [List.foldl_cons] at h
      rcases ih _ h with ⟨h1, h2⟩ | h'
      · exact .inl ⟨h1, List.mem_cons_of_mem _ h2⟩
      · by_cases hk : k = .free
        · subst hk
          simp only [beq_self_eq_true, if_true] at h'
          rw [List.lookup_cons] at h'
          cases hx : x == n with
          | true =>
            rw [hx] at h'
            have e : x = n := by simpa using hx
            subst e
            have e' : (env.cells.lookup x).getD 0 = c := Option.some.inj h'
            exact .inl ⟨e'.symm, List.mem_cons_self⟩
          | false => rw [hx] at h'; exact .inr h'
        · have hb : (k == NameKind.free) = false := by simpa using hk
          simp only [hb, Bool.false_eq_true, if_false] at h'
          exact .inr h'
  rcases key _ _ h with h | h
  · exact h
  · simp at h

theorem clOf_has {scope : Scope} {env : Env} {x : Str} (h : (x, NameKind.free) ∈ scope.names) : ∃ c, (clOf scope env).lookup x = some c := by
  unfold clOf
  have key : ∀ (l : List (Str × NameKind)) (cs : List (Str × Addr)), ((x, NameKind.free) ∈ l ∨ ∃ c, cs.lookup x = some c) → ∃ c, (l.foldl (fun cs y => if y.2 == .free then (y.1, (env.cells.lookup y.1).getD 0) :: cs else cs) cs).lookup x = some c := by
    intro l
    induction l with
    | nil =>
      intro cs h
      rcases h with h | h
      · simp at h
      · exact h
    | cons y l ih =>
      intro cs h
      obtain ⟨n, k⟩ := y
      rw [List.foldl_cons]
      refine ih _ ?_
      by_cases hk : k = .free
      · subst hk
        simp only [beq_self_eq_true, if_true]
        rw [List.lookup_cons]
        cases hx : x == n with
        | true => exact .inr ⟨_, rfl⟩
        | false =>
          rcases h with h | h
          · rcases List.mem_cons.mp h with e | h
            · have e1 : x = n := congrArg Prod.fst e
              simp [e1] at hx
            · exact .inl h
          · exact .inr h
      · have hb : (k == NameKind.free) = false := by simpa using hk
        simp only [hb, Bool.false_eq_true, if_false]
        rcases h with h | h
        · rcases List.mem_cons.mp h with e | h
          · exact absurd (congrArg Prod.snd e).symm hk
          · exact .inl h
        · exact .inr h
  exact key _ _ (.inl h)

def rl (env : Env) (y : Str × NameKind) : Str × NameKind := if (y.2 == NameKind.free && env.scope.kind == .function && env.kindOf y.1 == some .cell) then (y.1, NameKind.cell) else y
theorem rl_fst (env : Env) (y : Str × NameKind) : (rl env y).1 = y.1 := by unfold rl; split <;> rfl
theorem rl_free {env : Env} {y : Str × NameKind} (h : y.2 = .free) : (rl env y).2 = .cell ∨ (rl env y).2 = .free := by
  unfold rl; split
  · exact .inl rfl
  · exact .inr h
theorem rl_not {env : Env} {y : Str × NameKind} (h : y.2 ≠ .free) : rl env y = y := by
  have hb : (y.2 == NameKind.free) = false := by simpa using h
  unfold rl; rw [hb]; simp
theorem relabel_names (scope : Scope) (env : Env) : (relabel scope env).names = scope.names.map (rl env) := rfl
theorem relabel_free {scope : Scope} {env : Env} {x : Str} (hc : ∀ y ∈ scope.names, y.2 ≠ .cell) (h : (relabel scope env).names.lookup x = some .cell ∨ (relabel scope env).names.lookup x = some .free) : (x, NameKind.free) ∈ scope.names := by
  rw [relabel_names] at h
  have key : ∀ (l : List (Str × NameKind)), (∀ y ∈ l, y.2 ≠ .cell) → (∃ k, (k = NameKind.cell ∨ k = .free) ∧ (l.map (rl env)).lookup x = some k) → (x, NameKind.free) ∈ l := by
    intro l
    induction l with
    | nil => rintro _ ⟨k, _, h⟩; simp at h
    | cons y l ih =>
      rintro hl ⟨k', hk', h⟩
      obtain ⟨n, k⟩ := y
      have e1 : (rl env (n, k)) = (n, (rl env (n, k)).2) := Prod.ext (rl_fst env _) rfl
      rw [List.map_cons, e1, List.lookup_cons] at h
      cases hx : x == n with
      | true =>
        have e : x = n := by simpa using hx
        subst e
        by_cases hk : k = .free
        · subst hk; exact List.mem_cons_self
        · rw [hx] at h
          rw [rl_not (env := env) (y := (x, k)) hk] at h
          have e : k = k' := Option.some.inj h
          subst e
          rcases hk' with z | z
          · exact absurd z (hl _ List.mem_cons_self)
          · exact absurd z hk
      | false =>
        rw [hx] at h
        exact List.mem_cons_of_mem _ (ih (fun y hy => hl y (List.mem_cons_of_mem _ hy)) ⟨k', hk', h⟩)
  refine key _ hc ?_
  rcases h with h | h
  · exact ⟨_, .inl rfl, h⟩
  · exact ⟨_, .inr rfl, h⟩
theorem relabel_lookup_free {scope : Scope} {env : Env} {x : Str} (h : scope.names.lookup x = some .free) : (relabel scope env).names.lookup x = some .cell ∨ (relabel scope env).names.lookup x = some .free := by
  rw [relabel_names]
  have key : ∀ (l : List (Str × NameKind)), l.lookup x = some .free → (l.map (rl env)).lookup x = some .cell ∨ (l.map (rl env)).lookup x = some .free := by
    intro l
    induction l with
    | nil => intro h; simp at h
    | cons y l ih =>
      intro h
      obtain ⟨n, k⟩ := y
      have e1 : (rl env (n, k)) = (n, (rl env (n, k)).2) := Prod.ext (rl_fst env _) rfl
      rw [List.map_cons, e1, List.lookup_cons]
      rw [List.lookup_cons] at h
      cases hx : x == n with
      | true =>
        rw [hx] at h
        have e : k = .free := Option.some.inj h
        rcases rl_free (env := env) (y := (n, k)) e with z | z
        · exact .inl (congrArg some z)
        · exact .inr (congrArg some z)
      | false => rw [hx] at h; exact ih h
  exact key _ h

/-- the block's context: N' its names (its own first, then those captured), entered at s2, H2, over the iterator's objects fp -/
def blk (X : Cx) (N' : List Str) (scope : Scope) (C : Addr) (s2 : Shared) (H2 : Hp) (fp : List Addr) : Cx :=
  { X with N := N', s₀ := s2, H₀ := H2, env := compEnvC scope (clOf scope X.env) C X.env, outer := X.stack, stack := X.stack, ex := fp, fn := fun _ => false, pn := [], xe := fun _ _ => False }

/-- closed facts of the text: the def's scope, the block's, names; ts own names, cap the captured ones' places in the def's names -/
def compOk (so si : Scope) (N N' : List Str) (ts : Nat) (cap : List Nat) : Bool :=
  decide (si.kind = .function) && si.names.all (fun y => y.2 != .cell) && si.names.all (fun y => y.2 != .local || si.names.lookup y.1 == some .local)
  && si.names.all (fun y => y.2 != .free || so.names.lookup y.1 == some .cell || so.names.lookup y.1 == some .free)
  && decide N'.Nodup && decide (N'.length = ts + cap.length)
  && (List.range cap.length).all (fun k => (N'[ts + k]? == (cap[k]?.bind fun j => N[j]?)) && (N'[ts + k]?.isSome) && (N'[ts + k]?.all fun x => so.names.lookup x != some .local && si.names.lookup x == some .free))
/-- the block's values at its entry -/
def capSt (ts : Nat) (cap : List Nat) (σ : St) : St := List.replicate ts none ++ cap.map fun j => (σ[j]?).join

structure CompS (X : Cx) (N' : List Str) (ts : Nat) (cap : List Nat) (scope : Scope) : Prop where
  kind : scope.kind = .function
  nocell : ∀ y ∈ scope.names, y.2 ≠ .cell
  names : ∀ y ∈ scope.names, y.2 = .local → scope.names.lookup y.1 = some .local
  free : ∀ y ∈ scope.names, y.2 = .free → X.env.kindOf y.1 = some .cell ∨ X.env.kindOf y.1 = some .free
  nd : N'.Nodup
  len : N'.length = ts + cap.length
  capd : ∀ k j, cap[k]? = some j → ∃ x, N'[ts + k]? = some x ∧ X.N[j]? = some x ∧ X.env.kindOf x ≠ some .local ∧ scope.names.lookup x = some .free

theorem lookup_mem {x : Str} {k : NameKind} : ∀ {l : List (Str × NameKind)}, l.lookup x = some k → (x, k) ∈ l
  | [], h => by simp at h
  | (n, j) :: l, h => by
    rw [List.lookup_cons] at h
    cases hx : x == n with
    | true =>
      rw [hx] at h
      have e : x = n := by simpa using hx
      have e' : j = k := Option.some.inj h
      subst e e'
      exact List.mem_cons_self
    | false => rw [hx] at h; exact List.mem_cons_of_mem _ (lookup_mem h)

theorem compS_of {X : Cx} {N' : List Str} {ts : Nat} {cap : List Nat} {scope : Scope} (h : compOk X.env.scope scope X.N N' ts cap = true) : CompS X N' ts cap scope := by
  unfold compOk at h
  simp only [Bool.and_eq_true] at h
  obtain ⟨⟨⟨⟨⟨⟨h1, h2⟩, h3⟩, h4⟩, h5⟩, h6⟩, h7⟩ := h
  refine ⟨of_decide_eq_true h1, fun y hy z => ?_, fun y hy z => ?_, fun y hy z => ?_, of_decide_eq_true h5, of_decide_eq_true h6, fun k j hk => ?_⟩
  · have q := List.all_eq_true.mp h2 y hy
    rw [z] at q; exact absurd q (by decide)
  · have q := List.all_eq_true.mp h3 y hy
    rw [z] at q
    simpa using q
  · have q := List.all_eq_true.mp h4 y hy
    rw [z] at q
    simpa [Env.kindOf] using q
  · have hlt : k < cap.length := (List.getElem?_eq_some_iff.mp hk).1
    have q := List.all_eq_true.mp h7 k (List.mem_range.mpr hlt)
    simp only [Bool.and_eq_true] at q
    obtain ⟨⟨q1, q2⟩, q3⟩ := q
    obtain ⟨x, hx⟩ := Option.isSome_iff_exists.mp q2
    rw [hx] at q1 q3
    rw [hk] at q1
    have e1 : some x = X.N[j]? := by simpa using q1
    have q3' : (X.env.scope.names.lookup x != some .local && scope.names.lookup x == some .free) = true := q3
    simp only [Bool.and_eq_true] at q3'
    refine ⟨x, hx, e1.symm, ?_, by simpa using q3'.2⟩
    have z := q3'.1
    intro e
    have e' : X.env.scope.names.lookup x = some .local := e
    rw [e'] at z
    exact absurd z (by decide)

section
variable {X : Cx} {pins : List (Addr × Obj)} {σ : St} {H : Hp} {s : Shared}

/-- the entry of the block -/
theorem inv_blk {N' : List Str} {ts : Nat} {cap : List Nat} {scope : Scope} {fp : List Addr} {h' : Heap} {t' : Nat} {m : Str → Option Value} {C : Addr} (S : CompS X N' ts cap scope) (I : Inv X pins σ H s) (hf : ∀ b ∈ fp, FpOk X pins H b)
    (ho : ∀ b ∈ fp, ∃ o, s.heap.get? b = some o) (hC : s.heap.objs.size ≤ C) (hn : h'.Ns C m) (k : ∀ b o, s.heap.get? b = some o → h'.get? b = some o) :
    Inv (blk X N' scope C s H fp) [] (capSt ts cap σ) H { s with heap := h', toks := t' } := by
  have sub : ∀ x c, (clOf scope X.env).lookup x = some c → X.env.cells.lookup x = some c := fun x c e => by
    obtain ⟨e1, e2⟩ := clOf_mem e
    obtain ⟨c', hc'⟩ := I.ok.has x (S.free _ e2 rfl)
    rw [hc'] at e1
    rw [hc', e1]; rfl
  have neC : ∀ b o, s.heap.get? b = some o → b ≠ C := fun b o e => Nat.ne_of_lt (Nat.lt_of_lt_of_le (Heap.lt_size e) hC)
  refine ⟨⟨I.ok.mod, ?_, I.ok.glob, I.ok.blt, hC, fun x y c e1 e2 => I.ok.inj x y c (sub x c e1) (sub y c e2), fun x hx => ?_, fun x c z _ => absurd z Bool.false_ne_true, I.ok.hd, I.ok.frames, .inl rfl, fun b hb => ?_, fun b o e => I.bs b o e, Nat.le_trans I.ok.bsz I.sz, fun b o e hb => ?_, fun b hb => ?_, I.stack, I.stkFree⟩,
    rfl, I.bare, Un.kept k, ⟨m, hn, fun i x v e1 e2 e3 => ?_⟩, fun x c e => ?_, I.hok.fresh hC, fun x c e => I.freeC x c (sub x c e), fun p hp => absurd (show p ∈ ([] : List (Addr × Obj)) from hp) (by simp), I.hok.kept k, ?_⟩
  · show (relabel scope X.env).kind = .function
    exact S.kind
  · exact clOf_has (relabel_free S.nocell hx)
  · obtain ⟨o, e⟩ := ho b hb
    refine ⟨neC b o e, fun x c ec => ?_⟩
    exact (hf b hb).2.2.2.2.1 x c (sub x c ec)
  · obtain ⟨e1, e2⟩ := I.bs b o e
    obtain ⟨f0, f1, f2, f3, f4, f5⟩ := hf b hb
    rcases f3 with z | z
    · exact I.ok.noex b o e z
    · exact absurd (Nat.lt_of_lt_of_le (Heap.lt_size (I.ok.bs b o e).1) z) (Nat.lt_irrefl _)
  · intro z
    obtain ⟨f0, f1, f2, f3, f4, f5⟩ := hf b hb
    rcases List.mem_cons.mp (I.stkSub b z) with q | q
    · exact f1 q
    · exact f2 q
  · -- the names' values
    have hlen : ¬ i < ts := fun hlt => by
      unfold capSt at e2
      rw [List.getElem?_append_left (by simpa using hlt), List.getElem?_replicate] at e2
      split at e2 <;> cases e2
    have e2' : (cap.map fun j => (σ[j]?).join)[i - ts]? = some (some v) := by
      unfold capSt at e2
      rw [List.getElem?_append_right (by simpa using hlen), List.length_replicate] at e2
      exact e2
    rw [List.getElem?_map] at e2'
    cases hc : cap[i - ts]? with
    | none => rw [hc] at e2'; cases e2'
    | some j =>
      rw [hc] at e2'
      have e3' : (σ[j]?).join = some v := Option.some.inj e2'
      have e4 : σ[j]? = some (some v) := by
        cases q : σ[j]? with
        | none => rw [q] at e3'; cases e3'
        | some o => rw [q] at e3'; exact congrArg some e3'
      obtain ⟨x', n1, n2, n3, n4⟩ := S.capd _ _ hc
      have ei : ts + (i - ts) = i := by omega
      rw [ei] at n1
      have ex : x = x' := by
        have e1' : N'[i]? = some x := e1
        rw [n1] at e1'; exact (Option.some.inj e1').symm
      subst ex
      obtain ⟨mX, hnX, hl⟩ := I.loc
      have vis : Vis X.env.scope x := by
        rcases S.free _ (lookup_mem n4) rfl with z | z
        · exact .inr (.inl z)
        · exact .inr (.inr z)
      obtain ⟨u, ru, lk⟩ := hl j x v n2 e4 vis
      refine ⟨u, ru, ?_⟩
      rcases lk with ⟨z, _⟩ | ⟨z, c, ec, hcell⟩
      · exact absurd z n3
      · obtain ⟨c', hc'⟩ := clOf_has (env := X.env) (lookup_mem n4)
        have := sub x c' hc'
        rw [ec] at this
        cases this
        refine .inr ⟨?_, c, hc', hcell.keeps k⟩
        exact relabel_lookup_free n4
  · obtain ⟨v, z⟩ := I.cell x c (sub x c e)
    exact ⟨v, z.keeps k⟩
  · show (capSt ts cap σ).length = N'.length
    unfold capSt
    rw [List.length_append, List.length_replicate, List.length_map, S.len]
end

/-! ### the list that is built: an untracked record -/
def AccAt (h : Heap) (D : Addr) (ys : List V) : Prop := ys.length ≤ sizeLine ∧ ∃ (its : List Value) (n : Nat), Vals ys its ∧ h.get? D = some { cls := .type "list", data := .seq its.toArray n }
theorem AccAt.keep {h h' : Heap} {D : Addr} {ys : List V} (a : AccAt h D ys) (k : ∀ o, h.get? D = some o → h'.get? D = some o) : AccAt h' D ys := by
  obtain ⟨z, its, n, r, e⟩ := a
  exact ⟨z, its, n, r, k _ e⟩

/-- a piece's reading: the items so far, the block's values, the heap -/
abbrev TC := List V → St → Hp → (List V → St → Hp → Prop) → Prop
def PIn (Y : Cx) (D : Addr) (m : Sem PySem.Fin → Sem PySem.Fin) (t : TC) : Prop :=
  ∀ (pins : List (Addr × Obj)) (s : Shared) (σ : St) (H : Hp) (ys : List V) (Q : List V → St → Hp → Prop) (k : Sem PySem.Fin) (R : PySem.Fin → Shared → Prop), Inv Y pins σ H s → FpOk Y pins H D → AccAt s.heap D ys → t ys σ H Q →
    (∀ s' ys' σ' H', Inv Y pins σ' H' s' → FpOk Y pins H' D → AccAt s'.heap D ys' → Q ys' σ' H' → wpAny (model Y.prog Y.w) Y.A k R (fun _ _ => False) s') → wpAny (model Y.prog Y.w) Y.A (m k) R (fun _ _ => False) s
/-- the tests of a clause -/
def testsOf (ifs : List Expr) (env : Env) : Sem Bool := forIn ifs true fun c r => if r = true then do let ok ← isTrue c env (eval c env); pure (ForInStep.yield ok) else pure (ForInStep.yield r)
def PTs (Y : Cx) (ifs : List Expr) (t : TT) : Prop :=
  ∀ (pins : List (Addr × Obj)) (s : Shared) (σ : St) (H : Hp) (Q : Bool → Hp → Prop), Inv Y pins σ H s → t σ H Q → wpAny (model Y.prog Y.w) Y.A (testsOf ifs Y.env) (TP Y pins σ Q) Y.xe s
def tTrue : TT := fun _ H Q => Q true H
section
variable {Y : Cx} {D : Addr}
theorem pts_nil : PTs Y [] tTrue := fun pins s σ H Q I h => wpAny_tests_nil ⟨H, I, h⟩
theorem pts_one {c : Expr} {t : TT} (hc : PT Y c t) : PTs Y [c] t := fun pins s σ H Q I h => wpAny_tests_one (hc pins s σ H Q I h)

def tEmit (te : TE) : TC := fun ys σ H Q => te σ H fun v H1 => ys.length < sizeLine ∧ Q (ys ++ [v]) σ H1

theorem AccAt.nocell {h : Heap} {ys : List V} (a : AccAt h D ys) : ∀ b ∈ [D], ∃ o, h.get? b = some o ∧ ∀ v, o.data ≠ .cell v := fun b hb => by
  have e : b = D := by simpa using hb
  subst e
  obtain ⟨z, its, n, r, e⟩ := a
  exact ⟨_, e, fun v z => by
    have z' : Data.seq its.toArray n = Data.cell v := z
    cases z'⟩

/-- pinned through a piece -/
theorem AccAt.through {h : Heap} {pins : List (Addr × Obj)} {σ' : St} {H' : Hp} {s' : Shared} {ys : List V} (a : AccAt h D ys) (I : Inv Y (pins ++ pinsAt [D] h) σ' H' s') : AccAt s'.heap D ys ∧ H' D = none := by
  obtain ⟨z, its, n, r, e⟩ := a
  have q := I.pin (D, _) (List.mem_append_right _ (List.mem_append_right _ (mem_pinsAt (List.mem_singleton.mpr rfl) e)))
  exact ⟨⟨z, its, n, r, q.1⟩, q.2.1⟩

theorem pin_emit {elt : Expr} {te : TE} (hx : Y.xe = fun _ _ => False) (he : PE Y elt te) :
    PIn Y D (fun k => (do let _ ← call (.builtin "list.append") [.ref D, ← eval elt Y.env]) >>= fun _ => k) (tEmit te) := by
  intro pins s σ H ys Q k R I f a h hk
  refine wpAny_bind (wpAny_mono (Q := fun _ s' => ∃ ys' σ' H', Inv Y pins σ' H' s' ∧ FpOk Y pins H' D ∧ AccAt s'.heap D ys' ∧ Q ys' σ' H') ?_ (fun _ s' ⟨ys', σ', H', q1, q2, q3, q4⟩ => hk s' ys' σ' H' q1 q2 q3 q4) fun _ _ z => z)
  have I' := I.pinned (fp := [D]) (fun b hb => by have e : b = D := by simpa using hb
                                                  subst e; exact f) a.nocell
  refine wpAny_bind (wpAny_mono (he _ s σ H _ I' h) (fun u s1 ⟨v, H1, I1, ru, hz, q⟩ => ?_) fun e s1 z => by rw [hx] at z; exact z)
  obtain ⟨a1, n1⟩ := a.through I1
  have f1 : FpOk Y pins H1 D := ⟨n1, f.2⟩
  obtain ⟨z, its, n, r, e⟩ := a1
  have hl := r.length
  refine wpAny_bind (call_meets F.slot_list_append ⟨_, e, rfl⟩ F.entry_list_append (F.args_list_append_2 _ _) (PySem.list_append D its.toArray n u (by rw [List.size_toArray]; omega)) ⟨e, wpAny_pure ?_⟩)
  have q2 := PySem.IsL.update e (·.push u)
  obtain ⟨f0, g1, g2, g3, g4, g5⟩ := f1
  have I2 : Inv Y pins σ H1 { s1 with heap := s1.heap.update D (Obj.mapSeq (·.push u)) } := I1.unpinned.turned (t' := s1.toks) (it := D) (fun b o hb eb => (Heap.get?_update_other s1.heap _ (Ne.symm hb)).trans eb) f0 g1 g3 g4 g5
  refine ⟨ys ++ [v], σ, H1, I2, ⟨f0, g1, g2, g3, g4, g5⟩, ⟨by rw [List.length_append, List.length_singleton]; omega, its ++ [u], (if ((its.toArray.push u).size == its.toArray.size) = true then n else n + 1), r.append (.cons ru .nil), ?_⟩, q⟩
  have e3 : its.toArray.push u = (its ++ [u]).toArray := by simp
  rw [← e3]
  exact q2

/-- what a turn does behind its tests, then k -/
def inner (elt : Expr) (gens : List Comprehension) (scope : Scope) (pos : Pos) (d : Nat) (acc : Value) (env : Env) (k : Sem PySem.Fin) : Sem PySem.Fin :=
  match gens[d + 1]? with
  | some g' => eval g'.iter env >>= fun x => standAt g'.iter.pos >>= fun _ => foldedSetIterable g'.iter env x >>= fun x => holding [x] (pyIter x) >>= fun itv =>
      runOwn (.compStart (.ListComp elt gens scope pos) (d + 1) itv acc env) env >>= fun _ => k
  | none => (do let _ ← call (.builtin "list.append") [acc, ← eval elt env]) >>= fun _ => k

set_option maxHeartbeats 400000 in
theorem compTurn_eq (elt tg iter : Expr) (ifs : List Expr) (gens : List Comprehension) (scope : Scope) (pos : Pos) (d : Nat) (it acc : Value) (env : Env) (hg : gens[d]? = some ⟨tg, iter, ifs, 0⟩) (h2 : ∀ g', gens[d + 1]? = some g' → g'.is_async = 0) :
    compTurn (.ListComp elt gens scope pos) d it acc env = (standAt iter.pos >>= fun _ => pyNext it >>= fun r => match r with
      | none => pure (.done .next)
      | some v => letOwnedTupleGo tg it v >>= fun _ => assign tg env v >>= fun _ => testsOf ifs env >>= fun ok =>
        if ok = true then inner elt gens scope pos d acc env (again (.compLoop (.ListComp elt gens scope pos) d it acc env)) else again (.compLoop (.ListComp elt gens scope pos) d it acc env)) := by
  unfold compTurn inner
  dsimp only
  rw [hg]
  generalize hn : gens[d + 1]? = o
  cases o with
  | none => rfl
  | some g' =>
    have e := h2 g' hn
    obtain ⟨t', i', f', a'⟩ := g'
    have e' : a' = 0 := e
    subst e'
    rfl

def tNestW (g : TG) (tt : TT) (ti : TC) (J : It) : TC := fun ys σ H Q => ∃ W : Nat → Nat → List V → St → Hp → Prop, (∃ m, W 0 m ys σ H) ∧ ∀ i m ys σ H, W i m ys σ H →
  (J.stop i H ∧ Q ys σ H) ∨ (J.go i H ∧ ∃ N : List V → St → Hp → Prop, (∀ ys' σ' H', N ys' σ' H' → ∃ m', m' < m ∧ W (i + 1) m' ys' σ' H') ∧
    ∀ x H', J.yld i H x H' → g x σ H' fun σ2 H2 => tt σ2 H2 fun b H3 => if b = true then ti ys σ2 H3 N else N ys σ2 H3)

theorem comp_loop {elt tg iter : Expr} {ifs : List Expr} {gens : List Comprehension} {scope : Scope} {pos : Pos} {d : Nat} {it : Addr} {fp : List Addr} {tn : Nat → Heap → Prop} {J : It} {g : TG} {tt : TT} {ti : TC} {pins : List (Addr × Obj)} {s : Shared} {σ : St} {H : Hp} {ys : List V} {Q : List V → St → Hp → Prop}
    (hx : Y.xe = fun _ _ => False) (hc : Y.calm = true) (hg : gens[d]? = some ⟨tg, iter, ifs, 0⟩) (T : Turn Y.prog Y.w Y.K tg J fp it tn) (hf : ∀ b ∈ fp, FpOk Y pins H b) (st : tn 0 s.heap) (hD : D ∉ fp)
    (h2 : ∀ g', gens[d + 1]? = some g' → g'.is_async = 0) (pg : PG Y tg g) (pt : PTs Y ifs tt) (pi : PIn Y D (inner elt gens scope pos d (.ref D) Y.env) ti)
    (I : Inv Y pins σ H s) (f : FpOk Y pins H D) (a : AccAt s.heap D ys) (h : tNestW g tt ti J ys σ H Q) :
    codeAny (model Y.prog Y.w) Y.A (.compLoop (.ListComp elt gens scope pos) d (.ref it) (.ref D) Y.env) (fun r s' => match r with
      | .ok _ => ∃ ys' σ' H', Inv Y pins σ' H' s' ∧ FpOk Y pins H' D ∧ AccAt s'.heap D ys' ∧ Q ys' σ' H'
      | .error _ => False) s := by
  obtain ⟨W, ⟨m0, w0⟩, turn⟩ := h
  have stat : ∀ {H' : Hp}, (∀ b ∈ fp, H' b = none) → ∀ b ∈ fp, FpOk Y pins H' b := fun hn b hb => ⟨hn b hb, (hf b hb).2⟩
  refine codeAny_loop rfl (fun n s' => ∃ i ys' σ' H', Inv Y pins σ' H' s' ∧ FpOk Y pins H' D ∧ AccAt s'.heap D ys' ∧ tn i s'.heap ∧ (∀ b ∈ fp, H' b = none) ∧ W i n ys' σ' H') (fun n s3 hI => ?_) m0 ⟨0, ys, σ, H, I, f, a, st, fun b hb => (hf b hb).1, w0⟩
  obtain ⟨i, ys3, σ3, H3, I3, f3, a3, st3, fr3, w3⟩ := hI
  show wpAny _ Y.A ((compTurn (.ListComp elt gens scope pos) d (.ref it) (.ref D) Y.env).onRaise (fun x => do noteFrame x Y.env; theTreesLotGoes x)) _ _ s3
  refine wpAny_noted (wpAny_mono (E := fun _ _ => False) ?_ (fun _ _ q => q) fun _ _ z => z.elim)
  rw [compTurn_eq elt tg iter ifs gens scope pos d (.ref it) (.ref D) Y.env hg h2]
  refine wpAny_bind (wpAny_standAt (wpAny_bind ?_))
  have aD : ∀ {h h' : Heap}, (∀ b o, b ∉ fp → h.get? b = some o → h'.get? b = some o) → ∀ {zs}, AccAt h D zs → AccAt h' D zs := fun k _ q => q.keep fun o e => k D o hD e
  have I3' := I3.pinned (fp := [D]) (fun b hb => by have e : b = D := by simpa using hb
                                                    subst e; exact f3) a3.nocell
  have stat' : ∀ b ∈ fp, FpOk Y (pins ++ pinsAt [D] s3.heap) H3 b := fun b hb => by
    obtain ⟨g0, g1, g2, g3, g4, g5⟩ := stat fr3 b hb
    refine ⟨g0, g1, g2, g3, g4, fun p hp => ?_⟩
    rcases List.mem_append.mp hp with z | z
    · exact g5 p (List.mem_append_left _ z)
    · rcases List.mem_append.mp z with z | z
      · exact g5 p (List.mem_append_right _ z)
      · intro q
        have e : p.1 = D := by simpa using (of_pinsAt z).1
        exact hD (by rw [← e, q]; exact hb)
  rcases turn i n ys3 σ3 H3 w3 with ⟨stop, qn⟩ | ⟨go, N, hN, step⟩
  · refine wpAny_mono (T.done Y rfl rfl rfl hc i _ s3 σ3 H3 (fun _ _ => False) I3' stat' st3 stop) (fun r s4 ⟨hr, I4⟩ => ?_) fun _ _ z => z
    subst hr
    obtain ⟨a4, n4⟩ := a3.through I4
    exact wpAny_pure ⟨ys3, σ3, H3, I4.unpinned, f3, a4, qn⟩
  · refine wpAny_mono (T.item Y rfl rfl rfl hc i _ s3 σ3 H3 (fun _ _ => False) I3' stat' st3 go) (fun r s4 ⟨u, hr, h4⟩ => ?_) fun _ _ z => z
    subst hr
    refine wpAny_bind (wpAny_mono h4 (fun _ s5 ⟨x, H5, I5, r5, y5, st5, fr5⟩ => ?_) fun _ _ z => z)
    obtain ⟨a5, n5⟩ := a3.through I5
    have f5 : FpOk Y pins H5 D := ⟨n5, f3.2⟩
    -- pin the iterator and the list
    have ho5 : ∀ b ∈ D :: fp, ∃ o, s5.heap.get? b = some o ∧ ∀ v, o.data ≠ .cell v := fun b hb => by
      rcases List.mem_cons.mp hb with e | hb
      · exact a5.nocell b (by simp [e])
      · exact T.obj _ _ st5 b hb
    have I5' := I5.unpinned.pinned (fp := D :: fp) (fun b hb => by
      rcases List.mem_cons.mp hb with e | hb
      · rw [e]; exact f5
      · exact stat fr5 b hb) ho5
    refine wpAny_bind (wpAny_mono (pg _ s5 σ3 H5 x u _ I5' r5 (step x H5 y5)) (fun _ s6 ⟨σ6, H6, I6, q6⟩ => ?_) fun _ _ z => by rw [hx] at z; exact z)
    refine wpAny_bind (wpAny_mono (pt _ s6 σ6 H6 _ I6 q6) (fun b s7 ⟨H7, I7, q7⟩ => ?_) fun _ _ z => by rw [hx] at z; exact z)
    -- behind the tests
    have pinD : ∀ {σ7 : St} {H7 : Hp} {s7 : Shared}, Inv Y (pins ++ pinsAt (D :: fp) s5.heap) σ7 H7 s7 → AccAt s7.heap D ys3 ∧ H7 D = none := fun {σ7 H7 s7} J => by
      obtain ⟨z, its, n, r, e⟩ := id a5
      have q := J.pin (D, _) (List.mem_append_right _ (List.mem_append_right _ (mem_pinsAt List.mem_cons_self e)))
      exact ⟨⟨z, its, n, r, q.1⟩, q.2.1⟩
    have pinF : ∀ {σ7 : St} {H7 : Hp} {s7 : Shared}, Inv Y (pins ++ pinsAt (D :: fp) s5.heap) σ7 H7 s7 → tn (i + 1) s7.heap ∧ ∀ b ∈ fp, H7 b = none := fun {σ7 H7 s7} J => by
      refine ⟨T.keep _ _ _ st5 fun b hb o e => (J.pin (b, o) (List.mem_append_right _ (List.mem_append_right _ (mem_pinsAt (List.mem_cons_of_mem _ hb) e)))).1, fun b hb => ?_⟩
      obtain ⟨o, e, dd⟩ := T.obj _ _ st5 b hb
      exact (J.pin (b, o) (List.mem_append_right _ (List.mem_append_right _ (mem_pinsAt (List.mem_cons_of_mem _ hb) e)))).2.1
    cases b with
    | false =>
      simp only [Bool.false_eq_true, if_false] at q7 ⊢
      obtain ⟨m', hm, w7⟩ := hN _ _ _ q7
      obtain ⟨a7, n7⟩ := pinD I7
      obtain ⟨t7, r7⟩ := pinF I7
      exact wpAny_pure ⟨rfl, m', hm, i + 1, ys3, σ6, H7, I7.unpinned, ⟨n7, f3.2⟩, a7, t7, r7, w7⟩
    | true =>
      simp only [if_true] at q7 ⊢
      obtain ⟨a7, n7⟩ := pinD I7
      obtain ⟨t7, r7⟩ := pinF I7
      have I7' := I7.unpinned.pinned (fp := fp) (stat r7) (T.obj _ _ t7)
      have f7 : FpOk Y (pins ++ pinsAt fp s7.heap) H7 D := by
        obtain ⟨g0, g1, g2, g3, g4, g5⟩ := f3
        refine ⟨n7, g1, g2, g3, g4, fun p hp => ?_⟩
        rcases List.mem_append.mp hp with z | z
        · exact g5 p (List.mem_append_left _ z)
        · rcases List.mem_append.mp z with z | z
          · exact g5 p (List.mem_append_right _ z)
          · intro q
            exact hD (by rw [← q]; exact (of_pinsAt z).1)
      refine pi _ s7 σ6 H7 ys3 N _ _ I7' f7 a7 q7 fun s8 ys8 σ8 H8 I8 f8 a8 q8 => ?_
      obtain ⟨m', hm, w8⟩ := hN _ _ _ q8
      refine wpAny_pure ⟨rfl, m', hm, i + 1, ys8, σ8, H8, I8.unpinned, ⟨f8.1, f3.2⟩, a8, T.keep _ _ _ t7 fun b hb o e => (I8.pin (b, o) (List.mem_append_right _ (List.mem_append_right _ (mem_pinsAt hb e)))).1, fun b hb => ?_, w8⟩
      obtain ⟨o, e, dd⟩ := T.obj _ _ t7 b hb
      exact (I8.pin (b, o) (List.mem_append_right _ (List.mem_append_right _ (mem_pinsAt hb e)))).2.1

theorem comp_start {elt tg iter : Expr} {ifs : List Expr} {gens : List Comprehension} {scope : Scope} {pos : Pos} {d : Nat} {it : Addr} {R : Result → Shared → Prop} {s : Shared} {A : Around} {prog : Program} {w : World} {env : Env} {acc : Value} {fp : List Addr} {tn : Nat → Heap → Prop} {J : It} {K : PySem.W.Frag}
    (hg : gens[d]? = some ⟨tg, iter, ifs, 0⟩) (T : Turn prog w K tg J fp it tn) {i : Nat} (st : tn i s.heap) (h : codeAny (model prog w) A (.compLoop (.ListComp elt gens scope pos) d (.ref it) acc env) R s) :
    codeAny (model prog w) A (.compStart (.ListComp elt gens scope pos) d (.ref it) acc env) R s := by
  refine codeAny_of_tree ?_
  show wpAny _ _ ((compStart (.ListComp elt gens scope pos) d (.ref it) acc env).onRaise (fun x => do noteFrame x env; standAt theWindowsPlace)) _ _ s
  refine wpAny_notedAt ?_
  have hg' : (clausesOf (.ListComp elt gens scope pos))[d]? = some ⟨tg, iter, ifs, 0⟩ := hg
  unfold compStart
  rw [hg']
  show wpAny _ _ (ask >>= _) _ _ s
  refine wpAny_bind (wpAny_askSetting (wpAny_ite ?_))
  split
  · first
      | exact wpAny_bind (wpAny_pure (wpAny_pure (And.intro rfl h)))
      | exact wpAny_pure (And.intro rfl h)
  · refine wpAny_bind (wpAny_rule ?_)
    show wpAny _ _ (standAt iter.pos >>= _) _ _ s
    exact wpAny_bind (wpAny_standAt (wpAny_bind (T.self A i s _ _ st (wpAny_pure (And.intro rfl h)))))

def tNest (wi : TI) (g : TG) (tt : TT) (ti : TC) : TC := fun ys σ H Q => wi σ H fun J H1 => tNestW g tt ti J ys σ H1 Q

end

/-! ### the comprehension as an expression, and stored at once -/
section
variable {X : Cx} {pins : List (Addr × Obj)} {σ : St} {H H' : Hp} {s s' : Shared}
/-- behind the block -/
theorem blk_exit {N' : List Str} {scope : Scope} {C D : Addr} {fp : List Addr} {σ' : St} {ys : List V} {pl : List (Addr × Obj)} {h' : Heap} (I : Inv X pins σ H s) (hf : ∀ b ∈ fp, FpOk X pins H b) (hC : s.heap.objs.size ≤ C) (hD : s.heap.objs.size ≤ D) (hDC : D ≠ C)
    (J : Inv (blk X N' scope C s H fp) pl σ' H' s') (n : H' D = none) (a : AccAt s'.heap D ys) (sb : Heap.SameBut C s'.heap h') : Inv X pins σ (upd H' D (.lst ys)) { s' with heap := h' } := by
  have neC : ∀ b o, s.heap.get? b = some o → b ≠ C := fun b o e => Nat.ne_of_lt (Nat.lt_of_lt_of_le (Heap.lt_size e) hC)
  have neD : ∀ b o, s.heap.get? b = some o → b ≠ D := fun b o e => Nat.ne_of_lt (Nat.lt_of_lt_of_le (Heap.lt_size e) hD)
  have neD' : ∀ b o, H b = some o → b ≠ D := fun b o e => Nat.ne_of_lt (Nat.lt_of_lt_of_le (I.hok.lt e) hD)
  have fC : H' C = none := J.free
  have u : Un (frs X.stack) fp H H' s.heap s'.heap := J.base
  refine I.call' (s' := { s' with heap := h' }) (ch := fp) J.os ⟨fun b o e nb hb hx => (sb.2 b (neC b o e)).trans (u.keep b o e nb hb hx), fun b o e nb hb hx => ?_, fun b o e nb hx => by rw [upd_ne (neD b o e)]; exact u.free b o e nb hx, fun b o e hx => ?_,
    fun b xs e => by rw [upd_ne (neD' b _ e)]; exact u.tups b xs e, fun b o xs e => by rw [upd_ne (neD' b _ e)]; exact u.frzs b o xs e, fun b ps e => by rw [upd_ne (neD' b _ e)]; exact u.tbls b ps e⟩ (fun b v e => ?_) J.bare fun b hb => ?_
  · obtain ⟨sl, q⟩ := u.slot b o e nb hb hx
    exact ⟨sl, (sb.2 b (neC b o e)).trans q⟩
  · obtain ⟨o', q⟩ := u.there b o e hx
    exact ⟨o', (sb.2 b (neC b o e)).trans q⟩
  · by_cases hb : b = D
    · subst hb
      rw [upd_same] at e
      cases e
      obtain ⟨z, its, k, r, q⟩ := a
      exact ⟨z, its, k, r, (sb.2 b hDC).trans q⟩
    · rw [upd_ne hb] at e
      refine (J.hok b v e).stay (fun c w hc q => (sb.2 c ?_).trans q) (fun c q => by rw [upd_ne (ne_of_none q n)]; exact q) fun c xs q => by rw [upd_ne (ne_of_none q n)]; exact q
      rcases hc with z | z
      · rw [z]; exact ne_of_none e fC
      · exact ne_of_none z fC
  · obtain ⟨f0, f1, f2, f3, f4, f5⟩ := hf b hb
    exact ⟨f3, f1, f4, f5⟩

theorem comp_block {elt tg iter : Expr} {ifs : List Expr} {rest : List Comprehension} {scope : Scope} {pos : Pos} {N' : List Str} {ts : Nat} {cap : List Nat} {it : Addr} {fp : List Addr} {tn : Nat → Heap → Prop} {J : It} {g : TG} {tt : TT} {ti : TC} {Q : List V → Hp → Prop} {E : Value → Shared → Prop} {RR : Value → Addr → Result → Shared → Prop}
    (S : CompS X N' ts cap scope) (hc : X.calm = true) (I : Inv X pins σ H s) (T : Turn X.prog X.w X.K tg J fp it tn) (st : tn 0 s.heap) (hf : ∀ b ∈ fp, FpOk X pins H b)
    (h2 : ∀ g', (Comprehension.mk tg iter ifs 0 :: rest)[0 + 1]? = some g' → g'.is_async = 0)
    (pg : ∀ C, PG (blk X N' scope C s H fp) tg g) (pt : ∀ C, PTs (blk X N' scope C s H fp) ifs tt)
    (pi : ∀ C D, PIn (blk X N' scope C s H fp) D (inner elt (⟨tg, iter, ifs, 0⟩ :: rest) scope pos 0 (.ref D) (blk X N' scope C s H fp).env) ti)
    (h : tNestW g tt ti J [] (capSt ts cap σ) H fun ys _ H2 => Q ys H2)
    (hRR : ∀ C D s' σ' H' ys fl, s.heap.objs.size ≤ C → s.heap.objs.size ≤ D → D ≠ C → Inv (blk X N' scope C s H fp) [] σ' H' s' → H' D = none → AccAt s'.heap D ys → Q ys H' → RR (.ref D) C (.ok fl) s') :
    wpAny (model X.prog X.w) X.A (newList []) (fun acc s₃ => wpAny (model X.prog X.w) X.A (newFunctionEnv scope X.env.globals (clOf scope X.env) [] X.env.qual none .none (some X.env)) (fun cenv s₄ =>
      codeAny (model X.prog X.w) X.A (.compStart (.ListComp elt (⟨tg, iter, ifs, 0⟩ :: rest) scope pos) 0 (.ref it) acc { cenv with scope := relabel scope X.env }) (RR acc cenv.locals) s₄) E s₃) E s := by
  refine wpAny_newObj_type (wpAny_newFunctionEnv S.nocell (by intro y hy; simp at hy) (fun h₁ hns₁ hsb₁ => ?_) S.kind)
  dsimp only at hns₁ hsb₁ ⊢
  generalize hH2 : s.heap.push { cls := .type "list", dict := none, data := .seq ([] : List Value).toArray } = h0 at hns₁ hsb₁ ⊢
  have hC : h0.objs.size = s.heap.objs.size + 1 := by rw [← hH2, Heap.size_push]
  have hDC : s.heap.objs.size ≠ h0.objs.size := by rw [hC]; exact Nat.ne_of_lt (Nat.lt_succ_self _)
  have hCle : s.heap.objs.size ≤ h0.objs.size := by rw [hC]; exact Nat.le_succ _
  have neC : ∀ b o, s.heap.get? b = some o → b ≠ h0.objs.size := fun b o e => Nat.ne_of_lt (Nat.lt_of_lt_of_le (Heap.lt_size e) hCle)
  have old : ∀ b o, s.heap.get? b = some o → h₁.get? b = some o := fun b o e => hsb₁.extBut b o (neC b o e) (Heap.get?_push_of_some _ (hH2 ▸ Heap.get?_push_of_some _ e))
  have hacc : h₁.get? s.heap.objs.size = some { cls := .type "list", data := .seq ([] : List Value).toArray 0 } := hsb₁.extBut _ _ hDC (Heap.get?_push_of_some _ (hH2 ▸ Heap.get?_push_size _ rfl))
  have ho : ∀ b ∈ fp, ∃ o, s.heap.get? b = some o := fun b hb => let ⟨o, e, _⟩ := T.obj _ _ st b hb; ⟨o, e⟩
  have I1 : Inv (blk X N' scope h0.objs.size s H fp) [] (capSt ts cap σ) H { s with heap := h₁, toks := s.toks + ([] : List (Str × Value)).length } := inv_blk S I hf ho hCle hns₁ old
  have fresh := I.hok.fresh (a := s.heap.objs.size) (Nat.le_refl _)
  have fpY : ∀ b ∈ fp, FpOk (blk X N' scope h0.objs.size s H fp) [] H b := fun b hb => by
    obtain ⟨f0, f1, f2, f3, f4, f5⟩ := hf b hb
    refine ⟨f0, (I1.ok.exf b hb).1, I1.ok.exfs b hb, .inl hb, (I1.ok.exf b hb).2, fun p hp => absurd (show p ∈ ([] : List (Addr × Obj)) from hp) (by simp)⟩
  have fD : FpOk (blk X N' scope h0.objs.size s H fp) [] H s.heap.objs.size := by
    refine ⟨fresh, hDC, fun z => ?_, .inr (Nat.le_refl _), fun x c e z => ?_, fun p hp => absurd (show p ∈ ([] : List (Addr × Obj)) from hp) (by simp)⟩
    · obtain ⟨_, o, ho', _⟩ := I.stack.mem z
      exact absurd (Heap.lt_size ho') (Nat.lt_irrefl _)
    · obtain ⟨e1, e2⟩ := clOf_mem e
      obtain ⟨c', hc'⟩ := I.ok.has x (S.free _ e2 rfl)
      obtain ⟨v, q⟩ := I.cell x c' hc'
      rw [hc'] at e1
      have e3 : c = c' := e1
      have l := q.lt
      rw [← e3, z] at l
      exact absurd l (Nat.lt_irrefl _)
  have aD : AccAt h₁ s.heap.objs.size [] := ⟨Nat.zero_le _, [], 0, .nil, hacc⟩
  have hDf : s.heap.objs.size ∉ fp := fun z => by obtain ⟨o, e⟩ := ho _ z; exact absurd (Heap.lt_size e) (Nat.lt_irrefl _)
  have st1 : tn 0 h₁ := T.keep _ _ _ st fun b _ o e => old b o e
  have run := comp_start (elt := elt) (gens := ⟨tg, iter, ifs, 0⟩ :: rest) (scope := scope) (pos := pos) (d := 0) rfl T st1
    (comp_loop (Y := blk X N' scope h0.objs.size s H fp) (D := s.heap.objs.size) (Q := fun ys _ H2 => Q ys H2) (elt := elt) (gens := ⟨tg, iter, ifs, 0⟩ :: rest) (scope := scope) (pos := pos) (d := 0) rfl hc rfl T fpY st1 hDf h2 (pg _) (pt _) (pi _ _) I1 fD aD h)
  refine codeAny_mono run fun r s' hr => ?_
  cases r with
  | error e => exact hr.elim
  | ok fl =>
    obtain ⟨ys', σ', H', q1, q2, q3, q4⟩ := hr
    exact hRR _ _ s' σ' H' ys' fl hCle (Nat.le_refl _) hDC q1 q2.1 q3 q4
end

/-- a comprehension: the first for's iterable is the def's, all else the block's -/
def tComp (wi : TI) (ts : Nat) (cap : List Nat) (g : TG) (tt : TT) (ti : TC) : TE := fun σ H Q => wi σ H fun J H1 => tNestW g tt ti J [] (capSt ts cap σ) H1 fun ys _ H2 => ∀ p, H2 p = none → Q (.ref p) (upd H2 p (.lst ys))
section
variable {X : Cx} {elt tg iter : Expr} {ifs : List Expr} {rest : List Comprehension} {scope : Scope} {pos : Pos} {wi : TI} {g : TG} {tt : TT} {ti : TC}
theorem pe_comp (N' : List Str) (ts : Nat) (cap : List Nat) (hi : PI X tg iter wi) (pg : ∀ C s H fp, PG (blk X N' scope C s H fp) tg g) (pt : ∀ C s H fp, PTs (blk X N' scope C s H fp) ifs tt)
    (pi : ∀ C s H fp D, PIn (blk X N' scope C s H fp) D (inner elt (⟨tg, iter, ifs, 0⟩ :: rest) scope pos 0 (.ref D) (blk X N' scope C s H fp).env) ti)
    (ok : compOk X.env.scope scope X.N N' ts cap = true := by rfl) (hc : X.calm = true := by rfl) (h2 : ∀ g', (Comprehension.mk tg iter ifs 0 :: rest)[0 + 1]? = some g' → g'.is_async = 0 := by (intro g' h; cases h <;> rfl))
    (hs : ∀ x, foldedSetIterable iter X.env x = pure x := by intro _; rfl) :
    PE X (.ListComp elt (⟨tg, iter, ifs, 0⟩ :: rest) scope pos) (tComp wi ts cap g tt ti) := by
  intro pins s σ H Q I h
  have S := compS_of ok
  rw [eval_ListComp]
  refine wpAny_comprehension_free (use := none) rfl hs (closureFor_eq fun y hy e => I.ok.has _ (S.free y hy e)) S.kind S.names (thn (hi pins s σ H _ I h) fun v s1 h1 => thn h1 fun itv s2 h2' => ?_)
  obtain ⟨it, fp, tn, J, H2, e, I2, T, st2, f2, q2⟩ := h2'
  subst e
  refine comp_block (RR := fun acc C => compPost (model X.prog X.w) X.A X.xe none _ acc C) S hc I2 T st2 f2 h2 (fun C => pg C _ _ _) (fun C => pt C _ _ _) (fun C D => pi C _ _ _ D) q2 ?_
  intro C D s' σ' H' ys fl hC hD hDC J' n a q
  obtain ⟨m, hn, _⟩ := J'.loc
  exact ⟨m, hn, fun h' sb => ⟨.ref D, _, blk_exit I2 f2 hC hD hDC J' n a sb, rfl, q D n⟩⟩

/-- x = [..], stored ahead of the block's names' going -/
theorem ps_setC (N' : List Str) (ts : Nat) (cap : List Nat) {i : Nat} {x : Str} {px spos : Pos} (hN : X.N.Nodup) (hix : X.N[i]? = some x) (hx : Loc X.env.scope x) (hi : PI X tg iter wi) (pg : ∀ C s H fp, PG (blk X N' scope C s H fp) tg g) (pt : ∀ C s H fp, PTs (blk X N' scope C s H fp) ifs tt)
    (pi : ∀ C s H fp D, PIn (blk X N' scope C s H fp) D (inner elt (⟨tg, iter, ifs, 0⟩ :: rest) scope pos 0 (.ref D) (blk X N' scope C s H fp).env) ti)
    (hsw : swapsWith (.ListComp elt (⟨tg, iter, ifs, 0⟩ :: rest) scope pos) (some (.Name x px)) spos.line X.env = pure true := by rfl)
    (ok : compOk X.env.scope scope X.N N' ts cap = true := by rfl) (hc : X.calm = true := by rfl) (h2 : ∀ g', (Comprehension.mk tg iter ifs 0 :: rest)[0 + 1]? = some g' → g'.is_async = 0 := by (intro g' h; cases h <;> rfl))
    (hs : ∀ x, foldedSetIterable iter X.env x = pure x := by intro _; rfl) (hfn : X.fn x = true ∨ X.env.scope.names.lookup x = some .local := by first | exact .inl rfl | exact .inr rfl | assumption) :
    PS X (.Assign [.Name x px] (.ListComp elt (⟨tg, iter, ifs, 0⟩ :: rest) scope pos) spos) (tAsg (tComp wi ts cap g tt ti) (gName i)) := by
  intro pins s σ H D I h
  have S := compS_of ok
  rw [exec_Assign_Name_used _ _ _ _ hsw]
  refine wpAny_bind (wpAny_standAt (wpAny_bind ?_))
  show wpAny _ X.A (do let _ ← comprehension (.ListComp elt (⟨tg, iter, ifs, 0⟩ :: rest) scope pos) scope X.env _ (newList []) false (eval iter X.env) (some (assign (.Name x px) X.env))) _ _ s
  refine wpAny_bind (wpAny_mono (wpAny_comprehension_free (use := some (assign (.Name x px) X.env)) (Q := fun _ s' => ∃ σ' H', Inv X pins σ' H' s' ∧ D.nx σ' H') rfl hs (closureFor_eq fun y hy e => I.ok.has _ (S.free y hy e)) S.kind S.names
    (thn (hi pins s σ H _ I h) fun v s1 h1 => thn h1 fun itv s2 h2' => ?_)) (fun _ s' hq => wpAny_pure (wpAny_pure hq)) fun _ _ e => e)
  obtain ⟨it, fp, tn, J, H2, e, I2, T, st2, f2, q2⟩ := h2'
  subst e
  refine comp_block (RR := fun acc C => compPost (model X.prog X.w) X.A X.xe (some (assign (.Name x px) X.env)) _ acc C) S hc I2 T st2 f2 h2 (fun C => pg C _ _ _) (fun C => pt C _ _ _) (fun C D => pi C _ _ _ D) q2 ?_
  intro C B s' σ' H' ys fl hC hB hBC J' n a q
  obtain ⟨m, hn, _⟩ := J'.loc
  have IX : Inv X pins σ (upd H' B (.lst ys)) s' := blk_exit I2 f2 hC hB hBC J' n a (Heap.SameBut.refl C s'.heap)
  have fC := I2.fpOk (H' := upd H' B (.lst ys)) (b := C) hC (by rw [upd_ne (Ne.symm hBC)]; exact J'.free)
  obtain ⟨f0, f1, f2', f3, f4, f5⟩ := fC
  show wpAny _ X.A (assign (.Name x px) X.env (.ref B)) _ _ s'
  refine wpAny_assign_Name (store_ok2 (v := .ref B) (u := .ref B) IX hN hix hx rfl (fun s'' I'' ⟨c, sb, hcc⟩ => ?_) hfn)
  have hCc : C ≠ c := by
    rcases hcc with z | z
    · rw [z]; exact f1
    · exact (f4 x c z).symm
  refine ⟨m, Heap.Ns.sameBut hn sb hCc, fun h' sb' => ?_⟩
  refine ⟨σ.set i (some (.ref B)), _, I''.turned (t' := s''.toks) (it := C) (fun b o hb e => (sb'.2 b hb).trans e) f0 f1 f3 f4 f5, q B n⟩
end
end L2
-- part PB
set_option Elab.async false
set_option linter.all false
set_option maxRecDepth 100000
namespace L2
open PySem PySem.Spec PyProof.Rows
section
variable {X : Cx}
/-! ### isinstance(x, c), c a built-in class -/
def tyN (t c : String) : Bool := t == c || (t == "bool" && c == "int")
theorem call_isinst {c : String} : CallR X (.builtin "isinstance") (fun xs H Q => ∃ x t b, xs = [x, .ty c] ∧ TyOf X.K H x t ∧ PySem.W.kitOne X.K t (.type c) = some b ∧ Q (.bl b) H) := by
  intro pins s σ H xs us Q I r h
  obtain ⟨x, t, b, rfl, ty, e, q⟩ := h
  obtain ⟨u, v, rfl, ru, rv⟩ := vals2 r
  cases rv
  exact isinst_ok I ru ty e fun tk => ⟨.bl b, H, I.tok tk, rfl, q⟩

/-! ### all(xs), xs a list of bools -/
theorem call_all (hc : X.calm = true := by rfl) : CallR X (.builtin "all") (fun xs H Q => ∃ (p : Addr) (bs : List Bool), xs = [.ref p] ∧ SqL X.K H p (bs.map V.bl) ∧ Q (.bl (bs.all id)) H) := by
  intro pins s σ H xs us Q I r h
  obtain ⟨p, bs, rfl, hp, q⟩ := h
  obtain ⟨u, rfl, ru⟩ := vals1 r
  cases ru
  obtain ⟨its, rv, pl, hz⟩ := I.list hp
  have hb : ∀ (i : Nat) (v : Value), its.toArray[i]? = some v → v = .bool (bs.getD i false) := fun i v e => by
    have e' : its[i]? = some v := by simpa using e
    have hl := rv.length
    have hi : i < its.length := (List.getElem?_eq_some_iff.mp e').1
    have hi' : i < (bs.map V.bl).length := by omega
    obtain ⟨u, hu, ru⟩ := rv.get (i := i) (x := (bs.map V.bl)[i]) (by simp)
    rw [e'] at hu
    cases hu
    rw [List.getElem_map] at ru
    have hi2 : i < bs.length := by simpa using hi'
    have e2 : bs.getD i false = bs[i] := by simp [List.getD_eq_getElem?_getD, hi2]
    rw [e2]
    exact ru
  refine call_all_walk (wpAny_pyIter_list pl.isList ?_)
  have hne : p ≠ s.heap.objs.size := Nat.ne_of_lt (by obtain ⟨o, n, e, _⟩ := pl; exact Heap.lt_size e)
  refine ⟨s.heap.objs.size, _, _, _, _, _, fun i => bs.getD i false, rfl, Walks.list (A := X.A.in1) (show X.A.in1.handled = none from I.ok.hd hc) s.heap.objs.size p hne its.toArray, ⟨⟨_, Heap.get?_push_size _ rfl, rfl, rfl⟩, pl.isList.at fun o e => Heap.get?_push_of_some _ e⟩, fun i v s' Q' E' hP hQ => ?_, fun h' tk hk => ?_⟩
  · rw [hb i v hP]
    exact wpAny_truthy_bool hQ
  · have e : (List.range its.toArray.size).all (fun i => bs.getD i false) = bs.all id := by
      have hl : its.toArray.size = bs.length := by have := rv.length; rw [List.length_map] at this; simpa using this.symm
      rw [hl, Bool.eq_iff_iff, List.all_eq_true, List.all_eq_true]
      constructor
      · intro h b hb
        obtain ⟨i, hi, e⟩ := List.mem_iff_getElem.mp hb
        have := h i (List.mem_range.mpr hi)
        rw [List.getD_eq_getElem?_getD, List.getElem?_eq_getElem hi, Option.getD_some, e] at this
        exact this
      · intro h i hi
        have hi' := List.mem_range.mp hi
        rw [List.getD_eq_getElem?_getD, List.getElem?_eq_getElem hi', Option.getD_some]
        exact h _ (List.getElem_mem hi')
    rw [e]
    refine ⟨.bl (bs.all id), H, I.kept fun b o eb => hk b o ?_ (Heap.get?_push_of_some _ eb), rfl, q⟩
    intro z
    have e1 : b = s.heap.objs.size := by simpa using z
    exact absurd (Heap.lt_size eb) (by rw [e1]; exact Nat.lt_irrefl _)

/-! ### set(xs), xs a list of ints; its len -/
def setN (ns : List Int) : Nat := (PyProof.Rows.firstMet (fun i => ns.getD i 0) ns.length).length
theorem call_set_ints (hc : X.calm = true := by rfl) : CallR X (.type "set") (fun xs H Q => ∃ (p : Addr) (ns : List Int), xs = [.ref p] ∧ SqL X.K H p (ns.map V.int) ∧ ns.length ≤ 1000 ∧ ∀ q S, H q = none → Q (.ref q) (upd H q (.set S (setN ns)))) := by
  intro pins s σ H xs us Q I r h
  obtain ⟨p, ns, rfl, hp, hn, q⟩ := h
  obtain ⟨u, rfl, ru⟩ := vals1 r
  cases ru
  obtain ⟨its, rv, pl, hz⟩ := I.list hp
  have hl := rv.length
  rw [List.length_map] at hl
  refine call_set_list (I.ok.hd hc) pl.isList (intsAre_of rv) (by rw [List.size_toArray, ← hl]; unfold scanBound; omega) fun h' tk hs hk => ?_
  have e : its.toArray.size = ns.length := by simp [hl]
  rw [e] at hs
  exact ⟨.ref s.heap.objs.size, _, I.laid (a := s.heap.objs.size) (o := .set _ (setN ns)) (fun b o eb => hk b o (Heap.lt_size eb) eb) (Nat.le_refl _) hs, rfl, q _ _ I.fresh⟩
theorem call_len_setN : CallR X (.builtin "len") (fun xs H Q => ∃ p S n, xs = [.ref p] ∧ H p = some (.set S n) ∧ Q (.int n) H) := by
  intro pins s σ H xs us Q I r h
  obtain ⟨p, S, n, rfl, hp, q⟩ := h
  obtain ⟨u, rfl, ru⟩ := vals1 r
  cases ru
  obtain ⟨o, es, ep, t, h1, h2, h3, h4, h5, h6, h7, h8⟩ := (show ObjOk X.prog X.w H s.heap p (.set S n) from I.hok p _ hp)
  refine call_len_set h1 h2 h3 h7 (by have : scanBound = 4096 := rfl; omega) ⟨.int n, H, I.tok _, ⟨_, by rw [h8]⟩, q⟩

/-! ### range(n) as a thing, list(range(n)) -/
theorem call_rangeV : CallR X (.type "range") (fun xs H Q => ∃ j : Int, xs = [.int j] ∧ ∀ q, H q = none → Q (.ref q) (upd H q (.rng 0 j))) := by
  intro pins s σ H xs us Q I r h
  obtain ⟨j, rfl, q⟩ := h
  obtain ⟨u, rfl, ru⟩ := vals1 r
  obtain ⟨t, rfl⟩ := ru
  refine call_range_1 ?_
  exact ⟨.ref s.heap.objs.size, _, I.laid (a := s.heap.objs.size) (o := .rng 0 j) (fun b o eb => Heap.get?_push_of_some _ eb) (Nat.le_refl _) ⟨_, _, _, Heap.get?_push_size _ rfl⟩, rfl, q _ I.fresh⟩
def upTo (n : Nat) : List V := (List.range n).map fun (i : Nat) => V.int (i : Int)
theorem itemsOf_upTo {acc : Array Value} {n : Nat} (h : ItemsOf (fun i v => ∃ t, v = .int (0 + i * 1) t) acc n) : Vals (upTo n) acc.toList := by
  obtain ⟨h1, h2⟩ := h
  obtain ⟨l⟩ := acc
  have h1 : l.length = n := h1
  have h2 : ∀ (j : Nat) (v : Value), l[j]? = some v → ∃ t, v = .int (j : Int) t := fun j v e => by
    obtain ⟨t, q⟩ := h2 j v (by simpa using e)
    exact ⟨t, by rw [q]; congr 1; omega⟩
  have key : ∀ (l : List Value) (k : Nat), (∀ (j : Nat) (v : Value), l[j]? = some v → ∃ t, v = .int ((k + j : Nat) : Int) t) → Vals ((List.range' k l.length).map fun (i : Nat) => V.int (i : Int)) l := by
    intro l
    induction l with
    | nil => intro k _; exact .nil
    | cons v l ih =>
      intro k h
      rw [List.length_cons, List.range'_succ, List.map_cons]
      obtain ⟨t, e⟩ := h 0 v rfl
      refine .cons ⟨t, by rw [e]; simp⟩ (ih (k + 1) fun j w q => ?_)
      obtain ⟨t', e'⟩ := h (j + 1) w (by simpa using q)
      exact ⟨t', by rw [e']; congr 1; omega⟩
  have := key l 0 (fun j v e => by simpa using h2 j v e)
  unfold upTo
  rw [← h1, List.range_eq_range']
  exact this
theorem call_list_rng (hc : X.calm = true := by rfl) : CallR X (.type "list") (fun xs H Q => ∃ (p : Addr) (j : Int), xs = [.ref p] ∧ H p = some (.rng 0 j) ∧ 0 ≤ j ∧ j ≤ 1000 ∧ ∀ q, H q = none → Q (.ref q) (upd H q (.lst (upTo j.toNat)))) := by
  intro pins s σ H xs us Q I r h
  obtain ⟨p, j, rfl, hp, h0, h1, q⟩ := h
  obtain ⟨u, rfl, ru⟩ := vals1 r
  cases ru
  obtain ⟨t, u, v, e⟩ := (show ObjOk X.prog X.w H s.heap p (.rng 0 j) from I.hok p _ hp)
  refine call_list_range (n := j.toNat) (I.ok.hd hc) e (small_one (by omega) (by omega) (by omega) (by omega)) (by rw [rangeSize_one]; split <;> omega) (by omega) fun h' tk acc c' hk hS hacc => ?_
  have r2 := itemsOf_upTo hacc
  have hlen : (upTo j.toNat).length ≤ sizeLine := by unfold upTo; rw [List.length_map, List.length_range, sizeLine_eq]; omega
  exact ⟨.ref s.heap.objs.size, _, I.laid (a := s.heap.objs.size) (o := .lst (upTo j.toNat)) hk (Nat.le_refl _) ⟨hlen, acc.toList, c', r2, by simpa using hS⟩, rfl, q _ I.fresh⟩

/-! ### () + t -/
theorem op_catT0 : OpR X (binaryOp .Add) (fun x y H Q => ∃ a b ys, x = .ref a ∧ y = .ref b ∧ SqT X.K H a [] ∧ SqT X.K H b ys ∧ Q (.ref b) H) := by
  intro pins s σ H x y u v Q I rx ry h
  obtain ⟨a, b, ys, rfl, rfl, ha, hb, q⟩ := h
  cases rx
  cases ry
  obtain ⟨its, rv, pl, hz⟩ := I.tuple ha
  obtain ⟨its2, rv2, pl2, hz2⟩ := I.tuple hb
  cases rv
  obtain ⟨⟨cls, dd, data, sl⟩, ho, hcl, n, hd⟩ := id pl
  obtain ⟨⟨cls2, dd2, data2, sl2⟩, ho2, hc2, n2, hd2⟩ := id pl2
  simp only at hcl hd hc2 hd2
  subst hcl hd hc2 hd2
  exact concat_meets ⟨_, ho, rfl⟩ ⟨_, ho2, rfl⟩ noFill_tuple_add seq_tuple_add PySem.F.slot_tuple_add PySem.F.entry_tuple_add (PySem.F.args_tuple_add_2 _ _)
      (tuple_addW0 a b #[] its2.toArray n n2 dd dd2 sl sl2 rfl) ⟨ho, ho2, ⟨.ref b, H, I, rfl, q⟩⟩
end
end L2
-- part PD0
set_option Elab.async false
set_option linter.all false
set_option maxRecDepth 100000
namespace L2
open PySem PySem.Spec PyProof.Rows
/-! ### comprehension loops in the forms one uses -/
theorem nest_tup {K : PySem.W.Frag} {a : Addr} {xs : List V} {g : TG} {tt : TT} {ti : TC} {ys : List V} {σ : St} {H : Hp} {Q : List V → St → Hp → Prop} (Pv : Nat → List V → St → Hp → Prop) (h0 : Pv 0 ys σ H)
    (hl : ∀ i ys σ H, i ≤ xs.length → Pv i ys σ H → SqT K H a xs)
    (hs : ∀ i x ys σ H, xs[i]? = some x → Pv i ys σ H → g x σ H fun σ2 H2 => tt σ2 H2 fun b H3 => if b = true then ti ys σ2 H3 (Pv (i + 1)) else Pv (i + 1) ys σ2 H3)
    (hd : ∀ ys σ H, Pv xs.length ys σ H → Q ys σ H) : tNestW g tt ti (Itt K a) ys σ H Q := by
  refine ⟨fun i m ys σ H => m = xs.length - i ∧ i ≤ xs.length ∧ Pv i ys σ H, ⟨xs.length, by simp, Nat.zero_le _, h0⟩, ?_⟩
  rintro i m ys σ H ⟨rfl, hi, p⟩
  have q := hl i ys σ H hi p
  by_cases hlt : i < xs.length
  · refine .inr ⟨⟨xs, xs[i], q, by simp [hlt]⟩, Pv (i + 1), fun ys' σ' H' p' => ⟨xs.length - (i + 1), by omega, rfl, hlt, p'⟩, fun x H' y => ?_⟩
    obtain ⟨e, y⟩ := y
    subst e
    exact hs i x ys σ _ (y xs q) p
  · have e : i = xs.length := by omega
    subst e
    exact .inl ⟨⟨xs, q, Nat.le_refl _⟩, hd ys σ H p⟩
theorem nest_list {K : PySem.W.Frag} {a : Addr} {xs : List V} {g : TG} {tt : TT} {ti : TC} {ys : List V} {σ : St} {H : Hp} {Q : List V → St → Hp → Prop} (Pv : Nat → List V → St → Hp → Prop) (h0 : Pv 0 ys σ H)
    (hl : ∀ i ys σ H, i ≤ xs.length → Pv i ys σ H → SqL K H a xs)
    (hs : ∀ i x ys σ H, xs[i]? = some x → Pv i ys σ H → g x σ H fun σ2 H2 => tt σ2 H2 fun b H3 => if b = true then ti ys σ2 H3 (Pv (i + 1)) else Pv (i + 1) ys σ2 H3)
    (hd : ∀ ys σ H, Pv xs.length ys σ H → Q ys σ H) : tNestW g tt ti (Itl K a) ys σ H Q := by
  refine ⟨fun i m ys σ H => m = xs.length - i ∧ i ≤ xs.length ∧ Pv i ys σ H, ⟨xs.length, by simp, Nat.zero_le _, h0⟩, ?_⟩
  rintro i m ys σ H ⟨rfl, hi, p⟩
  have q := hl i ys σ H hi p
  by_cases hlt : i < xs.length
  · refine .inr ⟨⟨xs, xs[i], q, by simp [hlt]⟩, Pv (i + 1), fun ys' σ' H' p' => ⟨xs.length - (i + 1), by omega, rfl, hlt, p'⟩, fun x H' y => ?_⟩
    obtain ⟨e, y⟩ := y
    subst e
    exact hs i x ys σ _ (y xs q) p
  · have e : i = xs.length := by omega
    subst e
    exact .inl ⟨⟨xs, q, Nat.le_refl _⟩, hd ys σ H p⟩
theorem nest_range {lo : Int} {n : Nat} {g : TG} {tt : TT} {ti : TC} {ys : List V} {σ : St} {H : Hp} {Q : List V → St → Hp → Prop} (Pv : Nat → List V → St → Hp → Prop) (h0 : Pv 0 ys σ H)
    (hs : ∀ i ys σ H, i < n → Pv i ys σ H → g (.int (lo + i)) σ H fun σ2 H2 => tt σ2 H2 fun b H3 => if b = true then ti ys σ2 H3 (Pv (i + 1)) else Pv (i + 1) ys σ2 H3)
    (hd : ∀ ys σ H, Pv n ys σ H → Q ys σ H) : tNestW g tt ti (Itr lo n) ys σ H Q := by
  refine ⟨fun i m ys σ H => m = n - i ∧ i ≤ n ∧ Pv i ys σ H, ⟨n, by simp, Nat.zero_le _, h0⟩, ?_⟩
  rintro i m ys σ H ⟨rfl, hi, p⟩
  by_cases hlt : i < n
  · refine .inr ⟨hlt, Pv (i + 1), fun ys' σ' H' p' => ⟨n - (i + 1), by omega, rfl, hlt, p'⟩, fun x H' y => ?_⟩
    obtain ⟨e, y⟩ := y
    subst e y
    exact hs i ys σ _ hlt p
  · have e : i = n := by omega
    subst e
    exact .inl ⟨Nat.le_refl _, hd ys σ H p⟩
/-- a block's own name as a target -/
theorem pb {X : Cx} {N' : List Str} {scope : Scope} {C : Addr} {s : Shared} {H : Hp} {fp : List Addr} (i : Nat) {x : Str} {pos : Pos} (hN : N'.Nodup := by decide +kernel) (hi : N'[i]? = some x := by rfl) (hx : (relabel scope X.env).names.lookup x = some .local := by rfl) :
    PG (blk X N' scope C s H fp) (.Name x pos) (gName i) := pg_name (X := blk X N' scope C s H fp) hN hi (.inl hx) (.inr hx)
/-! ### a def known by its promise -/
def Def (P : Program) (w : World) (K : PySem.W.Frag) (mg : Str → Option Value) (base : Heap) (k : Nat) (x : Str) (ps : List Str) (sp : Sp) : Prop :=
  ∃ f fd, FnOk P w K mg base CX0 k f fd ps sp ∧ mg x = some (.ref f) ∧ PySem.W.keepIn K (.ref f) = true ∧ Binds K fd ps []
section
variable {X : Cx} {k : Nat} {x : Str} {ps : List Str} {sp : Sp} {e : Expr} {es : List Expr} {t : TA} {p pos : Pos}
theorem pe_callD (d : Def X.prog X.w X.K X.mg X.base k x ps sp) (hr : Room k X.A) (ha : PA X (e :: es) t) (hg : Gl X x := by rfl) (hdb : (x == ("__debug__" : Str)) = false := by decide)
    (he : starEach (e :: es) X.env = (false, eval e X.env) :: starEach es X.env := by rfl) (hpl : (backTo pos (starEach es X.env)).any (·.1) = false := by rfl) :
    PE X (.Call (.Name x p) (e :: es) [] pos) (tCall sp [] E0 t) := by
  obtain ⟨f, fd, F, hm, hk, hb⟩ := d
  exact pe_call F hr hg hm hk hb .nil pass0 ha hdb he hpl
end
/-! ### plain things -/
def PlT (K : PySem.W.Frag) (H : Hp) (x : V) : Prop := ∃ T, TyOf K H x (.type T)
def whole : V → Bool
  | .int _ => true
  | _ => false
def wholeIn : V → Int → Int → Bool
  | .int i, a, b => decide (a ≤ i) && decide (i ≤ b)
  | _, _, _ => false
def tupH : Option HO → Option (List V)
  | some (.tup xs) => some xs
  | _ => none
def tupOf (H : Hp) : V → Option (List V)
  | .ref a => tupH (H a)
  | _ => none
theorem tupOf_r {H : Hp} {a : Addr} : tupOf H (.ref a) = tupH (H a) := rfl
theorem tupOf_ref {H : Hp} {a : Addr} {xs : List V} (h : H a = some (.tup xs)) : tupOf H (.ref a) = some xs := by rw [tupOf_r, h]; rfl
theorem tupH_some {o : Option HO} {xs : List V} (h : tupH o = some xs) : o = some (.tup xs) := by
  cases o with
  | none => cases h
  | some o => cases o <;> first | (cases h; rfl) | cases h
theorem tupOf_some {H : Hp} {x : V} {xs : List V} (h : tupOf H x = some xs) : ∃ a, x = .ref a ∧ H a = some (.tup xs) := by
  cases x with
  | ref a => exact ⟨a, rfl, tupH_some h⟩
  | _ => cases h
theorem Same.tupOf {H H' : Hp} (s : Same H H') {x : V} {xs : List V} (h : L2.tupOf H x = some xs) : L2.tupOf H' x = some xs := by
  obtain ⟨a, rfl, q⟩ := tupOf_some h
  exact tupOf_ref (s _ _ q)
theorem Same.plT {K : PySem.W.Frag} {H H' : Hp} (s : Same H H') {x : V} (h : PlT K H x) : PlT K H' x := by
  obtain ⟨T, t⟩ := h
  cases t with
  | non => exact ⟨_, .non⟩
  | bl y => exact ⟨_, .bl y⟩
  | int i => exact ⟨_, .int i⟩
  | str y => exact ⟨_, .str y⟩
  | flt y => exact ⟨_, .flt y⟩
  | lst e => exact ⟨_, .lst (s _ _ e)⟩
  | frz e => exact ⟨_, .frz (s _ _ e)⟩
  | tup e => exact ⟨_, .tup (s _ _ e)⟩
  | dK e => exact ⟨_, .dK (s _ _ e)⟩
  | dT e => exact ⟨_, .dT (s _ _ e)⟩
def isIntV : V → Bool
  | .int _ => true
  | .bl _ => true
  | _ => false
def isBlV : V → Bool
  | .bl _ => true
  | _ => false
theorem kit_int {K : PySem.W.Frag} {H : Hp} {x : V} {T : String} (t : TyOf K H x (.type T)) : PySem.W.kitOne K (.type T) (.type "int") = some (isIntV x) := by cases t <;> rfl
theorem kit_bool {K : PySem.W.Frag} {H : Hp} {x : V} {T : String} (t : TyOf K H x (.type T)) : PySem.W.kitOne K (.type T) (.type "bool") = some (isBlV x) := by cases t <;> rfl
theorem kit_tuple {K : PySem.W.Frag} {H : Hp} {x : V} {T : String} (t : TyOf K H x (.type T)) : PySem.W.kitOne K (.type T) (.type "tuple") = some (tupOf H x).isSome := by
  cases t with
  | tup e => rw [tupOf_ref e]; rfl
  | lst e => rw [tupOf_r, e]; rfl
  | frz e => rw [tupOf_r, e]; rfl
  | dK e => rw [tupOf_r, e]; rfl
  | dT e => rw [tupOf_r, e]; rfl
  | _ => rfl
theorem isInt_whole (x : V) : whole x = (isIntV x && !isBlV x) := by cases x <;> rfl
end L2
-- part PD1
set_option Elab.async false
set_option linter.all false
set_option maxRecDepth 100000
namespace L2
open PySem PySem.Spec PyProof.Rows
/-- three plain local names at once -/
def tPar3 (i j k : Nat) (ta : TA) : TS := fun D σ H => ta σ H fun vs H1 => ∃ v w z, vs = [v, w, z] ∧ D.nx (((σ.set k (some z)).set j (some w)).set i (some v)) H1
/-- all that was tracked is as it was, but what stands at p -/
def SameX (p : Addr) (H H' : Hp) : Prop := ∀ b o, H b = some o → b ≠ p → H' b = some o
theorem SameX.trans {p : Addr} {H H1 H2 : Hp} (a : SameX p H H1) (b : SameX p H1 H2) : SameX p H H2 := fun c o h n => b c o (a c o h n) n
theorem Same.x {p : Addr} {H H1 : Hp} (a : Same H H1) : SameX p H H1 := fun c o h _ => a c o h
theorem SameX.upd {p : Addr} {H : Hp} {o : HO} : SameX p H (L2.upd H p o) := fun b u h n => by rw [upd_ne n]; exact h
/-! ### xs == [] -/
/-! ### xs != [] -/
theorem op_neE {X : Cx} (hu : X.A.units < cLine) : OpR X (compareOp .NotEq) (fun x y H Q => ∃ (a b : Addr) (xs : List V), x = .ref a ∧ y = .ref b ∧ SqL X.K H a xs ∧ SqL X.K H b [] ∧ Q (.bl (!xs.isEmpty)) H) := by
  intro pins s σ H x y u v Q I rx ry h
  obtain ⟨a, b, xs, rfl, rfl, ha, hb, q⟩ := h
  cases rx
  cases ry
  obtain ⟨its, rv, pl, hz⟩ := I.list ha
  obtain ⟨its2, rv2, pl2, hz2⟩ := I.list hb
  cases rv2
  cases rv with
  | nil => exact SeqAt.RcNeAt.lists (e := fun _ => true) pl.isList pl2.isList rfl hu (fun j h1 h2 => absurd h2 (by simp)) _ _ _ _ ⟨.bl false, H, I, rfl, q⟩
  | cons r t => exact SeqAt.RcNeAt.lists_lengths pl.isList pl2.isList (by simp) hu _ _ _ _ ⟨.bl true, H, I, rfl, q⟩
end L2
-- part PE
set_option Elab.async false
set_option linter.all false
set_option maxRecDepth 100000
namespace L2
open PySem PySem.Spec PyProof.Rows
/-! ### enumerate(t), t a tuple -/
section
variable {prog : Program} {w : World} {A : Around} {E : Value → Shared → Prop} {s : Shared}
theorem nextT_item {j t : Addr} {i : Nat} {its : Array Value} {x : Value} {Q : Value → Shared → Prop} (h1 : s.heap.IsTupleIter j t i) (h2 : s.heap.IsTuple t its) (hx : its[i]? = some x)
    (k : ∀ h', h'.IsTupleIter j t (i + 1) → Heap.SameBut j s.heap h' → Q x { s with heap := h' }) : wpAny (model prog w) A (Builtin.SmallTypes.nextOf (.ref j)) Q E s := by
  obtain ⟨o, eo, co, dO⟩ := id h1
  obtain ⟨ot, et, _, nt, dt⟩ := h2
  unfold Builtin.SmallTypes.nextOf
  refine wpAny_bind (wpAny_callSpecial?_slot (name := Str.ofString "__next__") h1.typeIs F.slot_tuple_iterator_next (wpAny_call_entry F.slot_tuple_iterator_next h1.typeIs F.entry_tuple_iterator_next ?_ (F.args_tuple_iterator_next_1 _)))
  show wpAny _ _ (field (.ref j) 0 >>= _) _ _ s
  refine wpAny_bind (wpAny_field eo dO (x := .ref t) rfl ?_)
  show wpAny _ _ (if (Value.ref t == Value.none) = true then _ else _) _ _ s
  rw [if_neg (show ¬ ((Value.ref t == Value.none) = true) from Bool.false_ne_true)]
  show wpAny _ _ (field (.ref j) 1 >>= _) _ _ s
  refine wpAny_bind (wpAny_field eo dO (x := .int i 0) rfl ?_)
  show wpAny _ _ (seqItems? (.ref t) >>= _) _ _ s
  refine wpAny_bind (wpAny_seqItems et dt ?_)
  simp only [Int.toNat_natCast, hx]
  refine wpAny_bind (wpAny_setField eo dO (by simp) (wpAny_pure ⟨x, rfl, wpAny_pure (k _ ⟨_, Heap.get?_update_self _ eo (Obj.isFreed_of_fields (Obj.data_mapFields dO _)), (Obj.cls_mapFields ..).trans co, ?_⟩ (Heap.SameBut.update ..))⟩))
  rw [Obj.data_mapFields dO]
  simp [rawInt]
theorem nextT_end {j t : Addr} {i : Nat} {its : Array Value} {Q : Value → Shared → Prop} (hh : A.handled = none) (h1 : s.heap.IsTupleIter j t i) (h2 : s.heap.IsTuple t its) (hx : its[i]? = none)
    (k : ∀ h' e, Heap.ExtBut j s.heap h' → (∃ o, h'.get? e = some o ∧ o.cls = .type "StopIteration") → E (.ref e) { s with heap := h' }) : wpAny (model prog w) A (Builtin.SmallTypes.nextOf (.ref j)) Q E s := by
  obtain ⟨o, eo, co, dO⟩ := id h1
  obtain ⟨ot, et, _, nt, dt⟩ := h2
  unfold Builtin.SmallTypes.nextOf
  refine wpAny_bind (wpAny_callSpecial?_slot (name := Str.ofString "__next__") h1.typeIs F.slot_tuple_iterator_next (wpAny_call_entry F.slot_tuple_iterator_next h1.typeIs F.entry_tuple_iterator_next ?_ (F.args_tuple_iterator_next_1 _)))
  show wpAny _ _ (field (.ref j) 0 >>= _) _ _ s
  refine wpAny_bind (wpAny_field eo dO (x := .ref t) rfl ?_)
  show wpAny _ _ (if (Value.ref t == Value.none) = true then _ else _) _ _ s
  rw [if_neg (show ¬ ((Value.ref t == Value.none) = true) from Bool.false_ne_true)]
  show wpAny _ _ (field (.ref j) 1 >>= _) _ _ s
  refine wpAny_bind (wpAny_field eo dO (x := .int i 0) rfl ?_)
  show wpAny _ _ (seqItems? (.ref t) >>= _) _ _ s
  refine wpAny_bind (wpAny_seqItems et dt ?_)
  simp only [Int.toNat_natCast, hx]
  refine wpAny_bind (wpAny_rule (wpAny_bind (wpAny_setField eo dO (by simp) ?_)))
  show wpAny _ _ (newExc (.type "StopIteration") [] >>= _) _ _ _
  refine wpAny_bind ?_
  simp only [newExc, newTuple]
  refine wpAny_bind (wpAny_newObj_type ?_ (by size_fits))
  refine wpAny_bind (m := firstArgMember _ _) (wpAny_of_eq (a := Value.none) (by first | rfl | (simp only [firstArgMember]; rfl)) (wpAny_newObj_type ?_ (by size_fits)))
  simp only [raiseNew]
  refine wpAny_bind (wpAny_handled ?_)
  first | rw [show A.in1.handled = none from hh] | rw [hh]
  exact wpAny_bind (wpAny_pure (wpAny_throw (k _ _ (((Heap.SameBut.update ..).extBut.push _).push _) ⟨_, Heap.get?_push_size _ rfl, rfl⟩)))
end
theorem drawsT {prog : Program} {w : World} {A : Around} (hh : A.handled = none) (j t : Addr) (hne : t ≠ j) (its : Array Value) :
    Draws prog w A j [j, t] its.size (fun i v => its[i]? = some v) (fun i h => h.IsTupleIter j t i ∧ h.IsTuple t its) where
  live := fun _ _ st => let ⟨o, ho, _⟩ := st.1; ⟨o, ho⟩
  frame := fun _ _ _ st hk => ⟨st.1.at fun o e => hk j (by simp) o e, st.2.at fun o e => hk t (by simp) o e⟩
  item := fun i s Q E hi st hQ => nextT_item st.1 st.2 (x := its[i]) (by simp [hi]) fun h' a b => hQ _ h' s.toks (by simp [hi]) ⟨a, st.2.extBut b.extBut hne⟩ b
  done := fun s Q E st hE => nextT_end hh st.1 st.2 (by simp) hE
section
variable {prog : Program} {w : World} {A : Around} {E : Value → Shared → Prop} {s : Shared}
theorem enum_newT (l : Addr) (its : Array Value) (n : Nat) (dct : Option Addr) (sl : Array (Option Value)) :
    Meets (Builtin.«enumerate.__new__» ⟨[.type "enumerate", .ref l], []⟩) (fun _ R s => s.heap.get? l = some { cls := .type "tuple", dict := dct, data := .seq its n, slots := sl } ∧
      R (.ok (.ret (.ref (s.heap.push { cls := .type "tuple_iterator", data := .fields #[.ref l, .int 0 0] }).objs.size)))
        { s with heap := (s.heap.push { cls := .type "tuple_iterator", data := .fields #[.ref l, .int 0 0] }).push { cls := .type "enumerate", data := .fields #[.none, .bool false, .ref s.heap.objs.size, rawInt 0, .none, .none] } }) :=
  .of_wp fun prog w A R s h => by
    obtain ⟨hp, g, d, tk, os⟩ := s
    obtain ⟨hl, h⟩ := h
    have hsub := sub_enumerate
    have hL : Heap.IsTuple (Shared.heap ⟨hp, g, d, tk, os⟩) l its := ⟨_, hl, rfl, n, rfl⟩
    wp_walk using AutoSeq1.wpAny_loadPart' hl
    refine wpAny_stack_any fun st => wpAny_pure ?_
    split
    · rename_i c _ _ _ _ _
      cases (c == Value.type "enumerate") <;> (wp_walk using AutoSeq1.wpAny_loadPart' hl, wpAny_pyIter_tuple hL; exact ⟨_, rfl, h⟩)
    · wp_walk using AutoSeq1.wpAny_loadPart' hl, wpAny_pyIter_tuple hL
      exact ⟨_, rfl, h⟩
theorem call_enumT {l : Addr} {its : Array Value} {Q : Value → Shared → Prop} (hL : s.heap.IsTuple l its)
    (h : ∀ h', IsEnum h' (s.heap.objs.size + 1) s.heap.objs.size 0 .none → h'.IsTupleIter s.heap.objs.size l 0 → (∀ b o, s.heap.get? b = some o → h'.get? b = some o) → Q (.ref (s.heap.objs.size + 1)) { s with heap := h' }) :
    wpAny (model prog w) A (call (.type "enumerate") [.ref l]) Q E s := by
  obtain ⟨⟨c, dct, dt, sl⟩, hl, hc, n, hd⟩ := hL
  replace hc : c = .type "tuple" := hc
  replace hd : dt = .seq its n := hd
  subst hc hd
  refine callType_new F.called_enumerate (by decide) (F.typeCall_enumerate_1 _) (F.newCall_enumerate_1 _) (fun obj => F.args_object_init_2 obj _) F.entry_enumerate_new (enum_newT l its n dct sl) ⟨hl, ?_⟩
  have hz : (s.heap.push { cls := .type "tuple_iterator", data := .fields #[.ref l, .int 0 0] }).objs.size = s.heap.objs.size + 1 := Heap.size_push ..
  show _ ∧ _
  rw [hz]
  have he : IsEnum ((s.heap.push { cls := .type "tuple_iterator", data := .fields #[.ref l, .int 0 0] }).push { cls := .type "enumerate", data := .fields #[.none, .bool false, .ref s.heap.objs.size, rawInt 0, .none, .none] }) (s.heap.objs.size + 1) s.heap.objs.size 0 .none := by
    have q := Heap.get?_push_size (s.heap.push { cls := .type "tuple_iterator", data := .fields #[.ref l, .int 0 0] }) (o := { cls := .type "enumerate", data := .fields #[.none, .bool false, .ref s.heap.objs.size, rawInt 0, .none, .none] }) rfl
    rw [hz] at q
    exact q
  exact ⟨⟨_, he, rfl⟩, h _ he ⟨_, Heap.get?_push_of_some _ (Heap.get?_push_size _ rfl), rfl, rfl⟩ fun b o x => Heap.get?_push_of_some _ (Heap.get?_push_of_some _ x)⟩
end
/-- the pairs (i, item), each a new tuple -/
def Ite (K : PySem.W.Frag) (t : Addr) : It :=
  ⟨fun i H => ∃ xs x, SqT K H t xs ∧ xs[i]? = some x, fun i H x H' => ∃ (T : Addr) (y : V), x = .ref T ∧ H T = none ∧ H' = upd H T (.par [.int (i : Int), y]) ∧ ∀ xs, SqT K H t xs → xs[i]? = some y, fun i H => ∃ xs, SqT K H t xs ∧ xs.length = i⟩
theorem turn_enum {P : Program} {w : World} {K : PySem.W.Frag} {elts : List Expr} {kk : Nat} {pos : Pos} (t e j : Addr) (hej : e ≠ j) (hte : t ≠ e) (htj : t ≠ j) :
    Turn P w K (.Tuple elts kk pos) (Ite K t) [e, j] e (fun i h => (∃ old, IsEnum h e j i old) ∧ h.IsTupleIter j t i) where
  mem := by simp
  obj := fun i h st b hb => by
    obtain ⟨⟨old, he⟩, o, ho, hc, hd⟩ := st
    rcases List.mem_cons.mp hb with rfl | hb
    · exact ⟨_, he, fun v z => by cases z⟩
    · rw [List.mem_singleton.mp hb]
      exact ⟨o, ho, fun v z => by rw [hd] at z; cases z⟩
  keep := fun i h h' st k => ⟨let ⟨old, he⟩ := st.1; ⟨old, k e (by simp) _ he⟩, st.2.at fun o q => k j (by simp) o q⟩
  item := by
    intro X hP hw hK hc i pins s σ H E I hf st hg
    subst hP hw hK
    obtain ⟨xs, x, hq, hx⟩ := hg
    obtain ⟨its, rv, p, hz⟩ := I.tuple hq
    obtain ⟨u, hu, ru⟩ := rv.get hx
    have hl := rv.length
    have hil : i < its.toArray.size := by
      have := (List.getElem?_eq_some_iff.mp hu).1
      simpa using this
    have W := WalksT.enumerateD (prog := X.prog) (w := X.w) (A := X.A) (drawsT (A := X.A.in1) (show X.A.in1.handled = none from I.ok.hd hc) j t htj its.toArray) e hej (by simp [hej, hte.symm]) (by simp)
    have hT : s.heap.IsTuple t its.toArray := p
    refine W.item i s _ _ hil ⟨st.1, st.2, hT⟩ fun T vals h' tk hP hTs hTup hmid hk => ⟨_, rfl, W.go elts kk pos i T _ _ _ hmid fun h'' st'' hk'' => ?_⟩
    obtain ⟨tk2, x2, hx2, rfl⟩ := hP
    have hx2' : its[i]? = some x2 := by simpa using hx2
    rw [hu] at hx2'
    cases hx2'
    have hTn : H T = none := I.hok.fresh hTs
    have both : ∀ b o, b ∉ [e, j] → s.heap.get? b = some o → h''.get? b = some o := fun b o hb q => hk'' b o hb (hk b o hb q)
    have hTw : T ∉ [e, j] := W.apart _ _ _ hmid
    have hTT : h''.IsTuple T #[.int i tk2, u] := hTup.at fun o q => hk'' T o hTw q
    have neT : ∀ b o, s.heap.get? b = some o → b ≠ T := fun b o q => Nat.ne_of_lt (Nat.lt_of_lt_of_le (Heap.lt_size q) hTs)
    have neT' : ∀ b o, H b = some o → b ≠ T := fun b o q => ne_of_none q hTn
    have trk : ∀ b o, H b = some o → b ∉ [e, j] := fun b o q z => by
      have := (hf b z).1
      rw [this] at q; cases q
    refine ⟨.ref T, upd H T (.par [.int (i : Int), x]), ?_, rfl, ⟨T, x, rfl, hTn, rfl, fun ys hy => by rw [I.tuple_inj hy hq]; exact hx⟩, ⟨st''.1, st''.2.1⟩, fun b hb => ?_⟩
    · refine (show Inv X pins σ (upd H T (.par [.int (i : Int), x])) { s with heap := h'', toks := tk } from ?_)
      refine I.call (g' := s.gens) (d' := s.drawn) (t' := tk) (h' := h'') (ch := [e, j]) ⟨fun b o q _ _ hx => both b o hx q, fun b o q _ _ hx => ⟨o.slots, both b o hx q⟩, fun b o q n hx => by rw [upd_ne (neT b o q)]; exact n, fun b o q hx => ⟨o, both b o hx q⟩,
        fun b ys q => by rw [upd_ne (neT' b _ q)]; exact q, fun b o u q => by rw [upd_ne (neT' b _ q)]; exact q, fun b ps q => ⟨#[], by rw [upd_ne (neT' b _ q), q]; simp⟩⟩ (fun b v q => ?_) I.bare fun b hb => ?_
      · by_cases hb : b = T
        · subst hb
          rw [upd_same] at q
          cases q
          exact ⟨by show 2 ≤ sizeLine; decide, [.int i tk2, u], .cons ⟨tk2, rfl⟩ (.cons ru .nil), hTT⟩
        · rw [upd_ne hb] at q
          refine (I.hok b v q).stay (fun c z hc' q' => both c z ?_ q') (fun c q' => by rw [upd_ne (neT' c _ q')]; exact q') fun c ys q' => by rw [upd_ne (neT' c _ q')]; exact q'
          rcases hc' with z' | z'
          · rw [z']; exact trk b v q
          · exact trk c _ z'
      · obtain ⟨f0, f1, f2, f3, f4, f5⟩ := hf b hb
        exact ⟨f3, f1, f4, f5⟩
    · rw [upd_ne (fun z => hTw (by rw [← z]; exact hb))]
      exact (hf b hb).1
  done := by
    intro X hP hw hK hc i pins s σ H E I hf st hg
    subst hP hw hK
    obtain ⟨xs, hq, hx⟩ := hg
    obtain ⟨its, rv, p, hz⟩ := I.tuple hq
    have hl := rv.length
    have W := WalksT.enumerateD (prog := X.prog) (w := X.w) (A := X.A) (drawsT (A := X.A.in1) (show X.A.in1.handled = none from I.ok.hd hc) j t htj its.toArray) e hej (by simp [hej, hte.symm]) (by simp)
    have hn : i = its.toArray.size := by rw [List.size_toArray]; omega
    have hT : s.heap.IsTuple t its.toArray := p
    rw [hn] at st
    refine W.done s _ _ ⟨st.1, st.2, hT⟩ fun h' tk hk => ⟨rfl, ?_⟩
    have trk : ∀ b o, H b = some o → b ∉ [e, j] := fun b o q z => by
      have := (hf b z).1
      rw [this] at q; cases q
    refine I.call (g' := s.gens) (d' := s.drawn) (t' := tk) (h' := h') (ch := [e, j]) ⟨fun b o q _ _ hx => hk b o hx q, fun b o q _ _ hx => ⟨o.slots, hk b o hx q⟩, fun b o q n hx => n, fun b o q hx => ⟨o, hk b o hx q⟩, fun b ys q => q, fun b o u q => q, fun b ps q => ⟨#[], by rw [q]; simp⟩⟩ (fun b v q => ?_) I.bare fun b hb => ?_
    · refine (I.hok b v q).stay (fun c z hc' q' => hk c z ?_ q') (fun _ q' => q') fun _ _ q' => q'
      rcases hc' with z' | z'
      · rw [z']; exact trk b v q
      · exact trk c _ z'
    · obtain ⟨f0, f1, f2, f3, f4, f5⟩ := hf b hb
      exact ⟨f3, f1, f4, f5⟩
  self := fun A i s Q E st h => let ⟨old, he⟩ := st.1; wpAny_pyIter_enum he h
section
variable {X : Cx} {elts : List Expr} {kk : Nat} {tp : Pos}
def iEnum (K : PySem.W.Frag) (ta : TA) : TI := fun σ H R => ta σ H fun vs H1 => ∃ t, vs = [.ref t] ∧ (∃ xs, SqT K H1 t xs) ∧ R (Ite K t) H1
theorem pi_enum {a : Expr} {ta : TA} {p pos : Pos} (hg : Gl X "enumerate") (hm : X.mg "enumerate" = none) (ha : PA X [a] ta) (hs : starEach [a] X.env = [(false, eval a X.env)] := by rfl) : PI X (.Tuple elts kk tp) (.Call (.Name "enumerate" p) [a] [] pos) (iEnum X.K ta) := by
  intro pins s σ H R I h
  refine Call_ (ld_blt I hg hm boot_enumerate (PyProof.Rows.callWith_type1 (thn (ha pos pins s σ H _ I h) fun us s1 ⟨vs, H1, I1, r1, q1⟩ => ?_) hs rfl))
  obtain ⟨t, e, ⟨xs, hq⟩, q⟩ := q1
  subst e
  obtain ⟨u, rfl, ru⟩ := vals1 r1
  cases ru
  obtain ⟨its, rv, pl, hz⟩ := I1.tuple hq
  have hT : s1.heap.IsTuple t its.toArray := pl
  have ht : t < s1.heap.objs.size := by obtain ⟨o, ho, _⟩ := hT; exact Heap.lt_size ho
  refine call_enumT hT fun h' he hj hk => wpAny_pyIter_enum he ?_
  have I2 : Inv X pins σ H1 { s1 with heap := h' } := I1.kept (t' := s1.toks) hk
  refine ⟨s1.heap.objs.size + 1, [s1.heap.objs.size + 1, s1.heap.objs.size], _, _, H1, rfl, I2, turn_enum t _ _ (Nat.succ_ne_self _) (Nat.ne_of_lt (Nat.lt_succ_of_lt ht)) (Nat.ne_of_lt ht), ⟨⟨_, he⟩, hj⟩, fun b hb => ?_, q⟩
  have hbs : s1.heap.objs.size ≤ b := by
    rcases List.mem_cons.mp hb with z | z
    · rw [z]; exact Nat.le_succ _
    · rw [List.mem_singleton.mp z]; exact Nat.le_refl _
  exact I1.fpOk hbs (I1.hok.fresh hbs)
end
theorem nest_enum {K : PySem.W.Frag} {a : Addr} {xs : List V} {g : TG} {tt : TT} {ti : TC} {ys : List V} {σ : St} {H : Hp} {Q : List V → St → Hp → Prop} (Pv : Nat → List V → St → Hp → Prop) (h0 : Pv 0 ys σ H)
    (hl : ∀ i ys σ H, i ≤ xs.length → Pv i ys σ H → SqT K H a xs)
    (hs : ∀ i x T ys σ H, xs[i]? = some x → H T = none → Pv i ys σ H → g (.ref T) σ (upd H T (.par [.int (i : Int), x])) fun σ2 H2 => tt σ2 H2 fun b H3 => if b = true then ti ys σ2 H3 (Pv (i + 1)) else Pv (i + 1) ys σ2 H3)
    (hd : ∀ ys σ H, Pv xs.length ys σ H → Q ys σ H) : tNestW g tt ti (Ite K a) ys σ H Q := by
  refine ⟨fun i m ys σ H => m = xs.length - i ∧ i ≤ xs.length ∧ Pv i ys σ H, ⟨xs.length, by simp, Nat.zero_le _, h0⟩, ?_⟩
  rintro i m ys σ H ⟨rfl, hi, p⟩
  have q := hl i ys σ H hi p
  by_cases hlt : i < xs.length
  · refine .inr ⟨⟨xs, xs[i], q, by simp [hlt]⟩, Pv (i + 1), fun ys' σ' H' p' => ⟨xs.length - (i + 1), by omega, rfl, hlt, p'⟩, fun x H' y => ?_⟩
    obtain ⟨T, z, e1, e2, e3, e4⟩ := y
    subst e1 e3
    exact hs i z T ys σ H (e4 xs q) e2 p
  · have e : i = xs.length := by omega
    subst e
    exact .inl ⟨⟨xs, q, rfl⟩, hd ys σ H p⟩
end L2
-- part PX
set_option Elab.async false
set_option linter.all false
set_option maxRecDepth 100000
namespace L2
open PySem PySem.Spec PyProof.Rows

/-! ### exceptions of own classes in flight -/
/-- an exception at e, of the class at C, that left a call: outer the callers' frames, H and s at the call, H' and s' now -/
structure Fl (P : Program) (w : World) (outer : List Env) (H : Hp) (s : Shared) (e C : Addr) (H' : Hp) (s' : Shared) : Prop where
  os : s'.os = s.os
  bare : AllBare s'.gens
  un : Un (frs outer) [] H H' s.heap s'.heap
  hok : HOk P w H' s'.heap
  fly : ∃ B a0, Heap.FlyingW B outer e (.ref C) a0 s'.heap ∧ (∀ b o, s.heap.get? b = some o → b ∉ frs outer → ∃ u, B.get? b = some u) ∧ ∀ b o, H' b = some o → ∃ u, B.get? b = some u
/-- the way an exception lies behind a call: some class, as wished -/
def CXR (P : Program) (w : World) : CXT := fun outer H s E ev s' => ∃ e C H', ev = .ref e ∧ Fl P w outer H s e C H' s' ∧ E (.ref e) (some C) H'

section
variable {P : Program} {w : World} {base : Heap} {env : Env} {outer : List Env} {s0 s1 s2 : Shared} {H0 H1 H2 : Hp} {e C L : Addr} {A : Around}
/-- what stays when only slots are written, and what B holds -/
theorem hok_stays {B h1 h2 : Heap} {H : Hp} (x : HOk P w H h1) (cov : ∀ b o, H b = some o → ∃ u, B.get? b = some u) (k1 : B.StaysIn h1) (k2 : B.StaysIn h2) : HOk P w H h2 := fun a o ha =>
  (x a o ha).stay (fun b u hb hq => by
    have : ∃ u', B.get? b = some u' := by
      rcases hb with rfl | hb
      · exact cov _ _ ha
      · exact cov _ _ hb
    obtain ⟨u', hu⟩ := this
    have e1 := k1 b u' hu
    rw [hq] at e1
    cases e1
    exact k2 b _ hu) (fun _ q => q) fun _ _ q => q

/-- a state behind a call, seen from the def's own entry, when the heap h' differs by slots and by what B does not hold -/
theorem un_stays {B h' : Heap} (u0 : Un (frs outer) [] H0 H1 s0.heap s1.heap) (u1 : Un (frs (env :: outer)) [] H1 H2 s1.heap s2.heap) (hf : env.frame = some L) (ab : s0.heap.objs.size ≤ L) (fu : s0.heap.FunFrames base outer) (fz : ∀ b ∈ frs outer, H0 b = none)
    (cov : ∀ b o, s1.heap.get? b = some o → b ∉ frs (env :: outer) → ∃ u, B.get? b = some u) (k1 : B.StaysIn s2.heap) (k2 : B.StaysIn h') (up : s2.heap.UpToSlots h') : Un (frs outer) [] H0 H2 s0.heap h' := by
  have hmem : ∀ b, b ∈ frs (env :: outer) ↔ b = L ∨ b ∈ frs outer := fun b => by
    show b ∈ (env :: outer).filterMap (·.frame) ↔ _
    rw [List.filterMap_cons_some (f := fun (x : Env) => x.frame) (a := env) (b := L) hf, List.mem_cons]
    exact Iff.rfl
  have out : ∀ b o, s0.heap.get? b = some o → b ∉ frs outer → b ∉ frs (env :: outer) := fun b o hb hn hm => by
    rcases (hmem b).mp hm with q | q
    · rw [q] at hb
      exact absurd (Nat.lt_of_lt_of_le (Heap.lt_size hb) ab) (Nat.lt_irrefl _)
    · exact hn q
  have keepB : ∀ b o u, s2.heap.get? b = some o → B.get? b = some u → h'.get? b = some o := fun b o u hb hu => by
    have e1 := k1 b u hu
    rw [hb] at e1
    cases e1
    exact k2 b _ hu
  have slotF : ∀ b o, s0.heap.get? b = some o → b ∈ frs outer → ∃ sl, h'.get? b = some { o with slots := sl } := fun b o hb hm => by
    obtain ⟨_, o', ho', nf⟩ := fu.mem hm
    rw [hb] at ho'
    cases ho'
    obtain ⟨sl1, e1⟩ := u0.slot b o hb (fz b hm) hm (by simp)
    have n1 := u0.free b o hb (fz b hm) (by simp)
    obtain ⟨sl2, e2⟩ := u1.slot b _ e1 n1 ((hmem b).mpr (.inr hm)) (by simp)
    obtain ⟨sl3, e3⟩ := up b _ e2 nf
    exact ⟨sl3, e3⟩
  refine ⟨fun b o hb hn hnf _ => ?_, fun b o hb hn hm _ => slotF b o hb hm, fun b o hb hn hx => ?_, fun b o hb _ => ?_, fun b xs hb => u1.tups b xs (u0.tups b xs hb), fun b o u hb => u1.frzs b o u (u0.frzs b o u hb), fun b ps hb => ?_⟩
  · have e1 := u0.keep b o hb hn hnf (by simp)
    have n1 := u0.free b o hb hn (by simp)
    have hb' := out b o hb hnf
    have e2 := u1.keep b o e1 n1 hb' (by simp)
    obtain ⟨u, hu⟩ := cov b o e1 hb'
    exact keepB b o u e2 hu
  · obtain ⟨o1, e1⟩ := u0.there b o hb (by simp)
    have n1 := u0.free b o hb hn (by simp)
    exact u1.free b o1 e1 n1 (by simp)
  · by_cases hm : b ∈ frs outer
    · obtain ⟨sl, q⟩ := slotF b o hb hm
      exact ⟨_, q⟩
    · obtain ⟨o1, e1⟩ := u0.there b o hb (by simp)
      obtain ⟨u, hu⟩ := cov b o1 e1 (out b o hb hm)
      exact ⟨u, k2 b u hu⟩
  · obtain ⟨m1, q1⟩ := u0.tbls b ps hb
    obtain ⟨m2, q2⟩ := u1.tbls b _ q1
    exact ⟨m1 ++ m2, by rw [q2, Array.append_assoc]⟩
end

/-- an exception of a callee leaves this def's frame too -/
theorem passR {P : Program} {w : World} {K : PySem.W.Frag} {mg : Str → Option Value} {base : Heap} {N : List Str} {qual : Str} {scope : Scope} {f : Addr} {cd : Value} {A : Around} {outer : List Env} {s : Shared} {H : Hp} {E : XK} :
    Passes (CXR P w) (cxOf (CXR P w) P w K mg base N qual scope f cd A outer s H E) E := by
  intro pins σ H1 s1 ev s2 I h
  obtain ⟨e, C, H', rfl, F, hE⟩ := h
  obtain ⟨B, a0, fl, cov, covT⟩ := F.fly
  refine wpAny_leaves_onW (L := s.heap.objs.size) I.ok.frames rfl fl fun h' fl' up => ?_
  refine ⟨e, C, H', rfl, ⟨F.os.trans I.os, F.bare, un_stays (base := base) (L := s.heap.objs.size) I.base F.un rfl (Nat.le_refl _) I.ok.funs I.ok.frf cov fl.1 fl'.1 up, hok_stays F.hok covT fl.1 fl'.1, B, a0, fl', fun b o hb hn => ?_, covT⟩, hE⟩
  obtain ⟨o1, e1⟩ := I.base.there b o hb (by simp [cxOf])
  refine cov b o1 e1 fun hm => ?_
  have hm' : b ∈ (envOfC qual scope s.heap.objs.size f cd :: outer).filterMap (·.frame) := hm
  rw [List.filterMap_cons_some (f := fun (x : Env) => x.frame) (a := envOfC qual scope s.heap.objs.size f cd) (b := s.heap.objs.size) rfl] at hm'
  rcases List.mem_cons.mp hm' with q | q
  · rw [q] at hb
    exact absurd (Heap.lt_size hb) (Nat.lt_irrefl _)
  · exact hn q

/-- what stands of an own exception class in the written part -/
theorem exc_obj {K : PySem.W.Frag} {h : Heap} {C : Addr} {bmB : List Value} {newId : String} (X : K.In h) (q : PySem.W.excIn K C bmB newId = true) :
    ∃ bm N nm qn bs hdct sn sub ab col dd k0 k1 k2 k3 k5 mN, h.get? C = some (excClassObj nm qn C N bs bm hdct sn sub ab col dd k0 k1 k2 k3 k5 newId) ∧ h.Ns N mN ∧ mN "__init__" = none ∧ OwnTail h bmB bm := by
  unfold PySem.W.excIn at q
  split at q
  · rename_i dd cd sl lk
    split at q
    · rename_i c2 bm j0 j1 j2 j3 nn j5 em es
      rw [Bool.and_eq_true, Bool.and_eq_true, Bool.and_eq_true, Bool.and_eq_true, Bool.and_eq_true] at q
      obtain ⟨⟨⟨⟨⟨q1, q2⟩, q3⟩, q4⟩, q5⟩, q6⟩ := q
      have z1 := beq_iff_eq.mp q1
      have z2 := beq_iff_eq.mp q2
      have z6 := beq_iff_eq.mp q6
      subst z1 z2
      have ob := X _ _ lk
      have z3 : cd.hasDel = false := by revert q3; cases cd.hasDel <;> simp
      have zs : sl = #[j0, j1, j2, j3, some (.builtin nn), j5] := by
        apply Array.toList_inj.mp
        rw [es]
      refine ⟨bm, cd.ns, cd.name, cd.qualname, cd.bases, cd.hasDict, cd.slotNames, cd.subclasses, cd.abstract, cd.collection, dd, j0, j1, j2, j3, j5, h.nsMap cd.ns, ?_, .of_isNs (PySem.W.isNs_of_in X q5), PySem.W.nsMap_none_of_in X q5 z6, PySem.W.tail_of_in X q4⟩
      rw [ob, zs]
      obtain ⟨a1, a2, a3, a4, a5, a6, a7, a8, a9, a10, a11⟩ := cd
      cases em
      cases z3
      rfl
    · cases q
  · cases q

/-- raise X(e, ..): the arguments, then the wish of an exception of this class -/
def tRaise (C : Addr) (E : XK) (ta : TA) : TS := fun _ σ H => ta σ H fun vs H1 => vs.length ≤ sizeLine ∧ ∀ e, E (.ref e) (some C) H1
/-- a new exception leaves the def -/
theorem made_leaves {P : Program} {w : World} {K : PySem.W.Frag} {mg : Str → Option Value} {base : Heap} {N : List Str} {qual : Str} {scope : Scope} {f : Addr} {cd : Value} {A : Around} {outer : List Env} {s s1 : Shared} {H H1 : Hp} {E : XK}
    {pins : List (Addr × Obj)} {σ : St} {h' : Heap} {e C : Addr} {vs : List Value} (I : Inv (cxOf (CXR P w) P w K mg base N qual scope f cd A outer s H E) pins σ H1 s1) (mk : Heap.MadeExcOf s1.heap h' e (.ref C) vs) (hE : E (.ref e) (some C) H1) :
    (cxOf (CXR P w) P w K mg base N qual scope f cd A outer s H E).xe (.ref e) { s1 with heap := h' } := by
  have hin : ∀ env ∈ (envOfC qual scope s.heap.objs.size f cd :: outer), ∀ b, env.frame = some b → b ∈ frs (envOfC qual scope s.heap.objs.size f cd :: outer) := fun env he b hb => List.mem_filterMap.mpr ⟨env, he, hb⟩
  have st := I.stack
  refine wpAny_leaves_madeW (L := s.heap.objs.size) (base := PySem.W.hideAll s1.heap (frs (envOfC qual scope s.heap.objs.size f cd :: outer))) (h := s1.heap) I.ok.frames rfl (fun b o q => PySem.W.of_hideAll _ q) (PySem.W.funFrames_hide st hin) mk fun h2 t fl tp _ up => ?_
  have cov : ∀ b o, s1.heap.get? b = some o → b ∉ frs (envOfC qual scope s.heap.objs.size f cd :: outer) → ∃ u, (PySem.W.hideAll s1.heap (frs (envOfC qual scope s.heap.objs.size f cd :: outer))).get? b = some u := fun b o hb hn => ⟨o, PySem.W.hideAll_get _ hb hn⟩
  have covT : ∀ b o, H1 b = some o → ∃ u, (PySem.W.hideAll s1.heap (frs (envOfC qual scope s.heap.objs.size f cd :: outer))).get? b = some u := fun b o hb => by
    have hl := I.hok.lt hb
    have hx : ∃ u, s1.heap.get? b = some u := by
      have ok := I.hok b o hb
      cases o with
      | lst xs => obtain ⟨_, _, _, _, q⟩ := ok; exact ⟨_, q⟩
      | tup xs => obtain ⟨_, _, _, ⟨ob, q, _⟩, _⟩ := ok; exact ⟨_, q⟩
      | par xs => obtain ⟨_, _, _, ob, q, _⟩ := ok; exact ⟨_, q⟩
      | dK kvs => obtain ⟨_, _, _, _, ob, _, _, q, _⟩ := ok; exact ⟨_, q⟩
      | dT kvs => obtain ⟨_, _, _, _, ob, _, _, q, _⟩ := ok; exact ⟨_, q⟩
      | set S n => obtain ⟨ob, _, _, _, q, _⟩ := ok; exact ⟨_, q⟩
      | ins C dx fs => obtain ⟨_, _, _, q, _⟩ := ok; exact ⟨_, q⟩
      | own y => exact ok
      | xd fs => obtain ⟨_, ⟨_, _, _, q, _⟩, _⟩ := ok; exact ⟨_, q⟩
      | rng lo hi => obtain ⟨_, _, _, q⟩ := ok; exact ⟨_, q⟩
      | frz ob u => exact ⟨_, ok.1⟩
      | tbl ps => exact ⟨_, (show s1.heap.get? b = some _ from ok)⟩
      | met f y => exact ⟨_, (show s1.heap.get? b = some _ from ok)⟩
      | ext φ => exact ok.2.1
    obtain ⟨u, hu⟩ := hx
    exact cov b u hu fun hm => by
      have := I.stkFree b hm
      rw [this] at hb
      cases hb
  have k1 : Heap.StaysIn (PySem.W.hideAll s1.heap (frs (envOfC qual scope s.heap.objs.size f cd :: outer))) h' := fun b o q => mk.keeps b o (PySem.W.of_hideAll _ q)
  refine ⟨e, C, H1, rfl, ⟨I.os, I.bare, un_stays (s1 := s1) (s2 := { s1 with heap := h' }) (base := base) (L := s.heap.objs.size) I.base (Un.kept mk.keeps) rfl (Nat.le_refl _) I.ok.funs I.ok.frf cov k1 fl.1 up, hok_stays (I.hok.kept mk.keeps) covT k1 fl.1, _, _, fl, fun b o hb hn => ?_, covT⟩, hE⟩
  obtain ⟨o1, e1⟩ := I.base.there b o hb (by simp [cxOf])
  refine cov b o1 e1 fun hm => ?_
  have hm' : b ∈ (envOfC qual scope s.heap.objs.size f cd :: outer).filterMap (·.frame) := hm
  rw [List.filterMap_cons_some (f := fun (x : Env) => x.frame) (a := envOfC qual scope s.heap.objs.size f cd) (b := s.heap.objs.size) rfl] at hm'
  rcases List.mem_cons.mp hm' with q | q
  · rw [q] at hb
    exact absurd (Heap.lt_size hb) (Nat.lt_irrefl _)
  · exact hn q

theorem ps_raise {P : Program} {w : World} {K : PySem.W.Frag} {mg : Str → Option Value} {base : Heap} {N : List Str} {qual : Str} {scope : Scope} {f : Addr} {cd : Value} {A : Around} {outer : List Env} {s : Shared} {H : Hp} {E : XK} {x : Str} {C : Addr} {B newId initId : String} {bmB : List Value}
    {e₀ : Expr} {rest : List Expr} {np cpos pos : Pos} {ta : TA} (FB : ExcBaseFacts B newId initId bmB) (hmg : mg x = some (.ref C)) (hex : PySem.W.excIn K C bmB newId = true) (hg : Gl (cxOf (CXR P w) P w K mg base N qual scope f cd A outer s H E) x)
    (ha : PA (cxOf (CXR P w) P w K mg base N qual scope f cd A outer s H E) (e₀ :: rest) ta)
    (he : starEach (e₀ :: rest) (envOfC qual scope s.heap.objs.size f cd) = (false, eval e₀ (envOfC qual scope s.heap.objs.size f cd)) :: starEach rest (envOfC qual scope s.heap.objs.size f cd) := by rfl)
    (hpl : (backTo cpos (starEach rest (envOfC qual scope s.heap.objs.size f cd))).any (·.1) = false := by rfl) (hd : (x == ("__debug__" : Str)) = false := by decide) :
    PS (cxOf (CXR P w) P w K mg base N qual scope f cd A outer s H E) (.Raise (some (.Call (.Name x np) (e₀ :: rest) [] cpos)) none pos) (tRaise C E ta) := by
  intro pins s1 σ H1 D I h
  obtain ⟨bm, Nn, nm, qn, bs, hdct, sn, sub, ab, col, dd, k0, k1, k2, k3, k5, mN, hC, hN, hni, T⟩ := exc_obj I.mod.kin hex
  refine wpAny_Raise_call_subT (C := C) (nm := nm) (q := qn) (N := Nn) (bs := bs) (bm := bm) (hdct := hdct) (sn := sn) (sub := sub) (ab := ab) (col := col) (dd := dd) (k0 := k0) (k1 := k1) (k2 := k2) (k3 := k3) (k5 := k5)
    FB (mN := mN) (T.hasType FB.hasBase) (I.ok.hd rfl) ?_ hni (ld_glob I hg hmg ⟨rfl, ?_⟩ hd)
  · show (backTo cpos (starEach (e₀ :: rest) (envOfC qual scope s.heap.objs.size f cd))).any (·.1) = false
    rw [he]
    show (false || (backTo cpos (starEach rest (envOfC qual scope s.heap.objs.size f cd))).any (·.1)) = false
    rw [hpl]
    rfl
  · have q := ha cpos pins s1 σ H1 _ I h
    show wpAny _ _ (evalArgs (.ref C) true (backTo cpos (starEach (e₀ :: rest) (envOfC qual scope s.heap.objs.size f cd))) []) _ _ _
    have q' : wpAny (model P w) (A.deeper (envOfC qual scope s.heap.objs.size f cd)) (spliced (backTo cpos (starEach (e₀ :: rest) (envOfC qual scope s.heap.objs.size f cd)))) _ _ s1 := q
    rw [he] at q' ⊢
    refine Calls.evalArgs_plain (wpAny_mono q' (fun us s2 h2 => ?_) fun _ _ y => y)
    obtain ⟨vs, H2, I2, r, hz, hE⟩ := h2
    refine ⟨rfl, by rw [← r.length]; exact hz, I2.bk _ _ hC, hN.keeps I2.bk, T.keeps I2.bk, fun h' e mk => ?_⟩
    exact made_leaves I2 mk (hE e)
end L2
-- part PY
set_option Elab.async false
set_option linter.all false
set_option maxRecDepth 100000
namespace L2
open PySem PySem.Spec PyProof.Rows
section
variable {X : Cx}
/-- f'text{n}': a text, then a small int -/
def tFs (ta tb : TE) : TE := fun σ H Q => ta σ H fun v H1 => ∃ x, v = .str x ∧ (Str.empty ++ x).length ≤ sizeLine ∧ tb σ H1 fun u H2 => ∃ n : Int, u = .int n ∧ n.natAbs.log2 < 1920 ∧ (Str.empty ++ x ++ (Str.ofString (toString n))).length ≤ sizeLine ∧ ∀ z, Q (.str z) H2
theorem pe_fstr {a b : Expr} {ta tb : TE} {p pos : Pos} (ha : PE X a ta) (hb : PE X b tb) : PE X (.JoinedStr [a, .FormattedValue b (-1) none p] pos) (tFs ta tb) := by
  intro pins s σ H Q I h
  refine JoinedStr_many (joinParts_cons (wpAny_mono (ha pins s σ H _ I h) (fun u s1 h1 => ?_) fun _ _ y => y))
  obtain ⟨v, H1, I1, r1, x, rfl, hz, h2⟩ := h1
  obtain ⟨t, rfl⟩ := r1
  refine ⟨hz, joinParts_cons (FormattedValue_plain (wpAny_mono (hb pins s1 σ H1 _ I1 h2) (fun u s2 h3 => ?_) fun _ _ y => y))⟩
  obtain ⟨v, H2, I2, r2, n, rfl, hn, hz2, q⟩ := h3
  obtain ⟨t2, rfl⟩ := r2
  refine formatField_int_small hn ⟨hz2, ?_⟩
  refine joinParts_nil ?_ hz2
  exact ⟨.str _, H2, (I2.tok _).tok _, ⟨_, rfl⟩, q _⟩
end
/-! ### defs that raise -/
section
variable {P : Program} {w : World} {K : PySem.W.Frag} {mg : Str → Option Value} {base : Heap}
theorem Fun.okR {x qual : Str} {st : Stmt} {f : Addr} {fd : FuncData} {N ps : List Str} {k : Nat} {sp : Sp} (F : Fun K x qual st f fd) (S : FnScope N ps (defScope st)) (len : ∀ vs H Q E, sp vs H Q E → vs.length = ps.length)
    (hb : ∀ (cdv : Value) (A : Around) (outer : List Env) (s : Shared) (H : Hp) (vs : List V) (Q : VK) (E : XK), Room k (A.deeper (envOfC qual (defScope st) s.heap.objs.size f cdv)) → sp vs H Q E →
      ∃ t, PSs (cxOf (CXR P w) P w K mg base N qual (defScope st) f cdv A outer s H E) (defBody st) t ∧ t { nx := fun _ H' => Q .non H', rt := Q } (start N vs) H) : FnOk P w K mg base (CXR P w) (k + 1) f fd ps sp := by
  obtain ⟨oc, od, kV, doc, pm, an, cdv, ct, osl, rfl, lk, hcd⟩ := F.ex
  exact fn_of lk hcd S len fun A outer s H vs Q E hr hsp => hb cdv A outer s H vs Q E hr hsp
/-- a def known by its promise, one that may raise -/
def DefR (P : Program) (w : World) (K : PySem.W.Frag) (mg : Str → Option Value) (base : Heap) (k : Nat) (x : Str) (ps : List Str) (sp : Sp) : Prop :=
  ∃ f fd, FnOk P w K mg base (CXR P w) k f fd ps sp ∧ mg x = some (.ref f) ∧ PySem.W.keepIn K (.ref f) = true ∧ Binds K fd ps []
theorem pe_callR {N : List Str} {qual : Str} {scope : Scope} {f : Addr} {cd : Value} {A : Around} {outer : List Env} {s : Shared} {H : Hp} {E : XK} {k : Nat} {x : Str} {ps : List Str} {sp : Sp} {e : Expr} {es : List Expr} {t : TA} {p pos : Pos}
    (d : DefR P w K mg base k x ps sp) (hr : Room k (A.deeper (envOfC qual scope s.heap.objs.size f cd))) (ha : PA (cxOf (CXR P w) P w K mg base N qual scope f cd A outer s H E) (e :: es) t) (hg : Gl (cxOf (CXR P w) P w K mg base N qual scope f cd A outer s H E) x := by rfl)
    (hdb : (x == ("__debug__" : Str)) = false := by decide)
    (he : starEach (e :: es) (envOfC qual scope s.heap.objs.size f cd) = (false, eval e (envOfC qual scope s.heap.objs.size f cd)) :: starEach es (envOfC qual scope s.heap.objs.size f cd) := by rfl)
    (hpl : (backTo pos (starEach es (envOfC qual scope s.heap.objs.size f cd))).any (·.1) = false := by rfl) :
    PE (cxOf (CXR P w) P w K mg base N qual scope f cd A outer s H E) (.Call (.Name x p) (e :: es) [] pos) (tCall sp [] E t) := by
  obtain ⟨g, fd, F, hm, hk, hb⟩ := d
  exact pe_call F hr hg hm hk hb .nil passR ha hdb he hpl
end
end L2
-- part PQ
set_option Elab.async false
set_option linter.all false
set_option maxRecDepth 100000
namespace L2
open PySem PySem.Spec PyProof.Rows PySem.Builtin PySem.Builtin.ObjectAttr PySem.Builtin.Getset_descriptor
/-! ### isinstance of an exception of an own class -/
/-- an exception of the class at C, once it is caught: an object of this class -/
def excO (e C : Addr) : HO := .ext fun h => ∃ o, h.get? e = some o ∧ o.cls = .ref C
/-- closed facts of the written part about an own exception class -/
structure ExcK (K : PySem.W.Frag) (C : Addr) : Prop where
  ga : PySem.W.findIn K (.ref C) "__getattribute__" = some (some (.builtin "BaseException.__getattribute__"))
  hook : PySem.W.findIn K (.ref C) "__getattr__" = some none
  cl : PySem.W.findIn K (.ref C) "__class__" = some (some (.builtin "object.__class__"))
  ob : PySem.W.mroIn K C (.type "object") = some true
  bx : PySem.W.mroIn K C (.type "BaseException") = some true
  cls : (PySem.W.clsIn K C).isSome = true
section
variable {prog : Program} {w : World} {A : Around} {E : Value → Shared → Prop} {s : Shared} {K : PySem.W.Frag} {e C : Addr} {o : Obj} {R : Result → Shared → Prop}
theorem exc_ty {M : Model} {h : Heap} (hx : h.get? e = some o) (hc : o.cls = .ref C) : PySem.W.Looks M h (typeOf (.ref e)) (.ref C) := hc ▸ (PySem.W.Looks.ld hx).andThen .now
theorem exc_cget {tp : Value} (X : K.In s.heap) (hx : s.heap.get? e = some o) (hc : o.cls = .ref C) (Z : ExcK K C) (h : R (.ok (.ret (.ref C))) s) :
    codeAny (model prog w) A (.call (.builtin "getset_descriptor.__get__") ⟨[.builtin "object.__class__", .ref e, tp], []⟩) R s := by
  obtain ⟨h0, g0, d0, t0, o0⟩ := s
  have LT := exc_ty (M := model prog w) hx hc
  have LM := PySem.W.looks_mroIn (M := model prog w) X Z.ob
  refine codeAny_call_builtin PySem.W.KF.slot_gs.plain PySem.W.KF.entry_gs (PySem.W.KF.slot_gs.check _ _ _ _ _ _ _ _ PySem.W.KF.type_class (PySem.W.KF.args_gs _ _ _) ?_)
  unfold Builtin.«getset_descriptor.__get__» descrGet
  rw [PySem.W.dga_obj]
  refine wpAny_bind (wpAny_pure ?_)
  unfold descrGetter descrCheckInstance descrNameAndClass isInstance
  simp only [PySem.W.KF.owner_class]
  repeat lk
  refine ⟨Code.quiet_builtin _ (by decide +kernel), codeAny_builtin PySem.W.KF.entry_class ?_⟩
  unfold Builtin.«object.__class__» shownTypeOf
  repeat lk
  exact h
theorem exc_entry {tk : Tok} {Q : PySem.Fin → Shared → Prop} (X : K.In s.heap) (hx : s.heap.get? e = some o) (hc : o.cls = .ref C) (Z : ExcK K C) (hq : Q (.done (.ret (.ref C))) s) :
    wpAny (model prog w) A (Builtin.«object.__getattribute__» ⟨[.ref e, .str "__class__" tk], []⟩) Q E s := by
  obtain ⟨h0, g0, d0, t0, o0⟩ := s
  have LT := exc_ty (M := model prog w) hx hc
  have LC := PySem.W.looks_findIn (M := model prog w) X Z.cl
  have hT5 : (⟨h0, g0, d0, t0, o0⟩ : Shared).TypeIs (.builtin "object.__class__") "getset_descriptor" := F.typeOf_object_class
  have f5 := F.typeOf_object_class
  have f6 := F.slot_gs_get.lookup
  have f7 := F.slot_gs_set.lookup
  repeat (any_goals (first | assumption | with_reducible refine LT.at ?_ | with_reducible refine LC.at ?_ | wp_step))
  refine exc_cget (s := ⟨h0, g0, d0, t0, o0⟩) X hx hc Z ?_
  exact wpAny_pure hq
theorem exc_call {tk : Tok} (X : K.In s.heap) (hx : s.heap.get? e = some o) (hc : o.cls = .ref C) (Z : ExcK K C) (hq : R (.ok (.ret (.ref C))) s) :
    codeAny (model prog w) A (.call (.builtin "BaseException.__getattribute__") ⟨[.ref e, .str "__class__" tk], []⟩) R s := by
  refine codeAny_call_builtin F.attr_ValueError.ga.plain F.entry_bexc_ga ?_
  obtain ⟨h0, g0, d0, t0, o0⟩ := s
  have LT := exc_ty (M := model prog w) hx hc
  have LB := PySem.W.looks_mroIn (M := model prog w) X Z.bx
  have hk : builtinKind "BaseException.__getattribute__" = some .slot := by decide +kernel
  have hsp : splitId "BaseException.__getattribute__" = some ("BaseException", "__getattribute__") := by decide +kernel
  have ha := F.args_bexc_ga (.ref e) (.str "__class__" tk)
  simp only [checkBuiltinCall, hk, hsp]
  have LI : PySem.W.Looks (model prog w) h0 (isInstance (.ref e) (.type "BaseException")) true := LT.andThen LB
  refine wpAny_bind (LI.at ?_)
  repeat (first | exact exc_entry (s := ⟨h0, g0, d0, t0, o0⟩) X hx hc Z hq | assumption | wp_step)
theorem exc_attr {Q : Option Value → Shared → Prop} (X : K.In s.heap) (hx : s.heap.get? e = some o) (hc : o.cls = .ref C) (Z : ExcK K C) (hq : Q (some (.ref C)) { s with toks := s.toks + 1 }) :
    wpAny (model prog w) A (getAttr? (.ref e) "__class__") Q E s := by
  obtain ⟨h0, g0, d0, t0, o0⟩ := s
  have LT := exc_ty (M := model prog w) hx hc
  have L1 := PySem.W.looks_findIn (M := model prog w) X Z.ga
  have L2 := PySem.W.looks_findIn (M := model prog w) X Z.hook
  have f3 := F.attr_ValueError.ga.bind (.ref e)
  have hx2 : (Value.builtin "BaseException.__getattribute__" == Value.builtin "object.__getattribute__") = false := by decide +kernel
  have hx1 : (onTheHeap (Value.ref C) && Value.builtin "BaseException.__getattribute__" == Value.builtin "object.__getattribute__") = false := by rw [hx2]; rfl
  unfold getAttr? getAttrBy? getAttrBy
  refine wpAny_bind (wpAny_mkText (wpAny_bind (wpAny_attempt (wpAny_holding (wpAny_bind (LT.at (wpAny_bind (L1.at ?_))))))))
  repeat (any_goals (first | assumption | with_reducible refine L2.at ?_ | wp_step))
  refine exc_call (s := ⟨h0, g0, d0, t0 + 1, o0⟩) X hx hc Z ?_
  repeat (any_goals (first | assumption | wp_step))
theorem kitx_exc (Z : ExcK K C) : PySem.W.KitX K (.ref e) (.ref C) (fun h => ∃ o, h.get? e = some o ∧ o.cls = .ref C) where
  ty := fun M h _ ⟨o, hx, hc⟩ => exc_ty hx hc
  it := fun M h X _ => by
    obtain ⟨cd, hcd⟩ := Option.isSome_iff_exists.mp Z.cls
    unfold PySem.W.clsIn at hcd
    split at hcd
    · rename_i lk
      intro A2 Q2 E2 s2 k q
      unfold isType loadHead
      exact wpAny_bind (wpAny_loadPart (k _ _ (X _ _ lk)) (wpAny_pure q))
    · cases hcd
  ne := fun h tp dd its n sl X htp => by
    obtain ⟨cd, hcd⟩ := Option.isSome_iff_exists.mp Z.cls
    refine Bool.eq_false_iff.mpr fun q => ?_
    have z : C = tp := Value.ref.inj (beq_iff_eq.mp q)
    rw [← z] at htp
    unfold PySem.W.clsIn at hcd
    split at hcd
    · rename_i lk
      have y := (X _ _ lk).symm.trans htp
      cases y
    · cases hcd
  ca := fun X ⟨o, hx, hc⟩ k => exc_attr X hx hc Z k
end
section
variable {X : Cx}
/-- isinstance(e, c), e a caught exception of an own class -/
theorem call_isinstX : CallR X (.builtin "isinstance") (fun xs H Q => ∃ e C y c b, xs = [.ref e, y] ∧ H e = some (excO e C) ∧ ExcK X.K C ∧ (∀ u, RelV y u → u = c) ∧ PySem.W.kitOne X.K (.ref C) c = some b ∧ Q (.bl b) H) := by
  rintro pins s σ H vs us Q I r ⟨e, C, y, c, b, rfl, he, Z, hy, hk, q⟩
  cases r with
  | cons r1 r2 =>
    cases r2 with
    | cons r3 r4 =>
      cases r4
      rw [hy _ r3]
      rw [show _ = Value.ref e from r1]
      obtain ⟨p, _, _⟩ := (show ObjOk X.prog X.w H s.heap e (excO e C) from I.hok e _ he)
      exact PySem.W.kia_one (kitx_exc Z) I.kIn p hk (fun z => nomatch z) fun tk => ⟨.bl b, H, I.tok _, rfl, q⟩
end
end L2
-- part PTry
set_option Elab.async false
set_option linter.all false
set_option maxRecDepth 100000
namespace L2
open PySem PySem.Spec PyProof.Rows
/-! ### try: f() except S as n: .. -/
/-- within an except suite -/
abbrev Cx.hnd (X : Cx) (e : Value) : Cx := { X with A := X.A.mark (some e), calm := false, xe := fun _ _ => False }
section
variable {X : Cx} {pins : List (Addr × Obj)} {σ : St} {H H' : Hp} {s s' : Shared}
theorem Inv.hnd (I : Inv X pins σ H s) (e : Value) : Inv (X.hnd e) pins σ H s :=
  ⟨⟨I.ok.mod, I.ok.kind, I.ok.glob, I.ok.blt, I.ok.above, I.ok.inj, I.ok.has, I.ok.cab, fun h => Bool.noConfusion h, I.ok.frames, I.ok.stk, I.ok.exf, I.ok.bs, I.ok.bsz, I.ok.noex, I.ok.exfs, I.ok.funs, I.ok.frf⟩, I.os, I.bare, I.base, I.loc, I.cell, I.free, I.freeC, I.pin, I.hok, I.len⟩
theorem Inv.unhnd {e : Value} (I : Inv (X.hnd e) pins σ H s) (hd : X.calm = true → X.A.handled = none) : Inv X pins σ H s :=
  ⟨⟨I.ok.mod, I.ok.kind, I.ok.glob, I.ok.blt, I.ok.above, I.ok.inj, I.ok.has, I.ok.cab, hd, I.ok.frames, I.ok.stk, I.ok.exf, I.ok.bs, I.ok.bsz, I.ok.noex, I.ok.exfs, I.ok.funs, I.ok.frf⟩, I.os, I.bare, I.base, I.loc, I.cell, I.free, I.freeC, I.pin, I.hok, I.len⟩
/-- an exception that came out of a call of this body, caught here: it is an object like others -/
theorem Inv.caught {e C : Addr} {B h' : Heap} {o : Obj} (I : Inv X pins σ H s) (un : Un (frs X.stack) [] H H' s.heap s'.heap) (os : s'.os = s.os) (bare : AllBare s'.gens) (hok : HOk X.prog X.w H' s'.heap)
    (cov : ∀ b o, s.heap.get? b = some o → b ∉ frs X.stack → ∃ u, B.get? b = some u) (covT : ∀ b o, H' b = some o → ∃ u, B.get? b = some u) (be : B.get? e = none) (k1 : B.StaysIn s'.heap) (k2 : B.StaysIn h') (up : s'.heap.UpToSlots h')
    (he : h'.get? e = some o) (hc : o.cls = .ref C) (hd : ∃ vs, o.data = .fields vs) : Inv X pins σ (upd H' e (excO e C)) { s' with heap := h' } ∧ H' e = none := by
  have n0 : H' e = none := by
    cases q : H' e with
    | none => rfl
    | some u =>
      obtain ⟨u', hu⟩ := covT e u q
      rw [be] at hu
      cases hu
  have slotF : ∀ b o, s.heap.get? b = some o → b ∈ frs X.stack → ∃ sl, h'.get? b = some { o with slots := sl } := fun b o hb hm => by
    obtain ⟨_, o', ho', nf⟩ := I.stack.mem hm
    rw [hb] at ho'
    cases ho'
    obtain ⟨sl1, e1⟩ := un.slot b o hb (I.stkFree b hm) hm (by simp)
    obtain ⟨sl2, e2⟩ := up b _ e1 nf
    exact ⟨sl2, e2⟩
  have nold : ∀ b u, s.heap.get? b = some u → b ≠ e := fun b u hb z => by
    rw [z] at hb
    by_cases hm : e ∈ frs X.stack
    · obtain ⟨_, o', ho', nf⟩ := I.stack.mem hm
      rw [hb] at ho'
      cases ho'
      obtain ⟨sl, q⟩ := slotF e u hb hm
      rw [he] at q
      cases q
      obtain ⟨vs, hv⟩ := hd
      exact nf vs hv
    · obtain ⟨u', hu⟩ := cov e u hb hm
      rw [be] at hu
      cases hu
  have keepB : ∀ b o u, s'.heap.get? b = some o → B.get? b = some u → h'.get? b = some o := fun b o u hb hu => by
    have e1 := k1 b u hu
    rw [hb] at e1
    cases e1
    exact k2 b _ hu
  refine ⟨I.call' (s' := { s' with heap := h' }) (ch := []) os ⟨fun b u hb hn hf _ => ?_, fun b u hb hn hm _ => slotF b u hb hm, fun b u hb hn _ => ?_, fun b u hb _ => ?_, fun b xs hb => ?_, fun b u v hb => ?_, fun b ps hb => ?_⟩ ?_ bare (fun b hb => absurd hb (by simp)), n0⟩
  · have e1 := un.keep b u hb hn hf (by simp)
    obtain ⟨u', hu⟩ := cov b u hb hf
    exact keepB b u u' e1 hu
  · rw [upd_ne (nold b u hb)]
    exact un.free b u hb hn (by simp)
  · by_cases hm : b ∈ frs X.stack
    · obtain ⟨sl, q⟩ := slotF b u hb hm
      exact ⟨_, q⟩
    · obtain ⟨u', hu⟩ := cov b u hb hm
      exact ⟨u', k2 b u' hu⟩
  · have q := un.tups b xs hb
    rw [upd_ne (ne_of_none q n0)]
    exact q
  · have q := un.frzs b u v hb
    rw [upd_ne (ne_of_none q n0)]
    exact q
  · obtain ⟨m, q⟩ := un.tbls b ps hb
    exact ⟨m, by rw [upd_ne (ne_of_none q n0)]; exact q⟩
  · intro b u hb
    by_cases hbe : b = e
    · subst hbe
      rw [upd_same] at hb
      cases hb
      refine ⟨⟨o, he, hc⟩, ⟨o, he⟩, fun h1 h2 p k => ?_⟩
      obtain ⟨o1, q1, q2⟩ := p
      exact ⟨o1, k _ q1, q2⟩
    · rw [upd_ne hbe] at hb
      have x := hok_stays hok covT k1 k2 b u hb
      refine x.stay (fun c w' hcc q => q) (fun c q => ?_) fun c xs q => ?_
      · rw [upd_ne (ne_of_none q n0)]; exact q
      · rw [upd_ne (ne_of_none q n0)]; exact q
end
/-- the callee of a try, by its value: a def or lambda that stands in the heap; what it promises, and the suite -/
def tTry (X : Cx) (ic ie : Nat) (cS : Addr) (k : Nat) (ts : TS) : TS := fun D σ H => ∃ f fd sp, σ[ic]? = some (some (.ref f)) ∧ (∀ s, HOk X.prog X.w H s → PySem.W.FnAt f s) ∧ FnOk X.prog X.w X.K X.mg X.base (CXR X.prog X.w) k f fd [] sp ∧ (∀ s, BindsTo s fd ⟨[], []⟩ []) ∧
  sp [] H (fun _ _ => False) fun ev c H' => ∃ e C, ev = .ref e ∧ c = some C ∧ PySem.W.exmOne X.K (.ref C) (.ref cS) = some true ∧ (H' e = none → ts { nx := fun σ' H2 => D.nx (σ'.set ie none) H2, rt := fun _ _ => False } (σ.set ie (some (.ref e))) (upd H' e (excO e C)))
theorem ps_tryCall {X : Cx} {ic ie k : Nat} {c n S : Str} {cS : Addr} {b0 : Stmt} {suite : List Stmt} {ts : TS} {p1 p2 p3 p4 p5 p6 : Pos} (hcm : X.calm = true) (hst : X.stack = X.env :: X.outer) (hfr : X.env.frame = some X.env.locals) (hN : X.N.Nodup) (hic : X.N[ic]? = some c) (hvc : Vis X.env.scope c)
    (hie : X.N[ie]? = some n) (hln : X.env.scope.names.lookup n = some .local) (hS : X.mg S = some (.ref cS)) (hgS : Gl X S) (hr : Room k X.A) (hsu : ∀ e, PSs (X.hnd (.ref e)) (b0 :: suite) ts)
    (hdc : (c == ("__debug__" : Str)) = false := by decide) (hdc2 : (c == ("__classdict__" : Str)) = false := by decide) (hdS : (S == ("__debug__" : Str)) = false := by decide)
    (hsw : swapsWith (.Call (.Name c p1) [] [] p2) none p3.line X.env = pure false := by rfl) :
    PS X (.Try [.Expr (.Call (.Name c p1) [] [] p2) p3] [.ExceptHandler (some (.Name S p4)) (some n) (b0 :: suite) p5] [] [] p6) (tTry X ic ie cS k ts) := by
  intro pins s σ H D I h
  obtain ⟨f, fd, sp, hσ, hfn, F, hb, hsp⟩ := h
  refine wpAny_Try_except ?_
  refine wpAny_execs_cons (wpAny_Expr_any ?_ I.quiet hsw)
  refine wpAny_Call_Name_kw ?_
  have nm := pe_var (X := X.wish (fun _ _ => False)) (i := ic) (x := c) (pos := p1) hic hvc hdc hdc2 pins s σ H (fun v H2 => v = .ref f ∧ H2 = H) (I.wish _) ⟨_, hσ, rfl, rfl⟩
  refine wpAny_mono nm (fun u s1 h1 => ?_) (fun _ _ z => z.elim)
  obtain ⟨v, H1, I1, r1, rfl, rfl⟩ := h1
  have I1 := I1.unwish
  obtain rfl : u = Value.ref f := r1
  refine PySem.W.callWith_F0 (hfn _ I1.hok) ?_
  refine wpAny_call (codeAny_mono (F.run X.A X.stack s1 H1 ⟨[], []⟩ [] [] _ _ hr I1.env0 (hb s1) .nil hsp) fun r s2 hq => ?_)
  cases r with
  | ok fl =>
    cases fl with
    | ret u => obtain ⟨_, _, _, _, _, _, _, z⟩ := hq; exact z.elim
    | next => exact hq.elim
    | brk => exact hq.elim
    | cont => exact hq.elim
  | error ev =>
    obtain ⟨e, C, H2, rfl, FL, e', C', q1, q2, hx, hk⟩ := hq
    cases q1
    cases q2
    obtain ⟨B, a0, fl, cov, covT⟩ := FL.fly
    rw [hst] at fl
    show wpAny (model X.prog X.w) X.A (noteFrame (.ref e) X.env) _ X.xe s2
    have fr0 : X.A.frames = some (X.env :: X.outer) := by rw [← hst]; exact I.ok.frames
    refine wpAny_looks_onW (L := X.env.locals) fr0 hfr fl fun h4 held up4 => ?_
    refine wpAny_landsW held fun h5 fl5 up5 => ?_
    have at5 : ∃ o vs, h5.get? e = some o ∧ o.cls = .ref C ∧ o.data = .fields vs := by
      obtain ⟨oe, vs, g1, g2, g3, _⟩ := fl5.first
      exact ⟨oe, vs, g1, g2, g3⟩
    obtain ⟨o5, vs5, g51, g52, g53⟩ := at5
    have c5 := I1.caught (h' := h5) FL.un FL.os FL.bare FL.hok cov covT fl.2.1 fl.1 fl5.1 (up4.trans up5) g51 g52 ⟨_, g53⟩
    have I5 := c5.1.hnd (.ref e)
    refine wpAny_handleBy_cons (codeAny_handlers_test ?_) (by intro q; cases q)
    refine ld_glob (X := X.hnd (.ref e)) I5 hgS hS ?_ hdS
    have LX := PySem.W.exm_one (M := model X.prog X.w) (c := .ref cS) (e := e) I5.kIn (exc_ty g51 g52) hx
    refine LX.at ?_
    refine codeAny_handlers_suite_as ?_
    refine lands_againW (s := { s2 with heap := h5 }) fl5 fun h6 fl6 up6 => ?_
    obtain ⟨o6, vs6, g61, g62, g63, _⟩ := fl6.first
    obtain ⟨I6, n6⟩ := I1.caught (h' := h6) FL.un FL.os FL.bare FL.hok cov covT fl.2.1 fl.1 fl6.1 ((up4.trans up5).trans up6) g61 g62 ⟨_, g63⟩
    have I6 := I6.hnd (.ref e)
    have hts := hk n6
    refine store_ok (X := X.hnd (.ref e)) (i := ie) I6 hN hie (.inl hln) (v := .ref e) (u := .ref e) rfl (fun s7 I7 => ?_) (.inr hln)
    refine wpAny_mono (hsu e pins s7 _ _ _ I7 hts) (fun fl8 s8 h8 => ?_) fun _ _ z => z.elim
    cases fl8 with
    | ret u => obtain ⟨_, _, _, _, _, z⟩ := h8; exact z.elim
    | brk => obtain ⟨_, _, _, z⟩ := h8; exact z.elim
    | cont => obtain ⟨_, _, _, z⟩ := h8; exact z.elim
    | next =>
      obtain ⟨σ8, H8, I8, q8⟩ := h8
      have I8 := I8.unhnd (fun z => I.ok.hd z)
      obtain ⟨m8, hn8, hl8⟩ := I8.loc
      have hcls : (X.env.scope.kind == .class || (X.env.scope.kind == .module && X.env.locals != X.env.globals)) = false := by rw [I8.ok.kind]; rfl
      refine wpAny_nameGoes_keeps hln hn8 hcls fun h9 v9 hn9 hs9 => ?_
      -- the name is gone: what stood in its place is forgotten
      have st := store_ok (M := model X.prog X.w) (A := X.A) (E := fun _ _ => False) (X := X) (i := ie) I8 hN hie (.inl hln) (v := .non) (u := .none) rfl (Q := fun _ _ => True) (fun _ _ => trivial) (.inr hln)
      refine ⟨σ8.set ie none, H8, ?_, q8⟩
      have hlt : ie < σ8.length := by rw [I8.len]; exact (List.getElem?_eq_some_iff.mp hie).1
      obtain ⟨oL, _, _, hoL, _⟩ := id hn8
      have cne := I8.cne
      refine ⟨I8.ok, I8.os, I8.bare, ⟨fun b o eb nb hb hx => ?_, fun b o eb nb hb hx => ?_, I8.base.free, fun b o eb hx => ?_, I8.base.tups, I8.base.frzs, I8.base.tbls⟩, ⟨_, hn9, fun j y v' e1 e2 e3 => ?_⟩, fun y cc ec => ?_, I8.free, I8.freeC, fun p hp => ?_, fun b ob eb => ?_, by simpa using I8.len⟩
      · exact (hs9.2 b (Nat.ne_of_lt (Nat.lt_of_lt_of_le (Heap.lt_size eb) I8.ok.above))).trans (I8.base.keep b o eb nb hb hx)
      · obtain ⟨sl, q⟩ := I8.base.slot b o eb nb hb hx
        exact ⟨sl, (hs9.2 b (Nat.ne_of_lt (Nat.lt_of_lt_of_le (Heap.lt_size eb) I8.ok.above))).trans q⟩
      · obtain ⟨o', q⟩ := I8.base.there b o eb hx
        exact ⟨o', (hs9.2 b (Nat.ne_of_lt (Nat.lt_of_lt_of_le (Heap.lt_size eb) I8.ok.above))).trans q⟩
      · by_cases hj : j = ie
        · subst hj
          rw [List.getElem?_set_self hlt] at e2
          cases e2
        · rw [List.getElem?_set_ne (Ne.symm hj)] at e2
          obtain ⟨u', r', q⟩ := hl8 j y v' e1 e2 e3
          refine ⟨u', r', ?_⟩
          rcases q with ⟨kk, q⟩ | ⟨kk, c', ec, z⟩
          · refine .inl ⟨kk, ?_⟩
            have ne : y ≠ n := fun z => hj (nodup_ix hN e1 (z ▸ hie))
            simp [ne, q]
          · exact .inr ⟨kk, c', ec, z.sameBut hs9 (cne y c' ec)⟩
      · obtain ⟨w', z⟩ := I8.cell y cc ec
        exact ⟨w', z.sameBut hs9 (cne y cc ec)⟩
      · obtain ⟨e1, n1, ne1, nf1, d1⟩ := I8.pin p hp
        exact ⟨(hs9.2 p.1 ne1).trans e1, n1, ne1, nf1, d1⟩
      · refine (I8.hok b ob eb).stay (fun cc w' hcc q => (hs9.2 cc ?_).trans q) (fun _ q => q) fun _ _ q => q
        rintro rfl
        rcases hcc with rfl | hcc
        · rw [I8.free] at eb; cases eb
        · rw [I8.free] at hcc; cases hcc
end L2
-- part PLam
set_option Elab.async false
set_option linter.all false
set_option maxRecDepth 100000
namespace L2
open PySem PySem.Spec PyProof.Rows
/-! ### lambdas -/
/-- a code object, by its name -/
def codeO (c : Addr) (q : Str) : HO := .ext fun h => h.CodeRec (.ref c) q
/-- a lambda's function object -/
def lamO (f : Addr) (q : Str) (params : Arguments) (body : Expr) (scope : Scope) (cl : List (Str × Addr)) (pm : Value) (c : Addr) (ct : Value) : HO := .ext fun h => h.get? f = some (PySem.W.kla_obj "<lambda>" q params body scope cl pm c ct)
def LamAt (H : Hp) (f : Addr) (q : Str) (params : Arguments) (body : Expr) (scope : Scope) (cl : List (Str × Addr)) : Prop := ∃ pm c ct, H f = some (lamO f q params body scope cl pm c ct) ∧ H c = some (codeO c q)
theorem LamAt.same {H H' : Hp} {f : Addr} {q : Str} {params : Arguments} {body : Expr} {scope : Scope} {cl : List (Str × Addr)} (x : LamAt H f q params body scope cl) (s : Same H H') : LamAt H' f q params body scope cl := by
  obtain ⟨pm, c, ct, h1, h2⟩ := x
  exact ⟨pm, c, ct, s _ _ h1, s _ _ h2⟩
/-- the table of a code object whose lambdas are all of the name q -/
def TabOk (H : Hp) (q : Str) (ps : Array Value) : Prop := TriplesOk ps.toList ∧ ∀ pos cv, codeAmong pos ps.toList = some cv → ∃ c, cv = .ref c ∧ H c = some (codeO c q)
def TabAt (H : Hp) (P : Addr) (q : Str) : Prop := ∃ ps, H P = some (.tbl ps) ∧ TabOk H q ps
theorem codeRec_keep {h h' : Heap} {c : Addr} {q : Str} (x : h.CodeRec (.ref c) q) (k : ∀ o, h.get? c = some o → h'.get? c = some o) : h'.CodeRec (.ref c) q := by
  obtain ⟨c2, oc, vs, tq, e, g1, g2, g3⟩ := x
  cases e
  exact ⟨c, oc, vs, tq, rfl, k _ g1, g2, g3⟩
theorem codeO_ok {P : Program} {w : World} {H : Hp} {h : Heap} {c : Addr} {q : Str} (x : h.CodeRec (.ref c) q) : ObjOk P w H h c (codeO c q) := by
  obtain ⟨c2, oc, vs, tq, e, g1, g2, g3⟩ := id x
  cases e
  exact ⟨x, ⟨_, g1⟩, fun h1 h2 p k => codeRec_keep p k⟩
theorem lamO_ok {P : Program} {w : World} {H : Hp} {h : Heap} {f : Addr} {q : Str} {params : Arguments} {body : Expr} {scope : Scope} {cl : List (Str × Addr)} {pm : Value} {c : Addr} {ct : Value} (x : h.get? f = some (PySem.W.kla_obj "<lambda>" q params body scope cl pm c ct)) :
    ObjOk P w H h f (lamO f q params body scope cl pm c ct) := ⟨x, ⟨_, x⟩, fun h1 h2 p k => k _ p⟩
theorem among_snoc {pos p2 : Pos} {c cv : Value} : ∀ (l : List Value), TriplesOk l → codeAmong p2 (l ++ [rawInt pos.line, rawInt pos.col, c]) = some cv → codeAmong p2 l = some cv ∨ cv = c
  | [], _, h => by
    have h' : (if (pos.line : Int) == (p2.line : Int) && (pos.col : Int) == (p2.col : Int) then some c else codeAmong p2 []) = some cv := h
    split at h'
    · exact .inr (Option.some.inj h').symm
    · cases h'
  | .int a t :: .int b u :: x :: r, ht, h => by
    have h' : (if a == p2.line && b == p2.col then some x else codeAmong p2 (r ++ [rawInt pos.line, rawInt pos.col, c])) = some cv := h
    show (if a == p2.line && b == p2.col then some x else codeAmong p2 r) = some cv ∨ cv = c
    split at h'
    · rename_i hq
      rw [if_pos hq]
      exact .inl h'
    · rename_i hq
      rw [if_neg hq]
      exact among_snoc r ht h'
theorem triples_snoc {pos : Pos} {c : Value} : ∀ (l : List Value), TriplesOk l → TriplesOk (l ++ [rawInt pos.line, rawInt pos.col, c])
  | [], _ => trivial
  | .int _ _ :: .int _ _ :: _ :: r, h => triples_snoc r h
/-- what the def's context has for its lambdas -/
structure LamX (X : Cx) (c P : Addr) : Prop where
  code : X.env.code = .ref c
  hd : PySem.W.CodeHd X.base c P
  bm : ∃ bm ob, X.mg "__builtins__" = some (.ref bm) ∧ bm ≠ builtinsNs ∧ X.base.get? bm = some ob ∧ ob.cls = .type "module" ∧ ob.dict = some builtinsNs ∧ ob.data = .plain
def tLam (X : Cx) (P : Addr) (params : Arguments) (body : Expr) (scope : Scope) : TE := fun σ H Q => TabAt H P (X.env.qual ++ "<lambda>") ∧ ∀ f H', SameX P H H' → H f = none → TabAt H' P (X.env.qual ++ "<lambda>") → LamAt H' f (X.env.qual ++ "<lambda>") params body scope (clOf scope X.env) → Q (.ref f) H'
theorem pe_lam {X : Cx} {c P : Addr} {params : Arguments} {body : Expr} {scope : Scope} {pos : Pos} (L : LamX X c P) (hdef : defaultsOf params X.env = ([], [])) (hfr : ∀ y ∈ scope.names, y.2 = .free → X.env.kindOf y.1 = some .cell ∨ X.env.kindOf y.1 = some .free) :
    PE X (.Lambda params body scope pos) (tLam X P params body scope) := by
  intro pins s σ H Q I h
  obtain ⟨⟨ps, hP, hT, hC⟩, q⟩ := h
  have oP : s.heap.get? P = some (PySem.W.tabObj ps) := I.hok P _ hP
  have hcl := closureFor_eq (scope := scope) (env := X.env) fun y hy e => I.ok.has _ (hfr y hy e)
  have gns : s.heap.Ns mainGlobals X.mg := I.mod.glob.keeps I.bk
  obtain ⟨bm, ob, b1, b2, b3, b4, b5, b6⟩ := L.bm
  have hgP : mainGlobals ≠ P := fun z => by
    obtain ⟨o, es, ep, e, d, _⟩ := gns
    rw [z, oP] at e
    cases e
    cases d
  have hbP : bm ≠ P := fun z => by
    have e := I.bk _ _ b3
    rw [z, oP] at e
    cases e
    cases b4
  have hbG : bm ≠ mainGlobals := fun z => by
    obtain ⟨o, es, ep, e, d, _⟩ := gns
    have e2 := I.bk _ _ b3
    rw [z, e] at e2
    cases e2
    rw [d] at b6
    cases b6
  have BA : s.heap.BuiltinsAt X.mg P := ⟨bm, ob, b1, b2, hbG, hbP, I.bk _ _ b3, b4, b5, b6⟩
  refine PySem.W.kla_eval hdef ?_
  cases hf : codeAmong pos ps.toList with
  | some cv =>
    obtain ⟨c', rfl, hc'⟩ := hC pos cv hf
    refine PySem.W.kla_makeFunctionHit hcl I.ok.glob gns L.code (L.hd.keeps I.bk) oP hT hf BA fun ctv h' tk hk hsz => ?_
    have nf : H h'.objs.size = none := I.hok.fresh hsz
    have s1 : Same H (upd H h'.objs.size (lamO h'.objs.size (X.env.qual ++ "<lambda>") params body scope (clOf scope X.env) ((X.mg "__name__").getD .none) c' ctv)) := fun b o hb => by rw [upd_ne (ne_of_none hb nf)]; exact hb
    refine ⟨.ref h'.objs.size, _, I.laid (t' := tk) (a := h'.objs.size) (fun b u e => Heap.get?_push_of_some _ (hk b u e)) hsz (lamO_ok (Heap.get?_push_size _ rfl)), rfl, ?_⟩
    exact q _ _ (fun b o hb _ => s1 b o hb) nf ⟨ps, s1 _ _ hP, hT, fun p2 cv2 z => by obtain ⟨c2, e2, h2⟩ := hC p2 cv2 z; exact ⟨c2, e2, s1 _ _ h2⟩⟩ ⟨_, c', ctv, upd_same, s1 _ _ hc'⟩
  | none =>
    refine PySem.W.kla_makeFunction hcl I.ok.glob gns L.code (L.hd.keeps I.bk) oP hT hf hgP BA fun c' ctv h' tk hx hge hlt hrec htb => ?_
    have lt0 : ∀ b o, s.heap.get? b = some o → b < c' := fun b o e => Nat.lt_of_lt_of_le (Heap.lt_size e) hge
    have ltH : ∀ b o, H b = some o → b < c' := fun b o e => Nat.lt_of_lt_of_le (I.hok.lt e) hge
    have nc : H c' = none := I.hok.fresh hge
    have nf : H h'.objs.size = none := I.hok.fresh (Nat.le_trans hge (Nat.le_of_lt hlt))
    have pne : P ≠ c' := ne_of_none hP nc
    have pnf : P ≠ h'.objs.size := ne_of_none hP nf
    have cnf : c' ≠ h'.objs.size := Nat.ne_of_lt hlt
    generalize hfo : h'.objs.size = f at nf pnf cnf
    generalize hps : ps ++ #[rawInt pos.line, rawInt pos.col, Value.ref c'] = ps2 at htb
    generalize hlo : lamO f (X.env.qual ++ "<lambda>") params body scope (clOf scope X.env) ((X.mg "__name__").getD .none) c' ctv = lo
    have keep : ∀ b o, b ≠ P → s.heap.get? b = some o → (h'.push (PySem.W.kla_obj "<lambda>" (X.env.qual ++ "<lambda>") params body scope (clOf scope X.env) ((X.mg "__name__").getD .none) c' ctv)).get? b = some o := fun b o hb e => Heap.get?_push_of_some _ (hx b o hb e)
    have at1 : ∀ b o, H b = some o → b ≠ P → upd (upd (upd H P (.tbl ps2)) c' (codeO c' (X.env.qual ++ "<lambda>"))) f lo b = some o := fun b o hb hne => by
      rw [upd_ne (ne_of_none hb nf), upd_ne (ne_of_none hb nc), upd_ne hne]
      exact hb
    have atP : upd (upd (upd H P (.tbl ps2)) c' (codeO c' (X.env.qual ++ "<lambda>"))) f lo P = some (.tbl ps2) := by rw [upd_ne pnf, upd_ne pne, upd_same]
    have atC : upd (upd (upd H P (.tbl ps2)) c' (codeO c' (X.env.qual ++ "<lambda>"))) f lo c' = some (codeO c' (X.env.qual ++ "<lambda>")) := by rw [upd_ne cnf, upd_same]
    have atF : upd (upd (upd H P (.tbl ps2)) c' (codeO c' (X.env.qual ++ "<lambda>"))) f lo f = some lo := upd_same
    have J : Inv X pins σ (upd (upd (upd H P (.tbl ps2)) c' (codeO c' (X.env.qual ++ "<lambda>"))) f lo) { s with heap := h'.push (PySem.W.kla_obj "<lambda>" (X.env.qual ++ "<lambda>") params body scope (clOf scope X.env) ((X.mg "__name__").getD .none) c' ctv), toks := tk } := by
      refine I.un (t' := tk) ⟨fun b o e n _ _ => keep b o (fun z => by rw [z, hP] at n; cases n) e, fun b o e n _ _ => ⟨o.slots, keep b o (fun z => by rw [z, hP] at n; cases n) e⟩, fun b o e n _ => ?_, fun b o e _ => ?_, fun b xs e => at1 b _ e (fun z => by rw [z, hP] at e; cases e), fun b o u e => at1 b _ e (fun z => by rw [z, hP] at e; cases e), fun b qs e => ?_⟩ ?_
      · have hl := lt0 b o e
        rw [upd_ne (by rw [← hfo]; exact Nat.ne_of_lt (Nat.lt_trans hl hlt)), upd_ne (Nat.ne_of_lt hl), upd_ne (fun z => by rw [z, hP] at n; cases n)]
        exact n
      · by_cases hb : b = P
        · rw [hb]; exact ⟨_, Heap.get?_push_of_some _ htb⟩
        · exact ⟨o, keep b o hb e⟩
      · by_cases hb : b = P
        · rw [hb, hP] at e
          cases e
          exact ⟨_, by rw [hb, atP, hps]⟩
        · exact ⟨#[], by rw [at1 b _ e hb]; simp⟩
      · intro b o hb
        by_cases h1 : b = f
        · rw [h1, atF] at hb
          cases hb
          rw [h1, ← hlo]
          refine lamO_ok ?_
          rw [← hfo]
          exact Heap.get?_push_size _ rfl
        · by_cases h2 : b = c'
          · rw [h2, atC] at hb
            cases hb
            rw [h2]
            exact codeO_ok (codeRec_keep hrec fun o e => Heap.get?_push_of_some _ e)
          · by_cases h3 : b = P
            · rw [h3, atP] at hb
              cases hb
              rw [h3]
              exact Heap.get?_push_of_some _ htb
            · have hb' : H b = some o := by rw [upd_ne h1, upd_ne h2, upd_ne h3] at hb; exact hb
              refine (I.hok b o hb').stay (fun z u hz e => keep z u ?_ e) (fun z e => ?_) fun z xs e => ?_
              · rcases hz with hz | hz
                · rw [hz]; exact h3
                · intro hz2; rw [hz2, hP] at hz; cases hz
              · exact at1 z _ e fun hz2 => by rw [hz2, hP] at e; cases e
              · exact at1 z _ e fun hz2 => by rw [hz2, hP] at e; cases e
    refine ⟨.ref f, _, J, rfl, ?_⟩
    refine q f _ (fun b o hb hne => at1 b o hb hne) nf ⟨ps2, atP, ?_, fun p2 cv2 z => ?_⟩ ⟨_, c', ctv, by rw [atF, ← hlo], atC⟩
    · rw [← hps, Array.toList_append]
      exact triples_snoc _ hT
    · rw [← hps, Array.toList_append] at z
      rcases among_snoc _ hT z with z | z
      · obtain ⟨c2, e2, h2⟩ := hC p2 cv2 z
        exact ⟨c2, e2, at1 _ _ h2 fun hz2 => by rw [hz2, hP] at h2; cases h2⟩
      · exact ⟨c', z, atC⟩
end L2
-- part PLm2
set_option Elab.async false
set_option linter.all false
set_option maxRecDepth 100000
namespace L2
open PySem PySem.Spec PyProof.Rows
/-- an exception of a callee leaves this frame too, whatever made the frame -/
theorem passR' {X : Cx} {E : XK} (hxe : ∀ e s', wpAny (model X.prog X.w) X.A (leaving X.env e) (fun _ s'' => CXR X.prog X.w X.outer X.H₀ X.s₀ E e s'') (fun e' s'' => CXR X.prog X.w X.outer X.H₀ X.s₀ E e' s'') s' → X.xe e s')
    (hst : X.stack = X.env :: X.outer) (hfr : X.env.frame = some X.env.locals) (hex : X.ex = []) : Passes (CXR X.prog X.w) X E := by
  intro pins σ H1 s1 ev s2 I h
  obtain ⟨e, C, H', rfl, F, hE⟩ := h
  obtain ⟨B, a0, fl, cov, covT⟩ := F.fly
  have un := F.un
  rw [hst] at fl cov un
  have ib : Un (frs X.outer) [] X.H₀ H1 X.s₀.heap s1.heap := by have := I.base; rw [hex] at this; exact this
  have fr0 : X.A.frames = some (X.env :: X.outer) := by rw [← hst]; exact I.ok.frames
  refine hxe _ _ (wpAny_leaves_onW (L := X.env.locals) fr0 hfr fl fun h' fl' up => ?_)
  refine ⟨e, C, H', rfl, ⟨F.os.trans I.os, F.bare, un_stays (base := X.base) (L := X.env.locals) ib un hfr I.ok.above I.ok.funs I.ok.frf cov fl.1 fl'.1 up, hok_stays F.hok covT fl.1 fl'.1, B, a0, fl', fun b o hb hn => ?_, covT⟩, hE⟩
  obtain ⟨o1, e1⟩ := ib.there b o hb (by simp)
  refine cov b o1 e1 fun hm => ?_
  have hm' : b ∈ (X.env :: X.outer).filterMap (·.frame) := hm
  rw [List.filterMap_cons_some (f := fun (x : Env) => x.frame) (a := X.env) (b := X.env.locals) hfr] at hm'
  rcases List.mem_cons.mp hm' with q | q
  · rw [q] at hb
    exact absurd (Nat.lt_of_lt_of_le (Heap.lt_size hb) I.ok.above) (Nat.lt_irrefl _)
  · exact hn q
/-- a lambda's body running -/
def cxL (P : Program) (w : World) (K : PySem.W.Frag) (mg : Str → Option Value) (base : Heap) (N : List Str) (q : Str) (scope : Scope) (f : Addr) (cd : Value) (cl : List (Str × Addr)) (A : Around) (outer : List Env) (s : Shared) (H : Hp) (E : XK) : Cx where
  prog := P
  w := w
  K := K
  mg := mg
  base := base
  A := A.deeper (PySem.W.envX q scope s.heap.objs.size f cd cl)
  N := N
  s₀ := s
  H₀ := H
  env := PySem.W.envX q scope s.heap.objs.size f cd cl
  outer := outer
  stack := PySem.W.envX q scope s.heap.objs.size f cd cl :: outer
  ex := []
  calm := true
  fn := fun _ => false
  pn := []
  xe := fun e s' => wpAny (model P w) (A.deeper (PySem.W.envX q scope s.heap.objs.size f cd cl)) (leaving (PySem.W.envX q scope s.heap.objs.size f cd cl) e) (fun _ s'' => CXR P w outer H s E e s'') (fun e' s'' => CXR P w outer H s E e' s'') s'
/-- the cells of a lambda of two free names, and what they hold -/
structure Two (base : Heap) (scope : Scope) (cl : List (Str × Addr)) (x y : Str) (vx vy : V) : Prop where
  kx : scope.names.lookup x = some .free
  ky : scope.names.lookup y = some .free
  only : ∀ z, scope.names.lookup z = some .cell ∨ scope.names.lookup z = some .free → z = x ∨ z = y
  ne : x ≠ y
  cx : ∃ c u, cl.lookup x = some c ∧ base.IsCell c (some u) ∧ RelV vx u
  cy : ∃ c u, cl.lookup y = some c ∧ base.IsCell c (some u) ∧ RelV vy u
  mem : ∀ z c, cl.lookup z = some c → z = x ∨ z = y
  inj : ∀ c, cl.lookup x = some c → cl.lookup y = some c → False
/-! ### a call over a wider ground: all that is not tracked and no frame stands as it is -/
theorem funFrames_of {h b1 b2 : Heap} : ∀ {l : List Env}, h.FunFrames b1 l → (∀ b ∈ frs l, b2.get? b = none) → h.FunFrames b2 l
  | [], _, _ => trivial
  | env :: r, ⟨hk, ⟨L, o, hf, _, ho, hd⟩, hr⟩, hn => ⟨hk, ⟨L, o, hf, hn L (List.mem_filterMap.mpr ⟨env, .head _, hf⟩), ho, hd⟩, funFrames_of hr fun b hb => hn b (by
      obtain ⟨e, he, q⟩ := List.mem_filterMap.mp hb
      exact List.mem_filterMap.mpr ⟨e, .tail _ he, q⟩)⟩
theorem Inv.rebase {X : Cx} {pins : List (Addr × Obj)} {σ : St} {H : Hp} {s : Shared} (I : Inv X pins σ H s) :
    ∃ base', X.base.StaysIn base' ∧ Env0 X.prog X.w X.K X.mg base' X.A X.stack s H ∧ ∀ b o, s.heap.get? b = some o → H b = none → b ∉ frs X.stack → base'.get? b = some o := by
  have cov : ∀ b o, s.heap.get? b = some o → H b = none → b ∉ frs X.stack → (PySem.W.hideAll (hidT s.heap H) (frs X.stack)).get? b = some o := fun b o e n hf => PySem.W.hideAll_get _ (hidT_get e n) hf
  have st : X.base.StaysIn (PySem.W.hideAll (hidT s.heap H) (frs X.stack)) := fun b o e => cov b o (I.bs b o e).1 (I.bs b o e).2 fun hm => by
    have := (I.stack.mem hm).1
    rw [e] at this
    cases this
  refine ⟨_, st, ⟨I.ok.frames, ⟨I.mod.kin.keeps st, I.mod.glob.keeps st, ?_, I.mod.nolimit.keeps st⟩, fun b o e => of_hidT (PySem.W.of_hideAll _ e), ?_, funFrames_of I.stack fun b hb => PySem.W.hideAll_none _ hb, I.stkFree, I.hok, I.bare⟩, cov⟩
  · obtain ⟨mb, h1, h2⟩ := I.mod.blt
    exact ⟨mb, h1.keeps st, h2⟩
  · rw [PySem.W.hideAll_size, hidT_size]
    exact Nat.le_refl _
/-- a comprehension whose element knows the def's state at the block's entry -/
def tCompI (wi : TI) (ts : Nat) (cap : List Nat) (g : TG) (tt : TT) (ti : St → TC) : TE := fun σ H Q => wi σ H fun J H1 => tNestW g tt (ti σ) J [] (capSt ts cap σ) H1 fun ys _ H2 => ∀ p, H2 p = none → Q (.ref p) (upd H2 p (.lst ys))
theorem pe_compI {X : Cx} {elt tg iter : Expr} {ifs : List Expr} {rest : List Comprehension} {scope : Scope} {pos : Pos} {wi : TI} {g : TG} {tt : TT} {ti : St → TC} (N' : List Str) (ts : Nat) (cap : List Nat) (hi : PI X tg iter wi) (pg : ∀ C s H fp, PG (blk X N' scope C s H fp) tg g) (pt : ∀ C s H fp, PTs (blk X N' scope C s H fp) ifs tt)
    (pi : ∀ pins σ C s H fp D, Inv X pins σ H s → (∀ b ∈ fp, FpOk X pins H b) → PIn (blk X N' scope C s H fp) D (inner elt (⟨tg, iter, ifs, 0⟩ :: rest) scope pos 0 (.ref D) (blk X N' scope C s H fp).env) (ti σ))
    (ok : compOk X.env.scope scope X.N N' ts cap = true := by rfl) (hc : X.calm = true := by rfl) (h2 : ∀ g', (Comprehension.mk tg iter ifs 0 :: rest)[0 + 1]? = some g' → g'.is_async = 0 := by (intro g' h; cases h <;> rfl))
    (hs : ∀ x, foldedSetIterable iter X.env x = pure x := by intro _; rfl) :
    PE X (.ListComp elt (⟨tg, iter, ifs, 0⟩ :: rest) scope pos) (tCompI wi ts cap g tt ti) := by
  intro pins s σ H Q I h
  have S := compS_of ok
  rw [eval_ListComp]
  refine wpAny_comprehension_free (use := none) rfl hs (closureFor_eq fun y hy e => I.ok.has _ (S.free y hy e)) S.kind S.names (thn (hi pins s σ H _ I h) fun v s1 h1 => thn h1 fun itv s2 h2' => ?_)
  obtain ⟨it, fp, tn, J, H2, e, I2, T, st2, f2, q2⟩ := h2'
  subst e
  refine comp_block (RR := fun acc C => compPost (model X.prog X.w) X.A X.xe none _ acc C) S hc I2 T st2 f2 h2 (fun C => pg C _ _ _) (fun C => pt C _ _ _) (fun C D => pi pins σ C _ _ _ D I2 f2) q2 ?_
  intro C D s' σ' H' ys fl hC hD hDC J' n a q
  obtain ⟨m, hn, _⟩ := J'.loc
  exact ⟨m, hn, fun h' sb => ⟨.ref D, _, blk_exit I2 f2 hC hD hDC J' n a sb, rfl, q D n⟩⟩
end L2
-- part PLit
set_option Elab.async false
set_option linter.all false
set_option maxRecDepth 100000
namespace L2
open PySem PySem.Spec PyProof.Rows
/-! ### written things: constants, and tuples and lists of them -/
def constV : Const → Option V
  | .int n => some (.int n)
  | .bool b => some (.bl b)
  | .str x => some (.str x)
  | .none => some .non
  | _ => none
/-- a written scalar -/
def scOf : Expr → Option V
  | .Constant c _ _ => constV c
  | .UnaryOp .USub (.Constant (.int n) _ _) _ => some (.int (-n))
  | .BinOp (.Constant (.int a) _ _) .Pow (.Constant (.int b) _ _) _ => if 0 ≤ b ∧ b ≤ 1000000 ∧ a.natAbs < 2 ^ 64 then some (.int (a ^ b.toNat)) else none
  | _ => none
def scsOf : List Expr → Option (List V)
  | [] => some []
  | e :: r => match scOf e, scsOf r with
    | some v, some vs => some (v :: vs)
    | _, _ => none
inductive Lit where
  | sc (v : V)
  | tup (xs : List V)
  | lst (xs : List V)
  | dct
def LitAt (H : Hp) (v : V) : Lit → Prop
  | .sc u => v = u
  | .tup xs => ∃ a : Addr, v = .ref a ∧ H a = some (.tup xs)
  | .lst xs => ∃ a : Addr, v = .ref a ∧ H a = some (.lst xs)
  | .dct => ∃ a : Addr, v = .ref a ∧ H a = some (.dK [])
theorem LitAt.same {H H' : Hp} {v : V} : ∀ {l : Lit}, LitAt H v l → Same H H' → LitAt H' v l
  | .sc _, h, _ => h
  | .tup _, ⟨a, e, h⟩, s => ⟨a, e, s _ _ h⟩
  | .lst _, ⟨a, e, h⟩, s => ⟨a, e, s _ _ h⟩
  | .dct, ⟨a, e, h⟩, s => ⟨a, e, s _ _ h⟩
def litOf : Expr → Option Lit
  | .Tuple es _ _ => match scsOf es with
    | some xs => if xs.length ≤ 1000 then some (.tup xs) else none
    | none => none
  | .List es _ => match scsOf es with
    | some xs => if xs.length ≤ 1000 then some (.lst xs) else none
    | none => none
  | .Dict [] [] _ => some .dct
  | e => (scOf e).map .sc
def litsOf : List Expr → Option (List Lit)
  | [] => some []
  | e :: r => match litOf e, litsOf r with
    | some v, some vs => some (v :: vs)
    | _, _ => none
section
variable {X : Cx}
theorem pe_sc {e : Expr} {v : V} (h : scOf e = some v) : PE X e (tC v) ∧ (∀ es, starEach (e :: es) X.env = (false, eval e X.env) :: starEach es X.env) ∧ ∀ a : Addr, v ≠ .ref a := by
  unfold scOf at h
  split at h
  · rename_i c j p
    cases c with
    | int n => cases h; exact ⟨pe_int, fun _ => rfl, fun a z => by cases z⟩
    | bool b => cases h; exact ⟨pe_bl, fun _ => rfl, fun a z => by cases z⟩
    | str x => cases h; exact ⟨pe_str, fun _ => rfl, fun a z => by cases z⟩
    | none => cases h; exact ⟨pe_non, fun _ => rfl, fun a z => by cases z⟩
    | _ => cases h
  · cases h
    refine ⟨fun pins s σ H Q I q => pe_un un_neg pe_int pins s σ H Q I ⟨_, rfl, q⟩, fun _ => rfl, fun a z => by cases z⟩
  · split at h
    · rename_i hc
      cases h
      refine ⟨fun pins s σ H Q I q => pe_op op_pow pe_int pe_int pins s σ H Q I ⟨_, _, rfl, rfl, hc, q⟩, fun _ => rfl, fun a z => by cases z⟩
    · cases h
  · cases h
theorem pa_scs : ∀ {es : List Expr} {vs : List V}, scsOf es = some vs → PA X es (fun _ H Q => Q vs H)
  | [], vs, h => by cases h; exact pa_nil
  | e :: r, vs, h => by
    unfold scsOf at h
    split at h
    · rename_i v ws h1 h2
      cases h
      obtain ⟨p1, p2, _⟩ := pe_sc (X := X) h1
      exact fun pos pins s σ H Q I q => pa_cons p1 (pa_scs h2) (p2 r) pos pins s σ H Q I q
    · cases h
theorem pe_lit {e : Expr} {l : Lit} (h : litOf e = some l) : PE X e (fun _ H Q => ∀ v H', Same H H' → LitAt H' v l → (∀ a : Addr, v = .ref a → H a = none) → Q v H') ∧ ∀ es, starEach (e :: es) X.env = (false, eval e X.env) :: starEach es X.env := by
  unfold litOf at h
  split at h
  · split at h
    · rename_i xs hx
      split at h
      · rename_i hl
        cases h
        refine ⟨fun pins s σ H Q I q => pe_tup (pa_scs hx) pins s σ H Q I ⟨Nat.le_of_lt (small1000 hl), fun p hp => q _ _ (fun b o hb => by rw [upd_ne (ne_of_none hb hp)]; exact hb) ⟨p, rfl, upd_same⟩ fun a z => by cases z; exact hp⟩, fun _ => rfl⟩
      · cases h
    · cases h
  · split at h
    · rename_i xs hx
      split at h
      · rename_i hl
        cases h
        refine ⟨fun pins s σ H Q I q => pe_lst (pa_scs hx) pins s σ H Q I ⟨Nat.le_of_lt (small1000 hl), fun p hp => q _ _ (fun b o hb => by rw [upd_ne (ne_of_none hb hp)]; exact hb) ⟨p, rfl, upd_same⟩ fun a z => by cases z; exact hp⟩, fun _ => rfl⟩
      · cases h
    · cases h
  · cases h
    exact ⟨fun pins s σ H Q I q => pe_dnewK pins s σ H Q I fun p hp => q _ _ (fun b o hb => by rw [upd_ne (ne_of_none hb hp)]; exact hb) ⟨p, rfl, upd_same⟩ fun a z => by cases z; exact hp, fun _ => rfl⟩
  · rename_i x0 h1 h2 h3
    cases hs : scOf e with
    | none => rw [hs] at h; cases h
    | some v =>
      rw [hs] at h
      cases h
      obtain ⟨p1, p2, p3⟩ := pe_sc (X := X) hs
      exact ⟨fun pins s σ H Q I q => p1 pins s σ H Q I (q v H (Same.refl H) rfl fun a z => absurd z (p3 a)), p2⟩
theorem pa_lits : ∀ {es : List Expr} {ls : List Lit}, litsOf es = some ls → PA X es (fun _ H Q => ∀ vs H', Same H H' → Paired (LitAt H') vs ls → (∀ a, V.ref a ∈ vs → H a = none) → Q vs H')
  | [], ls, h => by cases h; exact fun pos pins s σ H Q I q => pa_nil pos pins s σ H Q I (q [] H (Same.refl H) .nil fun a z => nomatch z)
  | e :: r, ls, h => by
    unfold litsOf at h
    split at h
    · rename_i v ws h1 h2
      cases h
      obtain ⟨p1, p2⟩ := pe_lit (X := X) h1
      exact fun pos pins s σ H Q I q => pa_cons p1 (pa_lits h2) (p2 r) pos pins s σ H Q I fun v1 H1 s1 l1 n1 vs H2 s2 pr n2 => q (v1 :: vs) H2 (s1.trans s2) (.cons (l1.same s2) pr) fun a z => by
        rcases List.mem_cons.mp z with z | z
        · exact n1 a z.symm
        · exact s1.free (n2 a z)
    · cases h
end
end L2
-- part PZip
set_option Elab.async false
set_option linter.all false
set_option maxRecDepth 100000
namespace L2
open PySem PySem.Spec PyProof.Rows
/-! ### zip(a, b), two lists of one length -/
def Itz (K : PySem.W.Frag) (l1 l2 : Addr) : It :=
  ⟨fun i H => ∃ xs ys x y, SqL K H l1 xs ∧ SqL K H l2 ys ∧ xs[i]? = some x ∧ ys[i]? = some y,
   fun i H v H' => ∃ (T : Addr) (x y : V), v = .ref T ∧ H T = none ∧ H' = upd H T (.par [x, y]) ∧ ∀ xs ys, SqL K H l1 xs → SqL K H l2 ys → xs[i]? = some x ∧ ys[i]? = some y,
   fun i H => ∃ xs ys, SqL K H l1 xs ∧ SqL K H l2 ys ∧ xs.length = i ∧ ys.length = i⟩
theorem zip_apart (n l1 l2 : Nat) (h1 : l1 < n) (h2 : l2 < n) : ZipApart (n + 4) (n + 2) (n + 3) n (n + 1) l1 l2 := by
  constructor <;> intro z <;> refine absurd (show @Eq Nat _ _ from z) ?_ <;> omega
section
variable {X : Cx} {elts : List Expr} {kk : Nat} {tp : Pos}
def iZip (K : PySem.W.Frag) (ta : TA) : TI := fun σ H R => ta σ H fun vs H1 => ∃ l1 l2, vs = [.ref l1, .ref l2] ∧ (∃ xs ys, SqL K H1 l1 xs ∧ SqL K H1 l2 ys) ∧ R (Itz K l1 l2) H1
end
end L2
-- part PMt
set_option Elab.async false
set_option linter.all false
set_option maxRecDepth 100000
namespace L2
open PySem PySem.Spec PyProof.Rows SeqAt
/-! ### t.index(x) -/
def idxBody (items : Array Value) (x : Value) (i : Nat) (_ : Option PySem.Fin × Unit) : Sem (ForInStep (Option PySem.Fin × Unit)) :=
  match items[i]? with
  | some y => (do
    let b ← eqBool y x
    if b = true then (do let v ← retInt (i : Int); pure (ForInStep.done (some v, ()))) else pure (ForInStep.yield (none, ())))
  | _ => pure (ForInStep.yield (none, ()))
def rTIdx (K : PySem.W.Frag) : V → List V → Hp → VK → Prop := fun v vs H Q => ∃ (a : Addr) (xs : List V) (x : V) (j : Nat), v = .ref a ∧ vs = [x] ∧ SqT K H a xs ∧ flatV x = true ∧ xs.all flatV = true ∧ (∃ y, xs[j]? = some y ∧ eqV y x = true) ∧ (∀ m y, m < j → xs[m]? = some y → eqV y x = false) ∧ Q (.int (j : Int)) H
end L2
-- part PMu
set_option Elab.async false
set_option linter.all false
set_option maxRecDepth 100000
namespace L2
open PySem PySem.Spec PyProof.Rows SeqAt
theorem pr_at {α β : Type} {F : α → β → Prop} : ∀ {l₁ : List α} {l₂ : List β} {i : Nat} {x : α}, Paired F l₁ l₂ → l₁[i]? = some x → ∃ y, l₂[i]? = some y ∧ F x y
  | _, _, _, _, .nil, h => by simp at h
  | _, _, 0, _, .cons r _, h => by simp at h; subst h; exact ⟨_, rfl, r⟩
  | _, _, i + 1, _, .cons _ t, h => by
    obtain ⟨y, e, q⟩ := pr_at t (i := i) (by simpa using h)
    exact ⟨y, by simpa using e, q⟩
section
variable {X : Cx}
/-! ### isinstance(x, (A, B)), x an int or a list -/
/-! ### lists that are the same, one deep or two -/
def Eq1 (K : PySem.W.Frag) (H : Hp) (x y : V) : Prop := (∃ i : Int, x = .int i ∧ y = .int i) ∨ ∃ (a b : Addr) (ns : List Int), x = .ref a ∧ y = .ref b ∧ SqL K H a (ns.map V.int) ∧ SqL K H b (ns.map V.int)
def rSameL (K : PySem.W.Frag) (r : Bool) : R2 := fun x y H Q => ∃ (a b : Addr) (xs ys : List V), x = .ref a ∧ y = .ref b ∧ SqL K H a xs ∧ SqL K H b ys ∧ Paired (Eq1 K H) xs ys ∧ Q (.bl r) H
end
/-! ### t[::-1] -/
section
variable {prog : Program} {w : World} {A : Around} {E : Value → Shared → Prop} {s : Shared}
end
section
variable {X : Cx} {e : Expr} {te : TE} {p1 p2 p3 pos : Pos} {j : Nat}
def tRevT (K : PySem.W.Frag) (te : TE) : TE := fun σ H Q => te σ H fun x H1 => ∃ a xs, x = .ref a ∧ SqT K H1 a xs ∧ ∀ p, H1 p = none → Q (.ref p) (upd H1 p (.tup xs.reverse))
end
end L2
-- part P6
set_option Elab.async false
set_option linter.all false
set_option maxRecDepth 100000
namespace L2
open PySem PySem.Spec PyProof.Rows SeqAt
section
variable {X : Cx}
/-! ### sorted of a short list of ints -/
/-! ### list(range(a, b)) -/
def frTo (i : Int) (n : Nat) : List Int := (List.range n).map fun (k : Nat) => i + (k : Int)
/-! ### == of lists of ints -/
theorem ints_vals {ns : List Int} {us : List Value} (r : Vals (ns.map V.int) us) (j : Nat) (h : j < us.length) : ∃ t, us[j] = .int (ns.getD j 0) t := by
  have hl := r.length
  rw [List.length_map] at hl
  have hj : j < ns.length := by omega
  obtain ⟨u, hu, t, ru⟩ := r.get (i := j) (x := .int ns[j]) (by rw [List.getElem?_map, List.getElem?_eq_getElem hj]; rfl)
  rw [List.getElem?_eq_getElem h] at hu
  cases hu
  exact ⟨t, by rw [ru]; simp [hj]⟩
/-! ### l.count(x), l.index(x): flat items -/
theorem count_eqU {x : V} : ∀ {xs : List V} {us : List Value}, Vals xs us → xs.all flatV = true → us.countP (eqU x) = xs.countP fun y => eqV y x
  | _, _, .nil, _ => rfl
  | y :: xs, u :: us, .cons r t, f => by
    rw [List.all_cons, Bool.and_eq_true] at f
    rw [List.countP_cons, List.countP_cons, eqU_of r f.1, count_eqU t f.2]
def rLCnt (K : PySem.W.Frag) : V → List V → Hp → VK → Prop := fun v vs H Q => ∃ (a : Addr) (xs : List V) (x : V), v = .ref a ∧ vs = [x] ∧ SqL K H a xs ∧ flatV x = true ∧ xs.all flatV = true ∧ Q (.int ((xs.countP fun y => eqV y x : Nat) : Int)) H
theorem list_at {its : List Value} {h : Heap} {a : Addr} (pl : h.IsList a its.toArray) : ∃ dd n sl, h.get? a = some { cls := .type "list", dict := dd, data := .seq its.toArray n, slots := sl } := by
  obtain ⟨o, ho, hc, n, hd⟩ := pl
  obtain ⟨cls, dd, dt, sl⟩ := o
  replace hc : cls = .type "list" := hc
  replace hd : dt = .seq its.toArray n := hd
  subst hc hd
  exact ⟨_, _, _, ho⟩
theorem mt_count : MtR X "list.count" (rLCnt X.K) := by
  intro pins s σ H v vs u us Q I rv rvs h
  obtain ⟨a, xs, x, rfl, rfl, hq, fx, fs, q⟩ := h
  cases rv
  obtain ⟨ux, rfl, rx⟩ := vals1 rvs
  obtain ⟨its, r, pl, hz⟩ := I.list hq
  obtain ⟨dd, n, sl, ho⟩ := list_at pl.isList
  refine call_meets F.slot_list_count ⟨_, ho, rfl⟩ F.entry_list_count (F.args_list_count_2 _ _) (list_countAt a its.toArray n dd sl ux (eqU x)) ⟨ho, fun y hy => mem_eqAt rx fx r fs y (by simpa using hy), ?_⟩
  exact ⟨.int _, H, I.tok _, ⟨_, by rw [show its.toArray.toList = its by simp, count_eqU r fs]⟩, q⟩
def rLIdx (K : PySem.W.Frag) : V → List V → Hp → VK → Prop := fun v vs H Q => ∃ (a : Addr) (xs : List V) (x : V) (j : Nat), v = .ref a ∧ vs = [x] ∧ SqL K H a xs ∧ flatV x = true ∧ xs.all flatV = true ∧ (∃ y, xs[j]? = some y ∧ eqV y x = true) ∧ (∀ m y, m < j → xs[m]? = some y → eqV y x = false) ∧ Q (.int (j : Int)) H
theorem mt_lindex : MtR X "list.index" (rLIdx X.K) := by
  intro pins s σ H v vs u us Q I rv rvs h
  obtain ⟨a, xs, x, j, rfl, rfl, hq, fx, fs, ⟨y, hy, ey⟩, hno, q⟩ := h
  cases rv
  obtain ⟨ux, rfl, rx⟩ := vals1 rvs
  obtain ⟨its, r, pl, hz⟩ := I.list hq
  obtain ⟨dd, n, sl, ho⟩ := list_at pl.isList
  have hlen := r.length
  have ans : ∀ k z (hk : k < its.length), xs[k]? = some z → eqU x its[k] = eqV z x := fun k z hk hz' => by
    obtain ⟨w, hw, rw'⟩ := r.get hz'
    rw [List.getElem?_eq_getElem hk] at hw
    cases hw
    exact eqU_of rw' (List.all_eq_true.mp fs z (List.mem_of_getElem? hz'))
  have hj : j < its.length := by have := (List.getElem?_eq_some_iff.mp hy).1; omega
  refine call_meets F.slot_list_index ⟨_, ho, rfl⟩ F.entry_list_index (F.args_list_index_2 _ _)
    (list_indexAt a its.toArray n dd sl ux (eqU x) j (by simpa using hj) (by rw [sizeLine_eq] at hz; omega) (by simpa [ey] using ans j y hj hy) (fun m hm hmj => ?_)) ⟨ho, fun y hy => mem_eqAt rx fx r fs y (by simpa using hy), ?_⟩
  · have hm' : m < its.length := by simpa using hm
    have hx : m < xs.length := by omega
    have e := ans m _ hm' (List.getElem?_eq_getElem hx)
    rw [hno m _ hmj (List.getElem?_eq_getElem hx)] at e
    simpa using e
  · exact ⟨.int (j : Int), H, I.tok _, ⟨_, rfl⟩, q⟩
/-! ### f'a{n}b{m}c' -/
def tFs5 (ta tb tc td te : TE) : TE := fun σ H Q => ta σ H fun v1 H1 => ∃ x1, v1 = .str x1 ∧ (Str.empty ++ x1).length ≤ sizeLine ∧ tb σ H1 fun v2 H2 => ∃ n : Int, v2 = .int n ∧ n.natAbs.log2 < 1920 ∧ (Str.empty ++ x1 ++ (Str.ofString (toString n))).length ≤ sizeLine ∧
  tc σ H2 fun v3 H3 => ∃ x3, v3 = .str x3 ∧ (Str.empty ++ x1 ++ (Str.ofString (toString n)) ++ x3).length ≤ sizeLine ∧ td σ H3 fun v4 H4 => ∃ m : Int, v4 = .int m ∧ m.natAbs.log2 < 1920 ∧ (Str.empty ++ x1 ++ (Str.ofString (toString n)) ++ x3 ++ (Str.ofString (toString m))).length ≤ sizeLine ∧
  te σ H4 fun v5 H5 => ∃ x5, v5 = .str x5 ∧ (Str.empty ++ x1 ++ (Str.ofString (toString n)) ++ x3 ++ (Str.ofString (toString m)) ++ x5).length ≤ sizeLine ∧ ∀ z, Q (.str z) H5
end
end L2
-- part P7
set_option Elab.async false
set_option linter.all false
set_option maxRecDepth 100000
namespace L2
open PySem PySem.Spec PyProof.Rows
/-- the cell of a lambda of one free name, and what it holds -/
structure One (base : Heap) (scope : Scope) (cl : List (Str × Addr)) (x : Str) (vx : V) : Prop where
  kx : scope.names.lookup x = some .free
  only : ∀ z, scope.names.lookup z = some .cell ∨ scope.names.lookup z = some .free → z = x
  cx : ∃ c u, cl.lookup x = some c ∧ base.IsCell c (some u) ∧ RelV vx u
  mem : ∀ z c, cl.lookup z = some c → z = x
end L2
-- part P8
set_option Elab.async false
set_option linter.all false
set_option maxRecDepth 100000
namespace L2
open PySem PySem.Spec PyProof.Rows
/-! ### zip of two things that are walked, whatever they are -/
/-- an iterator at i over a thing at l: n items, told by f; S says how it stands -/
structure Src (prog : Program) (w : World) (i l : Addr) (n : Nat) (f : Nat → Value) (S : Nat → Heap → Prop) : Prop where
  here : ∀ k h, S k h → ∃ o, h.get? i = some o
  stay : ∀ k h h', S k h → (∀ c, c = i ∨ c = l → ∀ o, h.get? c = some o → h'.get? c = some o) → S k h'
  item : ∀ (A : Around) k (s : Shared) (Q : Value → Shared → Prop) (E : Value → Shared → Prop), k < n → S k s.heap → (∀ h', S (k + 1) h' → Heap.SameBut i s.heap h' → Q (f k) { s with heap := h' }) → wpAny (model prog w) A (Builtin.SmallTypes.nextOf (.ref i)) Q E s
  stop : ∀ (A : Around) (s : Shared) (Q : Value → Shared → Prop) (E : Value → Shared → Prop), A.handled = none → S n s.heap → (∀ h' e, Heap.ExtBut i s.heap h' → (∃ o, h'.get? e = some o ∧ o.cls = .type "StopIteration") → E (.ref e) { s with heap := h' }) → wpAny (model prog w) A (Builtin.SmallTypes.nextOf (.ref i)) Q E s
theorem src_tuple (prog : Program) (w : World) {i l : Addr} (its : Array Value) (hne : l ≠ i) : Src prog w i l its.size (fun k => its.getD k .none) (fun k h => IsTupIter h i l k ∧ IsTup h l its) where
  here := fun k h ⟨⟨o, ho, _⟩, _⟩ => ⟨o, ho⟩
  stay := fun k h h' ⟨⟨o, ho, r⟩, ⟨u, hu, r'⟩⟩ st => ⟨⟨o, st i (.inl rfl) o ho, r⟩, ⟨u, st l (.inr rfl) u hu, r'⟩⟩
  item := fun A k s Q E hk ⟨hi, ht⟩ q => by
    obtain ⟨oi, gi, ci, di⟩ := id hi
    obtain ⟨ot, gt, ct, nt, dt⟩ := id ht
    have hx : its[k]? = some (its.getD k .none) := by simp [hk]
    unfold Builtin.SmallTypes.nextOf
    refine wpAny_bind (wpAny_callSpecial?_slot (name := Str.ofString "__next__") hi.typeIs slot_tupleiter_next (wpAny_call_entry slot_tupleiter_next hi.typeIs entry_tupleiter_next ?_ (args_tupleiter_next _)))
    refine (show wpAny _ _ (field (.ref i) 0 >>= _) _ _ s from wpAny_bind (wpAny_field gi di (x := .ref l) rfl ?_))
    refine (show wpAny _ _ (if (Value.ref l == Value.none) = true then _ else _) _ _ s from ?_)
    rw [if_neg (by exact Bool.false_ne_true)]
    refine (show wpAny _ _ (field (.ref i) 1 >>= _) _ _ s from wpAny_bind (wpAny_field gi di (x := .int k 0) rfl ?_))
    refine (show wpAny _ _ (seqItems? (.ref l) >>= _) _ _ s from wpAny_bind (wpAny_seqItems gt dt ?_))
    simp only [Int.toNat_natCast, hx]
    refine wpAny_bind (wpAny_setField gi di (by simp) (wpAny_pure ⟨_, rfl, wpAny_pure (q _ ⟨⟨_, Heap.get?_update_self _ gi (Obj.isFreed_of_fields (Obj.data_mapFields di _)), (Obj.cls_mapFields ..).trans ci, ?_⟩, ?_⟩ (Heap.SameBut.update ..))⟩))
    · rw [Obj.data_mapFields di]; simp [rawInt]
    · exact ⟨ot, (Heap.SameBut.update ..).extBut _ _ hne gt, ct, nt, dt⟩
  stop := fun A s Q E hh ⟨hi, ht⟩ q => by
    obtain ⟨oi, gi, ci, di⟩ := id hi
    obtain ⟨ot, gt, ct, nt, dt⟩ := id ht
    have hx : its[its.size]? = none := by simp
    unfold Builtin.SmallTypes.nextOf
    refine wpAny_bind (wpAny_callSpecial?_slot (name := Str.ofString "__next__") hi.typeIs slot_tupleiter_next (wpAny_call_entry slot_tupleiter_next hi.typeIs entry_tupleiter_next ?_ (args_tupleiter_next _)))
    refine (show wpAny _ _ (field (.ref i) 0 >>= _) _ _ s from wpAny_bind (wpAny_field gi di (x := .ref l) rfl ?_))
    refine (show wpAny _ _ (if (Value.ref l == Value.none) = true then _ else _) _ _ s from ?_)
    rw [if_neg (by exact Bool.false_ne_true)]
    refine (show wpAny _ _ (field (.ref i) 1 >>= _) _ _ s from wpAny_bind (wpAny_field gi di (x := .int its.size 0) rfl ?_))
    refine (show wpAny _ _ (seqItems? (.ref l) >>= _) _ _ s from wpAny_bind (wpAny_seqItems gt dt ?_))
    simp only [Int.toNat_natCast, hx]
    refine wpAny_bind (wpAny_rule (wpAny_bind (wpAny_setField gi di (by simp) ?_)))
    refine (show wpAny _ _ (newExc (.type "StopIteration") [] >>= _) _ _ _ from wpAny_bind ?_)
    simp only [newExc, newTuple]
    refine wpAny_bind (wpAny_newObj_type ?_ (by size_fits))
    refine wpAny_bind (m := firstArgMember _ _) (wpAny_of_eq (a := Value.none) (by first | rfl | (simp only [firstArgMember]; rfl)) ?_)
    refine wpAny_newObj_type ?_ (by size_fits)
    simp only [raiseNew]
    refine wpAny_bind (wpAny_handled ?_)
    first | rw [show A.in1.handled = none from hh] | rw [hh]
    refine wpAny_bind (wpAny_pure (wpAny_throw ?_))
    exact q _ _ (((Heap.SameBut.update ..).extBut.push _).push _) ⟨_, Heap.get?_push_size _ rfl, rfl⟩
section
variable {prog : Program} {w : World} {A : Around} {E : Value → Shared → Prop} {s : Shared} {z TI TO i1 i2 l1 l2 : Addr} {n k : Nat} {f g : Nat → Value} {S1 S2 : Nat → Heap → Prop}
theorem zn_item {a b : Value} {Q : Value → Shared → Prop} (U1 : Src prog w i1 l1 n f S1) (U2 : Src prog w i2 l2 n g S2) (D : ZipApart z TI TO i1 i2 l1 l2) (hk : k < n) (hz : IsZip s.heap z TI TO .none) (hI : IsPair s.heap TI (.ref i1) (.ref i2)) (hO : IsPair s.heap TO a b) (h1 : S1 k s.heap) (h2 : S2 k s.heap)
    (q : ∀ h', IsZip h' z TI TO (rawInt s.heap.objs.size) → IsPair h' TO (f k) (g k) → S1 (k + 1) h' → S2 (k + 1) h' → IsPair h' s.heap.objs.size (f k) (g k) → h'.objs.size = s.heap.objs.size + 1 →
      (∀ c o, c ≠ z → c ≠ TO → c ≠ i1 → c ≠ i2 → s.heap.get? c = some o → h'.get? c = some o) → Q (.ref s.heap.objs.size) { s with heap := h' }) :
    wpAny (model prog w) A (Builtin.«zip.__next__» ⟨[.ref z], []⟩) (fun fin s' => ∃ v, fin = .done (.ret v) ∧ Q v s') E s := by
  refine (show wpAny _ _ (field (.ref z) 2 >>= _) _ _ _ from wpAny_bind (wpAny_field hz rfl (x := .bool false) rfl ?_))
  refine (show wpAny _ _ (field (.ref z) 3 >>= _) _ _ _ from wpAny_bind (wpAny_field hz rfl (x := .ref TI) rfl (wpAny_bind (wpAny_seqItems hI rfl ?_))))
  refine (show wpAny _ _ (Builtin.SmallTypes.ownedTupleIsFree (.ref z) >>= _) _ _ _ from wpAny_bind ?_)
  unfold Builtin.SmallTypes.ownedTupleIsFree
  refine wpAny_bind (wpAny_field hz rfl (x := .none) rfl (wpAny_pure ?_))
  simp only [if_true]
  refine wpAny_bind (wpAny_rule (wpAny_bind (wpAny_field hz rfl (x := .ref TO) rfl (wpAny_bind (wpAny_setField_rec hz (by simp) fun m1 zz1 e1 => ?_)))))
  replace zz1 : IsZip m1 z TI TO .ellipsis := zz1
  have b1 := e1.extBut
  refine wpAny_bind ?_
  simp only [List.zipIdx_cons, List.zipIdx_nil, List.forIn_cons, List.forIn_nil]
  refine wpAny_bind (wpAny_bind (wpAny_onRaise ?_))
  have st1 : S1 k m1 := U1.stay _ _ _ h1 fun c hc o ho => by rcases hc with rfl | rfl <;> first | exact b1 _ _ D.i1z ho | exact b1 _ _ D.l1z ho
  refine (show wpAny _ _ (Builtin.SmallTypes.nextOf (.ref i1) >>= _) _ _ _ from wpAny_bind (U1.item _ k _ _ _ hk st1 fun m2 st2 e2 => wpAny_pure ?_))
  have b2 := e2.extBut
  have o2 : IsPair m2 TO a b := b2 _ _ D.TOi1 (b1 _ _ D.TOz hO)
  refine wpAny_bind (wpAny_seqItems o2 rfl (wpAny_bind (wpAny_updateSeq_pair o2 fun m3 o3 e3 => ?_)))
  replace o3 : IsPair m3 TO (f k) b := o3
  have b3 := e3.extBut
  refine wpAny_bind (wpAny_letGo (wpAny_pure (wpAny_bind (wpAny_bind (wpAny_onRaise ?_)))))
  have w3 : S2 k m3 := U2.stay _ _ _ h2 fun c hc o ho => by
    rcases hc with rfl | rfl
    · exact b3 _ _ D.TOi2.symm (b2 _ _ D.i12.symm (b1 _ _ D.i2z ho))
    · exact b3 _ _ D.l2TO (b2 _ _ D.l2i1 (b1 _ _ D.l2z ho))
  refine (show wpAny _ _ (Builtin.SmallTypes.nextOf (.ref i2) >>= _) _ _ _ from wpAny_bind (U2.item _ k _ _ _ hk w3 fun m4 w4 e4 => wpAny_pure ?_))
  have b4 := e4.extBut
  have o4 : IsPair m4 TO (f k) b := b4 _ _ D.TOi2 o3
  refine wpAny_bind (wpAny_seqItems o4 rfl (wpAny_bind (wpAny_updateSeq_pair o4 fun m5 o5 e5 => ?_)))
  replace o5 : IsPair m5 TO (f k) (g k) := o5
  have b5 := e5.extBut
  refine wpAny_bind (wpAny_letGo (wpAny_pure (wpAny_pure (wpAny_bind (wpAny_seqItems o5 rfl (wpAny_bind (wpAny_newTuple ?_)))))))
  have sz : m5.objs.size = s.heap.objs.size := by rw [e5.1, e4.1, e3.1, e2.1, e1.1]
  have z5 : IsZip m5 z TI TO .ellipsis := b5 _ _ D.TOz.symm (b4 _ _ D.i2z.symm (b3 _ _ D.TOz.symm (b2 _ _ D.i1z.symm zz1)))
  have kp : ∀ c o, c ≠ z → c ≠ TO → c ≠ i1 → c ≠ i2 → s.heap.get? c = some o → m5.get? c = some o := fun c o c1 c2 c3 c4 e => b5 _ _ c2 (b4 _ _ c4 (b3 _ _ c2 (b2 _ _ c3 (b1 _ _ c1 e))))
  have st5 : S1 (k + 1) m5 := U1.stay _ _ _ st2 fun c hc o ho => by
    rcases hc with rfl | rfl
    · exact b5 _ _ D.TOi1.symm (b4 _ _ D.i12 (b3 _ _ D.TOi1.symm ho))
    · exact b5 _ _ D.l1TO (b4 _ _ D.l1i2 (b3 _ _ D.l1TO ho))
  have w5 : S2 (k + 1) m5 := U2.stay _ _ _ w4 fun c hc o ho => by rcases hc with rfl | rfl <;> first | exact b5 _ _ D.TOi2.symm ho | exact b5 _ _ D.l2TO ho
  have zlt : z < m5.objs.size := Heap.lt_size z5
  refine (show wpAny _ _ (Builtin.SmallTypes.ownedTupleHandOut (.ref z) (.ref m5.objs.size) >>= _) _ _ _ from wpAny_bind ?_)
  unfold Builtin.SmallTypes.ownedTupleHandOut
  have z6 : IsZip (m5.push { cls := .type "tuple", data := .seq #[f k, g k] }) z TI TO .ellipsis := Heap.get?_push_of_some _ z5
  refine wpAny_bind (wpAny_setField_rec z6 (by simp) fun m7 z7 e7 => ?_)
  replace z7 : IsZip m7 z TI TO (rawInt m5.objs.size) := z7
  refine wpAny_setField_rec z7 (by simp) fun m8 z8 e8 => ?_
  replace z8 : IsZip m8 z TI TO (rawInt m5.objs.size) := z8
  have up : ∀ c o, c ≠ z → m5.get? c = some o → m8.get? c = some o := fun c o c1 e => e8.extBut _ _ c1 (e7.extBut _ _ c1 (Heap.get?_push_of_some _ e))
  have t8 : IsPair m8 m5.objs.size (f k) (g k) := e8.extBut _ _ (Nat.ne_of_gt zlt) (e7.extBut _ _ (Nat.ne_of_gt zlt) (Heap.get?_push_size _ rfl))
  have s8 : m8.objs.size = m5.objs.size + 1 := by rw [e8.1, e7.1, Heap.size_push]
  rw [sz] at z8 t8 s8
  refine wpAny_pure ⟨_, rfl, ?_⟩
  show Q (.ref m5.objs.size) _
  rw [sz]
  refine q m8 z8 (up _ _ D.TOz o5) (U1.stay _ _ _ st5 fun c hc o ho => ?_) (U2.stay _ _ _ w5 fun c hc o ho => ?_) t8 s8 fun c o c1 c2 c3 c4 e => up c o c1 (kp c o c1 c2 c3 c4 e)
  · rcases hc with rfl | rfl <;> first | exact up _ _ D.i1z ho | exact up _ _ D.l1z ho
  · rcases hc with rfl | rfl <;> first | exact up _ _ D.i2z ho | exact up _ _ D.l2z ho
theorem zn_end {a b : Value} {Q : PySem.Fin → Shared → Prop} (hh : A.handled = none) (U1 : Src prog w i1 l1 n f S1) (D : ZipApart z TI TO i1 i2 l1 l2) (hz : IsZip s.heap z TI TO .none) (hI : IsPair s.heap TI (.ref i1) (.ref i2)) (hO : IsPair s.heap TO a b) (h1 : S1 n s.heap)
    (q : ∀ h' e, (∀ c o, c ≠ z → c ≠ TO → c ≠ i1 → c ≠ i2 → s.heap.get? c = some o → h'.get? c = some o) → (∃ o, h'.get? e = some o ∧ o.cls = .type "StopIteration") → E (.ref e) { s with heap := h' }) :
    wpAny (model prog w) A (Builtin.«zip.__next__» ⟨[.ref z], []⟩) Q E s := by
  refine (show wpAny _ _ (field (.ref z) 2 >>= _) _ _ _ from wpAny_bind (wpAny_field hz rfl (x := .bool false) rfl ?_))
  refine (show wpAny _ _ (field (.ref z) 3 >>= _) _ _ _ from wpAny_bind (wpAny_field hz rfl (x := .ref TI) rfl (wpAny_bind (wpAny_seqItems hI rfl ?_))))
  refine (show wpAny _ _ (Builtin.SmallTypes.ownedTupleIsFree (.ref z) >>= _) _ _ _ from wpAny_bind ?_)
  unfold Builtin.SmallTypes.ownedTupleIsFree
  refine wpAny_bind (wpAny_field hz rfl (x := .none) rfl (wpAny_pure ?_))
  simp only [if_true]
  refine wpAny_bind (wpAny_rule (wpAny_bind (wpAny_field hz rfl (x := .ref TO) rfl (wpAny_bind (wpAny_setField_rec hz (by simp) fun m1 zz1 e1 => ?_)))))
  replace zz1 : IsZip m1 z TI TO .ellipsis := zz1
  have b1 := e1.extBut
  refine wpAny_bind ?_
  simp only [List.zipIdx_cons, List.zipIdx_nil, List.forIn_cons, List.forIn_nil]
  refine wpAny_bind (wpAny_bind (wpAny_onRaise ?_))
  have st1 : S1 n m1 := U1.stay _ _ _ h1 fun c hc o ho => by rcases hc with rfl | rfl <;> first | exact b1 _ _ D.i1z ho | exact b1 _ _ D.l1z ho
  refine (show wpAny _ _ (Builtin.SmallTypes.nextOf (.ref i1) >>= _) _ _ _ from wpAny_bind (U1.stop _ _ _ _ hh st1 fun m2 e e2 he => ?_))
  obtain ⟨oe, ge, ce⟩ := he
  have z2 : IsZip m2 z TI TO .ellipsis := e2 _ _ D.i1z.symm zz1
  have nez : e ≠ z := fun y => by subst y; rw [z2] at ge; cases ge; simp at ce
  refine wpAny_setField_rec z2 (by simp) fun m3 _ e3 => q m3 e (fun c o c1 _ c3 _ x => e3.extBut _ _ c1 (e2 _ _ c3 (b1 _ _ c1 x))) ⟨oe, e3.extBut _ _ nez ge, ce⟩
end
end L2
-- part P9
set_option Elab.async false
set_option linter.all false
set_option maxRecDepth 100000
namespace L2
open PySem PySem.Spec PyProof.Rows
section
variable {prog : Program} {w : World} {A : Around} {z TI TO i1 i2 l1 l2 : Addr} {n : Nat} {f g : Nat → Value} {S1 S2 : Nat → Heap → Prop}
theorem walk_zip (hh : A.handled = none) (U1 : Src prog w i1 l1 n f S1) (U2 : Src prog w i2 l2 n g S2) (D : ZipApart z TI TO i1 i2 l1 l2) :
    WalksT prog w A z [z, TI, TO, i1, i2, l1, l2] [z, TO, i1, i2] n (fun k vals => vals = #[f k, g k])
      (fun k h => IsZip h z TI TO .none ∧ IsPair h TI (.ref i1) (.ref i2) ∧ (∃ a b, IsPair h TO a b) ∧ S1 k h ∧ S2 k h)
      (fun k T h => IsZip h z TI TO (rawInt T) ∧ IsPair h TI (.ref i1) (.ref i2) ∧ (∃ a b, IsPair h TO a b) ∧ S1 (k + 1) h ∧ S2 (k + 1) h ∧ T ∉ [z, TO, i1, i2]) where
  sub := fun c hc => by
    simp only [List.mem_cons, List.not_mem_nil, or_false] at hc ⊢
    rcases hc with rfl | rfl | rfl | rfl <;> simp
  frame := fun k h h' ⟨a1, a2, ⟨a, b, a3⟩, a4, a5⟩ kp => ⟨kp z (by simp) _ a1, kp TI (by simp) _ a2, ⟨a, b, kp TO (by simp) _ a3⟩, U1.stay _ _ _ a4 fun c hc o => kp c (by rcases hc with rfl | rfl <;> simp) o, U2.stay _ _ _ a5 fun c hc o => kp c (by rcases hc with rfl | rfl <;> simp) o⟩
  item := fun k s Q E hk ⟨a1, a2, ⟨a, b, a3⟩, a4, a5⟩ q => by
    have ty : s.TypeIs (.ref z) "zip" := ⟨_, a1, rfl⟩
    have ne : ∀ {c o}, s.heap.get? c = some o → s.heap.objs.size ≠ c := fun e => Nat.ne_of_gt (Heap.lt_size e)
    obtain ⟨o1, g1⟩ := U1.here _ _ a4
    obtain ⟨o2, g2⟩ := U2.here _ _ a5
    unfold pyNext
    refine wpAny_bind (wpAny_attempt (wpAny_callSpecial?_slot (name := Str.ofString "__next__") ty F.slot_zip_next (wpAny_call_entry F.slot_zip_next ty F.entry_zip_next (zn_item U1 U2 D hk a1 a2 a3 a4 a5 fun h' c1 c2 c3 c4 c5 c6 c7 => wpAny_pure ?_) (F.args_zip_next_1 _))))
    refine q s.heap.objs.size #[f k, g k] h' s.toks rfl (Nat.le_refl _) ⟨_, c5, rfl, _, rfl⟩ ⟨c1, c7 _ _ D.TIz D.TITO D.TIi1 D.TIi2 a2, ⟨_, _, c2⟩, c3, c4, fun m => ?_⟩ fun c o hc e => c7 c o (fun x => hc (by simp [x])) (fun x => hc (by simp [x])) (fun x => hc (by simp [x])) (fun x => hc (by simp [x])) e
    simp only [List.mem_cons, List.not_mem_nil, or_false] at m
    rcases m with m | m | m | m
    · exact ne a1 m
    · exact ne a3 m
    · exact ne g1 m
    · exact ne g2 m
  go := fun elts kk pos k T s Q E ⟨a1, a2, ⟨a, b, a3⟩, a4, a5, _⟩ q => wpAny_letOwnedTupleGo_zip a1 fun h' z' s' => by
    have ex := s'.extBut
    refine q h' ⟨z', ex _ _ D.TIz a2, ⟨a, b, ex _ _ D.TOz a3⟩, U1.stay _ _ _ a4 fun c hc o ho => ?_, U2.stay _ _ _ a5 fun c hc o ho => ?_⟩ fun c o hc e => ex _ _ (fun x => hc (by simp [x])) e
    · rcases hc with rfl | rfl <;> first | exact ex _ _ D.i1z ho | exact ex _ _ D.l1z ho
    · rcases hc with rfl | rfl <;> first | exact ex _ _ D.i2z ho | exact ex _ _ D.l2z ho
  apart := fun k T h ⟨_, _, _, _, _, t⟩ => t
  done := fun s Q E ⟨a1, a2, ⟨a, b, a3⟩, a4, a5⟩ q => by
    have ty : s.TypeIs (.ref z) "zip" := ⟨_, a1, rfl⟩
    unfold pyNext
    refine wpAny_bind (wpAny_attempt (wpAny_callSpecial?_slot (name := Str.ofString "__next__") ty F.slot_zip_next (wpAny_call_entry F.slot_zip_next ty F.entry_zip_next (zn_end hh U1 D a1 a2 a3 a4 fun h' e kp he => ?_) (F.args_zip_next_1 _))))
    obtain ⟨o, ho, hc⟩ := he
    refine wpAny_bind (wpAny_isInstance (T := "StopIteration") (b := true) ⟨o, ho, hc⟩ isSubtype_stop (wpAny_pure (q _ s.toks fun c o hc e => ?_)))
    exact kp c o (fun x => hc (by simp [x])) (fun x => hc (by simp [x])) (fun x => hc (by simp [x])) (fun x => hc (by simp [x])) e
  self := fun k s Q E st q => wpAny_pyIter_zip st.1 q
end
/-! ### zip(s, t), s and t tuples -/
abbrev zt1 (h : Heap) (l1 : Addr) : Heap := h.push { cls := .type "tuple_iterator", data := .fields #[.ref l1, .int 0 0] }
abbrev zt2 (h : Heap) (l1 l2 : Addr) : Heap := (zt1 h l1).push { cls := .type "tuple_iterator", data := .fields #[.ref l2, .int 0 0] }
abbrev zt3 (h : Heap) (l1 l2 : Addr) : Heap := (zt2 h l1 l2).push { cls := .type "tuple", data := .seq #[.ref h.objs.size, .ref (zt1 h l1).objs.size] }
abbrev zt4 (h : Heap) (l1 l2 : Addr) : Heap := (zt3 h l1 l2).push { cls := .type "tuple", data := .seq #[.none, .none] }
abbrev zt5 (h : Heap) (l1 l2 : Addr) : Heap := (zt4 h l1 l2).push { cls := .type "zip", data := .fields #[.none, .bool false, .bool false, .ref (zt2 h l1 l2).objs.size, .ref (zt3 h l1 l2).objs.size] }
theorem isTup_push {h : Heap} {l : Addr} {xs : Array Value} (t : IsTup h l xs) (o : Obj) : IsTup (h.push o) l xs := let ⟨u, hu, r⟩ := t; ⟨u, Heap.get?_push_of_some _ hu, r⟩
theorem zt_new (l1 l2 : Addr) (xs ys : Array Value) : Meets (Builtin.«zip.__new__» ⟨[.type "zip", .ref l1, .ref l2], []⟩) (fun _ R s => IsTup s.heap l1 xs ∧ IsTup s.heap l2 ys ∧ R (.ok (.ret (.ref (zt4 s.heap l1 l2).objs.size))) { s with heap := zt5 s.heap l1 l2 }) :=
  .of_wp fun prog w A R s h => by
    obtain ⟨hp, gg, d, tk, os⟩ := s
    obtain ⟨t1, t2, h⟩ := h
    have hsub := sub_zip
    have T1 : IsTup (Shared.heap ⟨hp, gg, d, tk, os⟩) l1 xs := t1
    have T2 : IsTup (Shared.heap ⟨hp.push { cls := .type "tuple_iterator", data := .fields #[.ref l1, .int 0 0] }, gg, d, tk, os⟩) l2 ys := isTup_push t2 _
    wp_walk using iter_tuple T1, iter_tuple T2
    exact ⟨_, rfl, h⟩
theorem call_zt {prog : Program} {w : World} {A : Around} {E : Value → Shared → Prop} {s : Shared} {l1 l2 : Addr} {xs ys : Array Value} {Q : Value → Shared → Prop} (t1 : IsTup s.heap l1 xs) (t2 : IsTup s.heap l2 ys)
    (q : ∀ h', IsZip h' (s.heap.objs.size + 4) (s.heap.objs.size + 2) (s.heap.objs.size + 3) .none → IsPair h' (s.heap.objs.size + 2) (.ref s.heap.objs.size) (.ref (s.heap.objs.size + 1)) → IsPair h' (s.heap.objs.size + 3) .none .none →
      IsTupIter h' s.heap.objs.size l1 0 → IsTupIter h' (s.heap.objs.size + 1) l2 0 → (∀ c o, s.heap.get? c = some o → h'.get? c = some o) → Q (.ref (s.heap.objs.size + 4)) { s with heap := h' }) :
    wpAny (model prog w) A (call (.type "zip") [.ref l1, .ref l2]) Q E s := by
  refine callType_new F.called_zip (by decide) (F.typeCall_zip_2 _ _) (F.newCall_zip_2 _ _) (fun obj => F.args_object_init_3 obj _ _) F.entry_zip_new (zt_new l1 l2 xs ys) ⟨t1, t2, ?_⟩
  have y1 : (zt1 s.heap l1).objs.size = s.heap.objs.size + 1 := Heap.size_push ..
  have y2 : (zt2 s.heap l1 l2).objs.size = s.heap.objs.size + 2 := by rw [Heap.size_push, y1]
  have y3 : (zt3 s.heap l1 l2).objs.size = s.heap.objs.size + 3 := by rw [Heap.size_push, y2]
  have y4 : (zt4 s.heap l1 l2).objs.size = s.heap.objs.size + 4 := by rw [Heap.size_push, y3]
  have p : ∀ {h : Heap} {c : Addr} {o u : Obj}, h.get? c = some o → (h.push u).get? c = some o := fun e => Heap.get?_push_of_some _ e
  have x5 : (zt5 s.heap l1 l2).get? (zt4 s.heap l1 l2).objs.size = some _ := Heap.get?_push_size _ rfl
  have x4 : (zt5 s.heap l1 l2).get? (zt3 s.heap l1 l2).objs.size = some _ := p (Heap.get?_push_size _ rfl)
  have x3 : (zt5 s.heap l1 l2).get? (zt2 s.heap l1 l2).objs.size = some _ := p (p (Heap.get?_push_size _ rfl))
  have x2 : (zt5 s.heap l1 l2).get? (zt1 s.heap l1).objs.size = some _ := p (p (p (Heap.get?_push_size _ rfl)))
  have x1 : (zt5 s.heap l1 l2).get? s.heap.objs.size = some _ := p (p (p (p (Heap.get?_push_size _ rfl))))
  show _ ∧ _
  rw [y2, y3, y4] at x5
  rw [y1, y2] at x3
  rw [y3] at x4
  rw [y1] at x2
  rw [y4]
  exact ⟨⟨_, x5, rfl⟩, q _ x5 x3 x4 ⟨_, x1, rfl, rfl⟩ ⟨_, x2, rfl, rfl⟩ fun c o x => p (p (p (p (p x))))⟩
end L2
-- part P10
set_option Elab.async false
set_option linter.all false
set_option maxRecDepth 100000
namespace L2
open PySem PySem.Spec PyProof.Rows
/-! ### zip(a, b), two tuples of one length -/
def ItzT (K : PySem.W.Frag) (l1 l2 : Addr) : It :=
  ⟨fun i H => ∃ xs ys x y, SqT K H l1 xs ∧ SqT K H l2 ys ∧ xs.length = ys.length ∧ xs[i]? = some x ∧ ys[i]? = some y,
   fun i H v H' => ∃ (T : Addr) (x y : V), v = .ref T ∧ H T = none ∧ H' = upd H T (.par [x, y]) ∧ ∀ xs ys, SqT K H l1 xs → SqT K H l2 ys → xs[i]? = some x ∧ ys[i]? = some y,
   fun i H => ∃ xs ys, SqT K H l1 xs ∧ SqT K H l2 ys ∧ xs.length = i ∧ ys.length = i⟩
theorem turn_zipT {P : Program} {w : World} {K : PySem.W.Frag} {elts : List Expr} {kk : Nat} {pos : Pos} (z TI TO i1 i2 l1 l2 : Addr) (D : ZipApart z TI TO i1 i2 l1 l2) :
    Turn P w K (.Tuple elts kk pos) (ItzT K l1 l2) [z, TI, TO, i1, i2] z (fun i h => IsZip h z TI TO .none ∧ IsPair h TI (.ref i1) (.ref i2) ∧ (∃ a b, IsPair h TO a b) ∧ IsTupIter h i1 l1 i ∧ IsTupIter h i2 l2 i) where
  mem := by simp
  obj := fun i h st b hb => by
    obtain ⟨a1, a2, ⟨u, v, a3⟩, ⟨o4, h4, _, d4⟩, ⟨o5, h5, _, d5⟩⟩ := st
    simp only [List.mem_cons, List.not_mem_nil, or_false] at hb
    rcases hb with rfl | rfl | rfl | rfl | rfl
    · exact ⟨_, a1, fun v z => by cases z⟩
    · exact ⟨_, a2, fun v z => by cases z⟩
    · exact ⟨_, a3, fun v z => by cases z⟩
    · exact ⟨_, h4, fun v z => by rw [d4] at z; cases z⟩
    · exact ⟨_, h5, fun v z => by rw [d5] at z; cases z⟩
  keep := fun i h h' st k => by
    obtain ⟨a1, a2, ⟨u, v, a3⟩, a4, a5⟩ := st
    exact ⟨k z (by simp) _ a1, k TI (by simp) _ a2, ⟨u, v, k TO (by simp) _ a3⟩, (let ⟨o, ho, r⟩ := a4; ⟨o, k i1 (by simp) o ho, r⟩), let ⟨o, ho, r⟩ := a5; ⟨o, k i2 (by simp) o ho, r⟩⟩
  item := by
    intro X hP hw hK hc i pins s σ H E I hf st hg
    subst hP hw hK
    obtain ⟨xs, ys, x, y, hq1, hq2, hln, hx, hy⟩ := hg
    obtain ⟨is1, rv1, pl1, hz1⟩ := I.tuple hq1
    obtain ⟨is2, rv2, pl2, hz2⟩ := I.tuple hq2
    obtain ⟨u, hu, ru⟩ := rv1.get hx
    obtain ⟨v, hv, rv⟩ := rv2.get hy
    have hs12 : is2.toArray.size = is1.toArray.size := by
      have e1 := rv1.length
      have e2 := rv2.length
      simp only [List.size_toArray]
      omega
    have hil : i < is1.toArray.size := by
      have e1 := (List.getElem?_eq_some_iff.mp hu).1
      simp only [List.size_toArray]
      omega
    have U2 := src_tuple X.prog X.w is2.toArray D.l2i2
    rw [hs12] at U2
    have W := walk_zip (A := X.A) (I.ok.hd hc) (src_tuple X.prog X.w is1.toArray D.l1i1) U2 D
    obtain ⟨a1, a2, a3, a4, a5⟩ := st
    refine W.item i s _ _ hil ⟨a1, a2, a3, ⟨a4, pl1⟩, ⟨a5, pl2⟩⟩ fun T vals h' tk hP hTs hTup hmid hk => ⟨_, rfl, W.go elts kk pos i T _ _ _ hmid fun h'' st'' hk'' => ?_⟩
    have hx2 : is1.toArray.getD i .none = u := by simp [List.getD_eq_getElem?_getD, hu]
    have hy2 : is2.toArray.getD i .none = v := by simp [List.getD_eq_getElem?_getD, hv]
    rw [hx2, hy2] at hP
    subst hP
    have hTn : H T = none := I.hok.fresh hTs
    have both : ∀ b o, b ∉ [z, TO, i1, i2] → s.heap.get? b = some o → h''.get? b = some o := fun b o hb q => hk'' b o hb (hk b o hb q)
    have sub : ∀ b, b ∉ [z, TI, TO, i1, i2] → b ∉ [z, TO, i1, i2] := fun b hb hm => hb (by
      simp only [List.mem_cons, List.not_mem_nil, or_false] at hm ⊢
      rcases hm with h | h | h | h
      · exact .inl h
      · exact .inr (.inr (.inl h))
      · exact .inr (.inr (.inr (.inl h)))
      · exact .inr (.inr (.inr (.inr h))))
    have hTw : T ∉ [z, TO, i1, i2] := W.apart _ _ _ hmid
    have hTT : h''.IsTuple T #[u, v] := hTup.at fun o q => hk'' T o hTw q
    have neT : ∀ b o, s.heap.get? b = some o → b ≠ T := fun b o q => Nat.ne_of_lt (Nat.lt_of_lt_of_le (Heap.lt_size q) hTs)
    have neT' : ∀ b o, H b = some o → b ≠ T := fun b o q => ne_of_none q hTn
    have trk : ∀ b o, H b = some o → b ∉ [z, TI, TO, i1, i2] := fun b o q hm => by
      have := (hf b hm).1
      rw [this] at q; cases q
    refine ⟨.ref T, upd H T (.par [x, y]), ?_, rfl, ⟨T, x, y, rfl, hTn, rfl, fun as bs ha hb => by rw [I.tuple_inj ha hq1, I.tuple_inj hb hq2]; exact ⟨hx, hy⟩⟩, ⟨st''.1, st''.2.1, st''.2.2.1, st''.2.2.2.1.1, st''.2.2.2.2.1⟩, fun b hb => ?_⟩
    · refine (show Inv X pins σ (upd H T (.par [x, y])) { s with heap := h'', toks := tk } from ?_)
      refine I.call (g' := s.gens) (d' := s.drawn) (t' := tk) (h' := h'') (ch := [z, TI, TO, i1, i2]) ⟨fun b o q _ _ hx => both b o (sub b hx) q, fun b o q _ _ hx => ⟨o.slots, both b o (sub b hx) q⟩, fun b o q n hx => by rw [upd_ne (neT b o q)]; exact n, fun b o q hx => ⟨o, both b o (sub b hx) q⟩,
        fun b ys q => by rw [upd_ne (neT' b _ q)]; exact q, fun b o u q => by rw [upd_ne (neT' b _ q)]; exact q, fun b ps q => ⟨#[], by rw [upd_ne (neT' b _ q), q]; simp⟩⟩ (fun b o q => ?_) I.bare fun b hb => ?_
      · by_cases hb : b = T
        · subst hb
          rw [upd_same] at q
          cases q
          exact ⟨by show 2 ≤ sizeLine; decide, [u, v], .cons ru (.cons rv .nil), hTT⟩
        · rw [upd_ne hb] at q
          refine (I.hok b o q).stay (fun c ob hc' q' => both c ob ?_ q') (fun c q' => by rw [upd_ne (neT' c _ q')]; exact q') fun c ys q' => by rw [upd_ne (neT' c _ q')]; exact q'
          rcases hc' with z' | z'
          · rw [z']; exact sub _ (trk b o q)
          · exact sub _ (trk c _ z')
      · obtain ⟨f0, f1, f2, f3, f4, f5⟩ := hf b hb
        exact ⟨f3, f1, f4, f5⟩
    · have hne : b ≠ T := by
        obtain ⟨f0, _⟩ := hf b hb
        have : ∃ o, s.heap.get? b = some o := by
          obtain ⟨u', v', a3'⟩ := a3
          obtain ⟨o4, h4, _⟩ := a4
          obtain ⟨o5, h5, _⟩ := a5
          simp only [List.mem_cons, List.not_mem_nil, or_false] at hb
          rcases hb with rfl | rfl | rfl | rfl | rfl
          · exact ⟨_, a1⟩
          · exact ⟨_, a2⟩
          · exact ⟨_, a3'⟩
          · exact ⟨_, h4⟩
          · exact ⟨_, h5⟩
        obtain ⟨o, ho⟩ := this
        exact neT b o ho
      rw [upd_ne hne]
      exact (hf b hb).1
  done := by
    intro X hP hw hK hc i pins s σ H E I hf st hg
    subst hP hw hK
    obtain ⟨xs, ys, hq1, hq2, hx, hy⟩ := hg
    obtain ⟨is1, rv1, pl1, hz1⟩ := I.tuple hq1
    obtain ⟨is2, rv2, pl2, hz2⟩ := I.tuple hq2
    have e1 := rv1.length
    have e2 := rv2.length
    have hs12 : is2.toArray.size = is1.toArray.size := by simp only [List.size_toArray]; omega
    have U2 := src_tuple X.prog X.w is2.toArray D.l2i2
    rw [hs12] at U2
    have W := walk_zip (A := X.A) (I.ok.hd hc) (src_tuple X.prog X.w is1.toArray D.l1i1) U2 D
    have hn : i = is1.toArray.size := by simp only [List.size_toArray]; omega
    obtain ⟨a1, a2, a3, a4, a5⟩ := st
    rw [hn] at a4 a5
    have sub : ∀ b, b ∉ [z, TI, TO, i1, i2] → b ∉ [z, TO, i1, i2] := fun b hb hm => hb (by
      simp only [List.mem_cons, List.not_mem_nil, or_false] at hm ⊢
      rcases hm with h | h | h | h
      · exact .inl h
      · exact .inr (.inr (.inl h))
      · exact .inr (.inr (.inr (.inl h)))
      · exact .inr (.inr (.inr (.inr h))))
    refine W.done s _ _ ⟨a1, a2, a3, ⟨a4, pl1⟩, ⟨a5, pl2⟩⟩ fun h' tk hk => ⟨rfl, ?_⟩
    have trk : ∀ b o, H b = some o → b ∉ [z, TI, TO, i1, i2] := fun b o q hm => by
      have := (hf b hm).1
      rw [this] at q; cases q
    refine I.call (g' := s.gens) (d' := s.drawn) (t' := tk) (h' := h') (ch := [z, TI, TO, i1, i2]) ⟨fun b o q _ _ hx => hk b o (sub b hx) q, fun b o q _ _ hx => ⟨o.slots, hk b o (sub b hx) q⟩, fun b o q n hx => n, fun b o q hx => ⟨o, hk b o (sub b hx) q⟩, fun b ys q => q, fun b o u q => q, fun b ps q => ⟨#[], by rw [q]; simp⟩⟩ (fun b o q => ?_) I.bare fun b hb => ?_
    · refine (I.hok b o q).stay (fun c ob hc' q' => hk c ob ?_ q') (fun _ q' => q') fun _ _ q' => q'
      rcases hc' with z' | z'
      · rw [z']; exact sub _ (trk b o q)
      · exact sub _ (trk c _ z')
    · obtain ⟨f0, f1, f2, f3, f4, f5⟩ := hf b hb
      exact ⟨f3, f1, f4, f5⟩
  self := fun A i s Q E st h => wpAny_pyIter_zip st.1 h
section
variable {X : Cx} {elts : List Expr} {kk : Nat} {tp : Pos}
def iZipT (K : PySem.W.Frag) (ta : TA) : TI := fun σ H R => ta σ H fun vs H1 => ∃ l1 l2, vs = [.ref l1, .ref l2] ∧ (∃ xs ys, SqT K H1 l1 xs ∧ SqT K H1 l2 ys) ∧ R (ItzT K l1 l2) H1
theorem pi_zipT {a b : Expr} {ta : TA} {p pos : Pos} (hg : Gl X "zip") (hm : X.mg "zip" = none) (ha : PA X [a, b] ta) (hs : starEach [a, b] X.env = [(false, eval a X.env), (false, eval b X.env)] := by rfl) (hs2 : starEach [b] X.env = [(false, eval b X.env)] := by rfl) :
    PI X (.Tuple elts kk tp) (.Call (.Name "zip" p) [a, b] [] pos) (iZipT X.K ta) := by
  intro pins s σ H R I h
  refine Call_ (ld_blt I hg hm PyProof.Rows.Boot.«zip» (PyProof.Rows.callWith_type1 (thn (ha pos pins s σ H _ I h) fun us s1 ⟨vs, H1, I1, r1, q1⟩ => ?_) (by rw [hs, hs2]) (by rw [hs2]; rfl)))
  obtain ⟨l1, l2, e, ⟨xs, ys, hq1, hq2⟩, q⟩ := q1
  subst e
  obtain ⟨u, v, rfl, ru, rv⟩ := vals2 r1
  cases ru
  cases rv
  obtain ⟨is1, rv1, pl1, hz1⟩ := I1.tuple hq1
  obtain ⟨is2, rv2, pl2, hz2⟩ := I1.tuple hq2
  have t1 : l1 < s1.heap.objs.size := by obtain ⟨o, ho, _⟩ := id pl1; exact Heap.lt_size ho
  have t2 : l2 < s1.heap.objs.size := by obtain ⟨o, ho, _⟩ := id pl2; exact Heap.lt_size ho
  have D := zip_apart s1.heap.objs.size l1 l2 t1 t2
  refine call_zt pl1 pl2 fun h' b1 b2 b3 b4 b5 hk => wpAny_pyIter_zip b1 ?_
  have I2 : Inv X pins σ H1 { s1 with heap := h' } := I1.kept (t' := s1.toks) hk
  refine ⟨s1.heap.objs.size + 4, [s1.heap.objs.size + 4, s1.heap.objs.size + 2, s1.heap.objs.size + 3, s1.heap.objs.size, s1.heap.objs.size + 1], _, _, H1, rfl, I2,
    turn_zipT _ _ _ _ _ l1 l2 D, ⟨b1, b2, ⟨_, _, b3⟩, b4, b5⟩, fun b hb => ?_, q⟩
  have hbs : s1.heap.objs.size ≤ b := by
    simp only [List.mem_cons, List.not_mem_nil, or_false] at hb
    rcases hb with z | z | z | z | z <;> rw [z] <;> first | exact Nat.le_refl _ | exact Nat.le_add_right _ _
  exact I1.fpOk hbs (I1.hok.fresh hbs)
end
theorem nest_zipT {K : PySem.W.Frag} {l1 l2 : Addr} {xs zs : List V} {g : TG} {tt : TT} {ti : TC} {ys : List V} {σ : St} {H : Hp} {Q : List V → St → Hp → Prop} (hlen : xs.length = zs.length) (Pv : Nat → List V → St → Hp → Prop) (h0 : Pv 0 ys σ H)
    (hl : ∀ i ys σ H, i ≤ xs.length → Pv i ys σ H → SqT K H l1 xs ∧ SqT K H l2 zs)
    (hs : ∀ i x y T ys σ H, xs[i]? = some x → zs[i]? = some y → H T = none → Pv i ys σ H → g (.ref T) σ (upd H T (.par [x, y])) fun σ2 H2 => tt σ2 H2 fun b H3 => if b = true then ti ys σ2 H3 (Pv (i + 1)) else Pv (i + 1) ys σ2 H3)
    (hd : ∀ ys σ H, Pv xs.length ys σ H → Q ys σ H) : tNestW g tt ti (ItzT K l1 l2) ys σ H Q := by
  refine ⟨fun i m ys σ H => m = xs.length - i ∧ i ≤ xs.length ∧ Pv i ys σ H, ⟨xs.length, by simp, Nat.zero_le _, h0⟩, ?_⟩
  rintro i m ys σ H ⟨rfl, hi, p⟩
  obtain ⟨q1, q2⟩ := hl i ys σ H hi p
  by_cases hlt : i < xs.length
  · refine .inr ⟨⟨xs, zs, xs[i], zs[i]'(by omega), q1, q2, hlen, by simp [hlt], by simp [hlen ▸ hlt]⟩, Pv (i + 1), fun ys' σ' H' p' => ⟨xs.length - (i + 1), by omega, rfl, hlt, p'⟩, fun x H' y => ?_⟩
    obtain ⟨T, a, b, e1, e2, e3, e4⟩ := y
    subst e1 e3
    obtain ⟨f1, f2⟩ := e4 xs zs q1 q2
    exact hs i a b T ys σ H f1 f2 e2 p
  · have e : i = xs.length := by omega
    subst e
    exact .inl ⟨⟨xs, zs, q1, q2, rfl, hlen.symm⟩, hd ys σ H p⟩
end L2
-- part P11
set_option Elab.async false
set_option linter.all false
set_option maxRecDepth 100000
namespace L2
open PySem PySem.Spec PyProof.Rows SeqAt
section
variable {X : Cx}
/-! ### isinstance(x, (A, B)), x plain -/
theorem call_isinst2T {a b : String} : CallR X (.builtin "isinstance") (fun xs H Q => ∃ (x : V) (t : Addr) (T : Value) (r : Bool), xs = [x, .ref t] ∧ SqT X.K H t [.ty a, .ty b] ∧ ((∃ i, x = .int i ∧ T = .type "int") ∨ (x = .non ∧ T = .type "NoneType") ∨ (∃ l ys, x = .ref l ∧ H l = some (.lst ys) ∧ T = .type "list") ∨ ∃ l ys, x = .ref l ∧ H l = some (.tup ys) ∧ T = .type "tuple") ∧
    PySem.W.kitAny X.K T [.type a, .type b] = some r ∧ Q (.bl r) H) := by
  intro pins s σ H xs us Q I rv h
  obtain ⟨x, t, T, r, rfl, hq, hx, hk, q⟩ := h
  obtain ⟨u, v, rfl, ru, rv⟩ := vals2 rv
  cases rv
  obtain ⟨its, rt, pl, hz⟩ := I.tuple hq
  cases rt with
  | cons r1 r2 =>
    cases r2 with
    | cons r3 r4 =>
      cases r4
      cases r1
      cases r3
      obtain ⟨o, ho, hc, n, hd⟩ := id pl
      obtain ⟨cls, dd, dt, sl⟩ := o
      replace hc : cls = .type "tuple" := hc
      replace hd : dt = .seq [Value.type a, Value.type b].toArray n := hd
      subst hc hd
      rcases hx with ⟨i, rfl, rfl⟩ | ⟨rfl, rfl⟩ | ⟨l, ys, rfl, hl, rfl⟩ | ⟨l, ys, rfl, hl, rfl⟩
      · obtain ⟨tk, rfl⟩ := ru
        exact PySem.W.kia_tup PySem.W.kitx_int I.kIn True.intro ho hk (fun z => nomatch z) fun tk => ⟨.bl r, H, I.tok _, rfl, q⟩
      · cases ru
        exact PySem.W.kia_tup PySem.W.kitx_none I.kIn True.intro ho hk (fun z => nomatch z) fun tk => ⟨.bl r, H, I.tok _, rfl, q⟩
      · cases ru
        obtain ⟨_, _, n, _, h1⟩ := (show ObjOk X.prog X.w H s.heap l (.lst ys) from I.hok l _ hl)
        exact PySem.W.kia_tup PySem.W.kitx_list I.kIn ⟨_, h1, rfl⟩ ho hk (fun z => nomatch z) fun tk => ⟨.bl r, H, I.tok _, rfl, q⟩
      · cases ru
        obtain ⟨_, _, _, p, _⟩ := (show ObjOk X.prog X.w H s.heap l (.tup ys) from I.hok l _ hl)
        obtain ⟨o, h1, h2, _⟩ := p
        exact PySem.W.kia_tup PySem.W.kitx_tuple I.kIn ⟨o, h1, h2⟩ ho hk (fun z => nomatch z) fun tk => ⟨.bl r, H, I.tok _, rfl, q⟩
/-! ### == of tuples of ints -/
theorem op_eqTu (hu : X.A.units < cLine) : OpR X (compareOp .Eq) (fun x y H Q => ∃ (a b : Addr) (ns ms : List Int), x = .ref a ∧ y = .ref b ∧ SqT X.K H a (ns.map V.int) ∧ SqT X.K H b (ms.map V.int) ∧ Q (.bl (decide (ns = ms))) H) := by
  intro pins s σ H x y u v Q I rx ry h
  obtain ⟨a, b, ns, ms, rfl, rfl, ha, hb, q⟩ := h
  cases rx
  cases ry
  obtain ⟨us, r1, p1, _⟩ := I.tuple ha
  obtain ⟨vs, r2, p2, _⟩ := I.tuple hb
  have l1 := r1.length
  have l2 := r2.length
  rw [List.length_map] at l1 l2
  refine eq_tupleAt (e := fun j => ns.getD j 0 == ms.getD j 0) p1 p2 hu (fun j h1 h2 => ?_) ?_
  · obtain ⟨t1, e1⟩ := ints_vals r1 j (by simpa using h1)
    obtain ⟨t2, e2⟩ := ints_vals r2 j (by simpa using h2)
    rw [show us.toArray[j] = us[j]'(by simpa using h1) by simp, show vs.toArray[j] = vs[j]'(by simpa using h2) by simp, e1, e2]
    exact SeqAt.EqAt.int_int _ _ _ _
  · have e : ((List.range (min us.toArray.size vs.toArray.size)).all (fun j => ns.getD j 0 == ms.getD j 0) && us.toArray.size == vs.toArray.size) = decide (ns = ms) := by
      rw [Bool.eq_iff_iff, Bool.and_eq_true, List.all_eq_true, decide_eq_true_eq, beq_iff_eq, List.size_toArray, List.size_toArray]
      constructor
      · rintro ⟨h, hl⟩
        refine List.ext_getElem (by omega) fun i h1 h2 => ?_
        have := h i (by rw [List.mem_range]; omega)
        simpa [h1, h2] using this
      · rintro rfl
        exact ⟨fun j _ => by simp, by omega⟩
    rw [e]
    exact ⟨.bl _, H, I, rfl, q⟩
end
/-! ### lambdas of any free names -/
/-- the cells of a lambda of any free names, and what they hold -/
structure Cells (base : Heap) (scope : Scope) (cl : List (Str × Addr)) (N : List Str) (vs : List V) : Prop where
  len : vs.length = N.length
  only : ∀ z, scope.names.lookup z = some .cell ∨ scope.names.lookup z = some .free → z ∈ N
  at_ : ∀ (i : Nat) x v, N[i]? = some x → vs[i]? = some v → scope.names.lookup x = some .free ∧ ∃ c u, cl.lookup x = some c ∧ base.IsCell c (some u) ∧ RelV v u
  mem : ∀ z c, cl.lookup z = some c → z ∈ N
  inj : ∀ x y c, cl.lookup x = some c → cl.lookup y = some c → x = y
theorem lam_okN {P : Program} {w : World} {K : PySem.W.Frag} {mg : Str → Option Value} {base : Heap} {f : Addr} {q : Str} {params : Arguments} {body : Expr} {scope : Scope} {cl : List (Str × Addr)} {pm : Value} {c : Addr} {ct : Value} {k : Nat} {N : List Str} {ws : List V} {sp : Sp}
    (T : Cells base scope cl N ws) (hk : scope.kind = .function) (hco : scope.isCoroutine = false) (hgen : scope.isGenerator = false) (hcell : ∀ z ∈ scope.names, z.2 ≠ .cell)
    (hsp : ∀ vs H Q E, sp vs H Q E → vs = [] ∧ H f = some (lamO f q params body scope cl pm c ct) ∧ H c = some (codeO c q))
    (hb : ∀ (A : Around) (outer : List Env) (s : Shared) (H : Hp) (Q : VK) (E : XK), Room k (A.deeper (PySem.W.envX q scope s.heap.objs.size f (.ref c) cl)) → sp [] H Q E →
      ∃ t, PE (cxL P w K mg base N q scope f (.ref c) cl A outer s H E) body t ∧ t (ws.map some) H Q) :
    FnOk P w K mg base (CXR P w) (k + 1) f (PySem.W.kla_fn "<lambda>" q params body scope cl pm (.ref c) ct) [] sp := by
  refine ⟨fun vs H Q E h => by rw [(hsp vs H Q E h).1]; rfl, fun A outer s H args us vs Q E hr e0 hbd rv h => ?_⟩
  obtain ⟨rfl, hf, hc⟩ := hsp _ _ _ _ h
  have of : s.heap.get? f = some (PySem.W.kla_obj "<lambda>" q params body scope cl pm c ct) := (e0.hok f _ hf).1
  have oc : s.heap.CodeRec (.ref c) q := (e0.hok c _ hc).1
  have lim : s.heap.NoLimit := e0.mod.nolimit.keeps fun b o e => (e0.bs b o e).1
  refine PySem.W.kla_callFunE hr.depth of rfl hco hgen rfl oc (hbd _ _ _ _ ?_)
  refine wpAny_newFunctionEnv hcell (fun z hz => by cases rv; exact absurd hz (by simp)) (fun h1 hns hsb => ?_) hk
  have k1 : ∀ b o, s.heap.get? b = some o → h1.get? b = some o := fun b o e => hsb.extBut b o (Nat.ne_of_lt (Heap.lt_size e)) (Heap.get?_push_of_some _ e)
  refine ⟨lim.keeps k1, ?_⟩
  show codeAny _ A (.expr body (PySem.W.envX q scope s.heap.objs.size f (.ref c) cl)) _ _
  obtain ⟨t, ht, hq⟩ := hb A outer s H Q E (hr.deeper _) h
  have cellB : ∀ {a : Addr} {v : Option Value}, base.IsCell a v → h1.IsCell a v ∧ H a = none := fun {a v} ⟨o, ho, hd⟩ => ⟨⟨o, k1 _ _ (e0.bs _ _ ho).1, hd⟩, (e0.bs _ _ ho).2⟩
  have atN : ∀ z, z ∈ N → ∃ c u, cl.lookup z = some c ∧ base.IsCell c (some u) := fun z hz => by
    obtain ⟨i, hi, e⟩ := List.getElem_of_mem hz
    have hi' : i < ws.length := by rw [T.len]; exact hi
    obtain ⟨_, c, u, h1, h2, _⟩ := T.at_ i z ws[i] (by rw [← e]; exact List.getElem?_eq_getElem hi) (List.getElem?_eq_getElem hi')
    exact ⟨c, u, h1, h2⟩
  have cells : ∀ z a, cl.lookup z = some a → ∃ v, base.IsCell a v := fun z a hz => by
    obtain ⟨c, u, h1, h2⟩ := atN z (T.mem z a hz)
    rw [hz] at h1; cases h1; exact ⟨_, h2⟩
  have I : Inv (cxL P w K mg base N q scope f (.ref c) cl A outer s H E) [] (ws.map some) H { s with heap := h1, toks := s.toks + (([] : List Str).zip us).length } := by
    refine ⟨⟨e0.mod, hk, rfl, rfl, Nat.le_refl _, fun a b cc h2 h3 => ?_, fun a ha => ?_, fun a cc hn => Bool.noConfusion hn, fun _ => hr.hd, Around.frames_deeper e0.frames, .inr ⟨rfl, rfl⟩, fun b z => absurd (show b ∈ ([] : List Addr) from z) (by simp), e0.bs, e0.bsz, fun b _ _ z => absurd (show b ∈ ([] : List Addr) from z) (by simp), fun b z => absurd (show b ∈ ([] : List Addr) from z) (by simp), e0.funs, e0.frf⟩,
      rfl, e0.bare, Un.kept k1, ⟨_, hns, fun i z v h2 h3 h4 => ?_⟩, fun z a hz => ?_, e0.hok.fresh (Nat.le_refl _), fun z a hz => ?_, fun p hp => absurd (show p ∈ ([] : List (Addr × Obj)) from hp) (by simp), e0.hok.kept k1, (by rw [List.length_map]; exact T.len)⟩
    · have h2 : cl.lookup a = some cc := h2
      have h3 : cl.lookup b = some cc := h3
      exact T.inj _ _ _ h2 h3
    · obtain ⟨c, _, h1, _⟩ := atN a (T.only a ha)
      exact ⟨c, h1⟩
    · have h3' : (ws.map some)[i]? = some (some v) := h3
      rw [List.getElem?_map] at h3'
      obtain ⟨v', e', e''⟩ := Option.map_eq_some_iff.mp h3'
      cases e''
      obtain ⟨kx, c, u, h5, h6, h7⟩ := T.at_ i z v h2 e'
      exact ⟨u, h7, .inr ⟨.inr kx, c, h5, (cellB h6).1⟩⟩
    · obtain ⟨v, b⟩ := cells z a hz
      exact ⟨v, (cellB b).1⟩
    · obtain ⟨v, b⟩ := cells z a hz
      exact (cellB b).2
  refine PySem.W.kla_codeExpr (wpAny_mono (ht [] _ _ H _ I hq) (fun u s' hs => ?_) fun e s' hs => hs)
  obtain ⟨v, H', J, r, z⟩ := hs
  exact ⟨v, H', J.os, J.bare, J.base, J.hok, r, z⟩
end L2
-- part P12
set_option Elab.async false
set_option linter.all false
set_option maxRecDepth 100000
namespace L2
open PySem PySem.Spec PyProof.Rows
/-! ### t[a:b], all of it too -/
section
variable {prog : Program} {w : World} {A : Around} {E : Value → Shared → Prop} {s : Shared}
theorem getItem_tuple_all {t sl : Addr} {items : Array Value} {vl vu : Value} {lo hi : Option Int} {Q : Value → Shared → Prop} (ht : IsTup s.heap t items) (hs : s.heap.IsSliceOf sl vl vu .none) (pl : IsPart vl lo) (pu : IsPart vu hi)
    (hw : HT.sIx items.size 0 lo = 0 ∧ HT.sIx items.size items.size hi = items.size) (h : Q (.ref t) s) : wpAny (model prog w) A (getItem (.ref t) (.ref sl)) Q E s := by
  obtain ⟨os, hos, hcs, hds⟩ := id hs
  have tyS : s.TypeIs (.ref sl) "slice" := ⟨os, hos, hcs⟩
  unfold getItem
  try with_reducible refine wpAny_holding ?_
  first | refine wpAny_bind (wpAny_pure ?_) | skip
  refine wpAny_bind (wpAny_sequenceKey ht.typeIs (by decide) (wpAny_bind (wpAny_callSpecial?_slot (name := Str.ofString "__getitem__") ht.typeIs PyProof.Rows.slot_tuple_getitem (wpAny_call_entry PyProof.Rows.slot_tuple_getitem ht.typeIs entry_tuple_getitem ?_ (args_tuple_getitem _ _)))))
  refine (show wpAny _ _ (Builtin.Tuple.tupleItemsOf (.ref t) >>= _) _ _ s from wpAny_bind (tupleItemsOf_ ht (wpAny_bind (wpAny_typeOf tyS ?_))))
  rw [if_pos (by decide)]
  refine wpAny_bind (HT.sliceApplied_gen hs pl pu ?_)
  rw [hw.1, hw.2]
  refine (show wpAny _ _ (if ((((0 : Nat) : Int) == 0 && (1 : Int) == 1 && (items.size - 0) == items.size) = true) then _ else _) _ _ s from ?_)
  rw [if_pos (by simp)]
  unfold Builtin.Tuple.tupleIsExact
  refine wpAny_bind ?_
  wp_walk using wpAny_typeOf ht.typeIs
  exact ⟨_, rfl, wpAny_pure h⟩
end
section
variable {X : Cx}
def rSlA (K : PySem.W.Frag) : V → Option Int → Option Int → Hp → VK → Prop := fun x lo hi H Q => ∃ a xs, x = .ref a ∧ H a = some (.tup xs) ∧ ∀ (c : Addr) H', Same H H' → H' c = some (.tup (cutV xs lo hi)) → Q (.ref c) H'
theorem sl_tupA : SlR X (rSlA X.K) := by
  intro pins s σ H x v vl vu lo hi sl Q I rx hs pl pu h
  obtain ⟨a, xs, rfl, ha, q⟩ := h
  have hx : SqT X.K H a xs := SqT.of ha
  by_cases hw : HT.sIx xs.length 0 lo = 0 ∧ HT.sIx xs.length xs.length hi = xs.length
  · cases rx
    obtain ⟨its, r, ht, hz⟩ := I.tuple hx
    have hlen : its.toArray.size = xs.length := by rw [List.size_toArray]; exact r.length.symm
    refine ⟨"tuple", _, PyProof.Rows.slot_tuple_getitem.lookup, ht.typeIs, ?_⟩
    refine getItem_tuple_all ht hs pl pu (by rw [hlen]; exact hw) ⟨.ref a, H, I, rfl, q a H (Same.refl _) ?_⟩
    rw [ha]
    unfold cutV
    rw [hw.1, hw.2, List.drop_zero, Nat.sub_zero, List.take_length]
  · exact sl_tup pins s σ H (.ref a) v vl vu lo hi sl Q I rx hs pl pu ⟨a, xs, rfl, hx, hw, fun p hp => q p _ (fun b u hb => by rw [upd_ne (ne_of_none hb hp)]; exact hb) upd_same⟩
end
end L2
-- part P13
set_option Elab.async false
set_option linter.all false
set_option maxRecDepth 100000
set_option maxHeartbeats 40000000
namespace L2
open PySem PySem.Spec PyProof.Rows
/-! ### dict of a list of pairs -/
theorem miss_keys : typeLookup (.type "list") "keys" = pure none := by rw [typeLookup_type, builtinLookup_eq_fast]; kernel_rfl
theorem entry_dul : entryFor table "dict.update.loop" = some Builtin.«dict.update.loop» := entryFor_of_tree (by kernel_rfl)
theorem plain_dul : plainId "dict.update.loop" = true := by decide +kernel
section
variable {prog : Program} {w : World} {A : Around} {E : Value → Shared → Prop} {s : Shared}
theorem getAttr?_miss_list {a : Addr} {o : Obj} {xs : Array Value} {k : Nat} {Q : Option Value → Shared → Prop}
    (hx : s.heap.get? a = some o) (hc : o.cls = .type "list") (hdat : o.data = .seq xs k) (hd : o.dict = none) (hA : A.handled = none)
    (h : ∀ h' tk e, Heap.NewExcOf s.heap h' e "AttributeError" → Q none { s with heap := h', toks := tk }) :
    wpAny (model prog w) A (getAttr? (.ref a) "keys") Q E s := by
  obtain ⟨c, dct, dat, sl⟩ := o
  simp only at hc hdat hd
  subst hc hdat hd
  obtain ⟨hp, g, d, tk, os⟩ := s
  have hT : ∀ tk', (⟨hp, g, d, tk', os⟩ : Shared).TypeIs (.ref a) "list" := fun _ => ⟨_, hx, rfl⟩
  have f1 := sub_AttributeError
  have f3 := F.slot_list_getattribute.lookup
  have f4 := F.slot_list_getattribute.bind (.ref a)
  have f5 := am_list_getattr_none
  unfold getAttr? getAttrBy? getAttrBy
  repeat (any_goals (first | assumption | exact hT _ | ((with_reducible show wpAny _ _ (call (Value.builtin "list.__getattribute__") _ _) _ _ _); refine call_meets F.slot_list_getattribute (hT _) am_entry_list_getattribute (F.args_list_getattribute_2 _ _) (meets_getattribute_miss_list a xs k sl "keys" _ miss_keys (by decide) (by decide)) ⟨hx, hA, fun h' tk' e hx' => ?_⟩) | wp_step))
  obtain ⟨t', u', he⟩ := hx'.there
  show wpAny _ _ (getattributeRaised _ _ _ _ _ _ _) _ _ _
  unfold getattributeRaised
  repeat (any_goals (first | assumption | wp_step))
  exact h _ _ _ hx'.of
/-- the pair at b -/
def PairAt (h : Heap) (b : Addr) (u v : Value) : Prop := ∃ o : Obj, h.get? b = some o ∧ o.cls = .type "tuple" ∧ ∃ n, o.data = .seq #[u, v] n
theorem pairItems_tuple {b : Addr} {u v : Value} {Q : List Value → Shared → Prop} (hp : PairAt s.heap b u v) (h : Q [u, v] s) : wpAny (model prog w) A (Builtin.Dict.pairItems (.ref b)) Q E s := by
  obtain ⟨o, ho, hc, n, hd⟩ := hp
  unfold Builtin.Dict.pairItems
  refine wpAny_bind (wpAny_typeOf (show s.TypeIs (.ref b) "tuple" from ⟨o, ho, hc⟩) ?_)
  rw [if_pos (by decide)]
  refine wpAny_bind (wpAny_seqItems ho hd ?_)
  exact wpAny_pure h
variable {K : Type} [DecidableEq K] {knd : KeyKind prog w K}
/-- the items are pairs, with the keys and values rs -/
def Prs (knd : KeyKind prog w K) (h : Heap) (d it : Addr) (us : List Value) (rs : List (K × Value)) : Prop := Paired (fun u (r : K × Value) => ∃ b k, u = .ref b ∧ b ≠ d ∧ b ≠ it ∧ PairAt h b k r.2 ∧ knd.is r.1 k = true) us rs
theorem Prs.keep {h h' : Heap} {d it : Addr} {us : List Value} {rs : List (K × Value)} (p : Prs knd h d it us rs) (k : ∀ b o, b ≠ d → b ≠ it → h.get? b = some o → h'.get? b = some o) : Prs knd h' d it us rs := by
  unfold Prs at p ⊢
  induction p with
  | nil => exact .nil
  | cons a _ ih =>
    obtain ⟨b, kk, e, n1, n2, ⟨o, ho, r⟩, z⟩ := a
    exact .cons ⟨b, kk, e, n1, n2, ⟨o, k _ _ n1 n2 ho, r⟩, z⟩ ih
theorem dul_loop {d it l : Addr} {R : Result → Shared → Prop} {items : Array Value} (hdi : d ≠ it) (hdl : l ≠ d) (hli : l ≠ it) (hA : A.handled = none) :
    ∀ (us : List Value) (rs : List (K × Value)) (i : Nat) (z : Int) (t : Tok) (kvs : List (K × Value)) (s : Shared), items.toList.drop i = us → Prs knd s.heap d it us rs → s.heap.IsListIter it l i → s.heap.IsList l items → s.heap.DictOf knd d kvs → kvs.length + rs.length ≤ sizeLine →
      (∀ h' t', (∀ b o, b ≠ d → b ≠ it → s.heap.get? b = some o → h'.get? b = some o) → h'.DictOf knd d (merged kvs rs) → R (.ok (.ret .none)) { s with heap := h', toks := t' }) →
      codeAny (model prog w) A (.builtin "dict.update.loop" ⟨[.ref d, .ref it, .int z t, .none], []⟩) R s
  | [], rs, i, z, t, kvs, s, hu, hp, hit, hl, hd, hz, hR => by
    cases hp
    refine codeAny_builtin entry_dul ?_
    rw [Around.under_plainId plain_dul _]
    show wpAny _ A.in1 (pyNext (.ref it) >>= _) _ _ s
    refine wpAny_bind (wpAny_pyNext_list_end (A := A.in1) hA hit hl ?_ fun h' eb => ?_)
    · have : items.toList.length ≤ i := List.drop_eq_nil_iff.mp hu
      rw [Array.getElem?_eq_none_iff]
      simpa using this
    · show wpAny _ A.in1 (Builtin.Dict.addKeywords d [] >>= _) _ _ _
      refine wpAny_bind (wpAny_pure (wpAny_pure ?_))
      exact hR h' s.toks (fun b o _ h2 e => eb b o h2 e) (hd.extBut eb hdi)
  | u :: us, rs, i, z, t, kvs, s, hu, hp, hit, hl, hd, hz, hR => by
    cases hp with
    | @cons _ r _ rs' a ps =>
      obtain ⟨b, k, rfl, nbd, nbi, pr, hk⟩ := a
      have hlt : i < items.toList.length := by
        apply Nat.lt_of_not_le
        intro h
        rw [List.drop_eq_nil_of_le h] at hu
        cases hu
      rw [List.drop_eq_getElem_cons hlt] at hu
      obtain ⟨e1, e2⟩ := List.cons.inj hu
      refine codeAny_builtin entry_dul ?_
      rw [Around.under_plainId plain_dul _]
      show wpAny _ A.in1 (pyNext (.ref it) >>= _) _ _ s
      refine wpAny_bind (wpAny_pyNext_list_item hit hl (x := .ref b) ?_ fun h' hit' sb => ?_)
      · rw [← Array.getElem?_toList, List.getElem?_eq_getElem hlt, e1]
      have pr' : PairAt h' b k r.2 := by
        obtain ⟨o, ho, rest⟩ := pr
        exact ⟨o, (sb.2 b nbi).trans ho, rest⟩
      have hl' : h'.IsList l items := by
        obtain ⟨o, ho, rest⟩ := hl
        exact ⟨o, (sb.2 l hli).trans ho, rest⟩
      have hd' : h'.DictOf knd d kvs := by
        obtain ⟨o, es, ep, ho, rest⟩ := hd
        exact ⟨o, es, ep, (sb.2 d hdi).trans ho, rest⟩
      show wpAny _ A.in1 (holding [Value.ref b] _ >>= _) _ _ _
      refine wpAny_bind (wpAny_holding ?_)
      refine wpAny_bind (wpAny_tryCatch (pairItems_tuple pr' ?_))
      show wpAny _ A.in1 (holding [k, r.2] (dictSet d k r.2)) _ _ _
      refine wpAny_holding ?_
      refine wpAny_dictSet_pairs (s := { s with heap := h' }) hk hd' (fun h2 hd2 sb2 => ?_) (by rw [List.length_cons] at hz; omega)
      refine wpAny_pure ⟨plainId_quiet plain_dul _, ?_⟩
      have kp : ∀ c o, c ≠ d → c ≠ it → s.heap.get? c = some o → h2.get? c = some o := fun c o h1 h2' e => (sb2.2 c h1).trans ((sb.2 c h2').trans e)
      refine dul_loop hdi hdl hli hA us rs' (i + 1) (z + 1) 0 (stored kvs r.1 r.2) _ e2 ((show Prs knd s.heap d it us rs' from ps).keep kp) ?_ ?_ hd2 ?_ ?_
      · obtain ⟨o, ho, rest⟩ := hit'
        exact ⟨o, (sb2.2 it (Ne.symm hdi)).trans ho, rest⟩
      · obtain ⟨o, ho, rest⟩ := hl'
        exact ⟨o, (sb2.2 l hdl).trans ho, rest⟩
      · have := stored_length_le kvs r.1 r.2
        rw [List.length_cons] at hz
        omega
      · intro h3 t3 k3 d3
        exact hR h3 t3 (fun c o h1 h2' e => k3 c o h1 h2' (kp c o h1 h2' e)) d3
theorem wp_dict_pairs {o : Addr} {ob : Obj} {items : Array Value} {n : Nat} {rs : List (K × Value)} {Q : Value → Shared → Prop} (ho : s.heap.get? o = some ob) (hcl : ob.cls = .type "list") (hdt : ob.dict = none) (hdata : ob.data = .seq items n) (hA : A.handled = none)
    (hp : Paired (fun u (r : K × Value) => ∃ b k, u = .ref b ∧ PairAt s.heap b k r.2 ∧ knd.is r.1 k = true) items.toList rs) (hz : rs.length ≤ sizeLine)
    (h : ∀ h' t', h'.DictOf knd s.heap.objs.size (merged [] rs) → (∀ b o, s.heap.get? b = some o → h'.get? b = some o) → Q (.ref s.heap.objs.size) { s with heap := h', toks := t' }) :
    wpAny (model prog w) A (call (.type "dict") [.ref o]) Q E s := by
  refine callType_codes (Q₁ := fun obj s₁ => obj = .ref s.heap.objs.size ∧ s₁ = { s with heap := s.heap.push { cls := .type "dict", data := .dict #[] } }) PySem.F.kt_called_dict (PySem.F.kt_typeCall_dict_1 _) PySem.F.entry_dict_init (kt_code_dict_new _ ⟨rfl, rfl⟩) ?_
  rintro obj s₁ ⟨rfl, rfl⟩
  have hnew : (s.heap.push { cls := .type "dict", data := .dict #[] }).DictOf knd s.heap.objs.size [] := Heap.DictOf.new s.heap
  have ho1 := Heap.get?_push_of_some { cls := .type "dict", data := .dict #[] } ho
  refine ⟨hnew.typeIs, PySem.F.args_dict_init_2 _ _, ?_⟩
  unfold Builtin.«dict.__init__»
  refine wpAny_bind ?_
  unfold Builtin.Dict.selfAndRest
  refine wpAny_bind (wpAny_notOrdered_dict hnew.typeIs ?_)
  show wpAny _ _ (pure (s.heap.objs.size, [Value.ref o])) _ _ _
  refine wpAny_pure ?_
  show wpAny _ _ (Builtin.Dict.updateFrom "dict.__init__" s.heap.objs.size (.ref o) [] .none) _ _ _
  unfold Builtin.Dict.updateFrom
  refine wpAny_bind (wpAny_typeOf (T := "list") ⟨ob, ho1, hcl⟩ ?_)
  rw [if_pos (by decide)]
  refine wpAny_bind (getAttr?_miss_list ho1 hcl hdata hdt hA fun h2 t2 e2 x2 => ?_)
  rw [if_pos (by rfl)]
  refine wpAny_bind (wpAny_rule ?_)
  have ho2 := x2.keeps _ _ ho1
  refine wpAny_bind (wpAny_pyIter_list (items := items) ⟨ob, ho2, hcl, n, hdata⟩ ?_)
  have lt1 : s.heap.objs.size < h2.objs.size := by
    obtain ⟨od, _, _, hod, _⟩ := id hnew
    exact Heap.lt_size (x2.keeps _ _ hod)
  have lt0 : o < s.heap.objs.size := Heap.lt_size ho
  have kp : ∀ b u, s.heap.get? b = some u → (h2.push { cls := .type "list_iterator", data := .fields #[.ref o, .int 0 0] }).get? b = some u := fun b u e => Heap.get?_push_of_some _ (x2.keeps _ _ (Heap.get?_push_of_some _ e))
  refine wpAny_pure ⟨plainId_quiet plain_dul _, ?_⟩
  refine dul_loop (A := A.in1) (knd := knd) (items := items) (l := o) (d := s.heap.objs.size) (it := h2.objs.size) (Nat.ne_of_lt lt1) (Nat.ne_of_lt lt0) (Nat.ne_of_lt (Nat.lt_trans lt0 lt1)) hA items.toList rs 0 0 0 [] _ List.drop_zero ?_ ?_ ?_ ?_ (by rw [List.length_nil]; omega) ?_
  · unfold Prs
    have key : ∀ {us : List Value} {ts : List (K × Value)}, Paired (fun u (r : K × Value) => ∃ b k, u = .ref b ∧ PairAt s.heap b k r.2 ∧ knd.is r.1 k = true) us ts → Paired (fun u (r : K × Value) => ∃ b k, u = .ref b ∧ b ≠ s.heap.objs.size ∧ b ≠ h2.objs.size ∧ PairAt (h2.push { cls := .type "list_iterator", data := .fields #[.ref o, .int 0 0] }) b k r.2 ∧ knd.is r.1 k = true) us ts := by
      intro us ts p
      induction p with
      | nil => exact .nil
      | cons a _ ih =>
        obtain ⟨b, k, e, ⟨q, hq, rest⟩, z⟩ := a
        have := Heap.lt_size hq
        exact .cons ⟨b, k, e, Nat.ne_of_lt this, Nat.ne_of_lt (Nat.lt_trans this lt1), ⟨q, kp _ _ hq, rest⟩, z⟩ ih
    exact key hp
  · exact ⟨_, Heap.get?_push_size _ rfl, rfl, rfl⟩
  · exact ⟨ob, Heap.get?_push_of_some _ ho2, hcl, n, hdata⟩
  · obtain ⟨od, es, ep, hod, rest⟩ := hnew
    exact ⟨od, es, ep, Heap.get?_push_of_some _ (x2.keeps _ _ hod), rest⟩
  · intro h3 t3 k3 d3
    refine ⟨rfl, h h3 t3 d3 fun b u e => ?_⟩
    have := Heap.lt_size e
    exact k3 b u (Nat.ne_of_lt this) (Nat.ne_of_lt (Nat.lt_trans this lt1)) (kp b u e)
end
section
variable {X : Cx}
/-- the items are pairs, as the heap has them -/
abbrev PrV (H : Hp) : List V → List (Key × V) → Prop := Paired fun y (kv : Key × V) => ∃ b, y = .ref b ∧ H b = some (.tup [kV kv.1, kv.2])
theorem call_dict_prs (hc : X.calm = true := by rfl) : CallR X (.type "dict") (fun xs H Q => ∃ (p : Addr) (ys : List V) (kvs : List (Key × V)), xs = [.ref p] ∧ H p = some (.lst ys) ∧ PrV H ys kvs ∧ kvs.length ≤ 1000 ∧ ∀ q, H q = none → Q (.ref q) (upd H q (.dK (mergeK [] kvs)))) := by
  intro pins s σ H xs us Q I r h
  obtain ⟨p, ys, kvs, rfl, hp, pv, hz, q⟩ := h
  obtain ⟨u, rfl, ru⟩ := vals1 r
  cases ru
  obtain ⟨its, rv, ⟨ob, n, ho, hcl, hdt, hdata⟩, _⟩ := I.list (SqL.of hp)
  have key : ∀ {ys : List V} {kvs : List (Key × V)} {its : List Value}, PrV H ys kvs → Vals ys its → ∃ rs : List (Key × Value), KV kvs rs ∧ Paired (fun u (r : Key × Value) => ∃ b k, u = .ref b ∧ PairAt s.heap b k r.2 ∧ (mixKind X.prog X.w).is r.1 k = true) its rs := by
    intro ys kvs its pv
    induction pv generalizing its with
    | nil => intro r; cases r; exact ⟨[], .nil, .nil⟩
    | @cons y kv ys kvs a _ ih =>
      intro r
      cases r with
      | @cons _ u _ us ry rr =>
        obtain ⟨rs, k1, k2⟩ := ih rr
        obtain ⟨b, rfl, hb⟩ := a
        cases ry
        obtain ⟨ps, pr, pt, _⟩ := I.tuple (SqT.of hb)
        cases pr with
        | @cons _ pu _ pus r1 r2 =>
          cases r2 with
          | @cons _ pw _ pws r3 r4 =>
            cases r4
            obtain ⟨o, ho, hc', m, hd'⟩ := pt
            exact ⟨(kv.1, pw) :: rs, .cons ⟨rfl, r3⟩ k1, .cons ⟨b, pu, rfl, ⟨o, ho, hc', m, hd'⟩, kV_is r1⟩ k2⟩
  obtain ⟨rs, k1, k2⟩ := key pv rv
  have lr : kvs.length = rs.length := KV.length k1
  refine wp_dict_pairs (knd := mixKind X.prog X.w) (items := its.toArray) ho hcl hdt hdata (I.ok.hd hc) (by simpa using k2) (by rw [sizeLine_eq]; omega) fun h' t' dd kp => ?_
  have hz' : (mergeK [] kvs).length ≤ sizeLine := by
    have h1 := length_mergeK kvs []
    rw [List.length_nil] at h1
    rw [sizeLine_eq]; omega
  exact ⟨.ref s.heap.objs.size, _, I.laid (a := s.heap.objs.size) (o := .dK (mergeK [] kvs)) (t' := t') kp (Nat.le_refl _) (dk_new hz' (beq_eq_false_iff_ne.mpr (Ne.symm (Nat.ne_of_lt I.big))) (k1.merge .nil) dd), rfl, q _ I.fresh⟩
end
end L2
-- part P14
set_option Elab.async false
set_option linter.all false
set_option maxRecDepth 100000
set_option maxHeartbeats 40000000
namespace L2
open PySem PySem.Spec PyProof.Rows
/-! ### t * n, t a tuple -/
theorem noFill_tuple_mul : fillsNumberSlot (.type "tuple") "mul" = pure false :=
  PySem.fillsNumberSlot_seq (id := "tuple.__mul__") (r := some (.builtin "tuple.__rmul__")) PySem.F.slot_tuple_mul.lookup (by decide +kernel) PySem.F.slot_tuple_rmul.lookup (by decide +kernel)
theorem repeat_tuple : seqRepeat? (.type "tuple") = pure (some (.builtin "tuple.__mul__")) := by
  unfold seqRepeat?
  rw [PySem.seqSlot_of (T := "tuple") (name := "__mul__") (id := "tuple.__mul__") PySem.F.slot_tuple_mul.lookup (by decide +kernel), PySem.seqSlot_of (T := "tuple") (name := "__rmul__") (id := "tuple.__rmul__") PySem.F.slot_tuple_rmul.lookup (by decide +kernel)]
  rfl
theorem rmul_int_tuple (a : Int) (t : Tok) (l : Addr) (items : Array Value) (n : Nat) (d : Option Addr) (sl : Array (Option Value)) :
    Meets (Builtin.«int.__rmul__» ⟨[.int a t, .ref l], []⟩) (fun _ R s => s.heap.get? l = some { cls := .type "tuple", dict := d, data := .seq items n, slots := sl } ∧ R (.ok (.ret Value.notImplemented)) s) :=
  .of_wp fun prog w A R s h => by obtain ⟨hp, g, d, tk, os⟩ := s; obtain ⟨hl, h⟩ := h; wp_walk; exact ⟨_, rfl, h⟩
theorem mul_tuple_one (l : Addr) (items : Array Value) (n : Nat) (d : Option Addr) (sl : Array (Option Value)) (u : Tok) :
    Meets (Builtin.«tuple.__mul__» ⟨[.ref l, .int 1 u], []⟩) (fun _ R s => s.heap.get? l = some { cls := .type "tuple", dict := d, data := .seq items n, slots := sl } ∧ R (.ok (.ret (.ref l))) s) :=
  .of_wp fun prog w A R s h => by
    obtain ⟨hp, g, d, tk, os⟩ := s; obtain ⟨hl, h⟩ := h
    wp_walk; exact ⟨_, rfl, h⟩
theorem mul_tuple_many (l : Addr) (items : Array Value) (n : Nat) (d : Option Addr) (sl : Array (Option Value)) (x : Int) (u : Tok) (h0 : items.isEmpty = false) (h1 : (x == 1) = false) (h2 : 1 ≤ x) (hs : items.size * x.toNat ≤ 1000) (hx : x ≤ 1000) (hz : (List.foldl (fun x1 x2 => x1 ++ x2) #[] (List.replicate x.toNat items)).size ≤ sizeLine) :
    Meets (Builtin.«tuple.__mul__» ⟨[.ref l, .int x u], []⟩) (fun _ R s => s.heap.get? l = some { cls := .type "tuple", dict := d, data := .seq items n, slots := sl } ∧ R (.ok (.ret (Value.ref s.heap.objs.size))) { s with heap := s.heap.push { cls := Value.type "tuple", data := Data.seq (List.foldl (fun x1 x2 => x1 ++ x2) #[] (List.replicate x.toNat items)) }, toks := s.toks }) :=
  .of_wp fun prog w A R s h => by
    obtain ⟨hp, g, d, tk, os⟩ := s; obtain ⟨hl, h⟩ := h
    have a1 : decide (x < -(2 ^ 63)) = false := decide_eq_false (by omega)
    have a2 : decide (x ≥ 2 ^ 63) = false := decide_eq_false (by omega)
    have a3 : decide (x ≤ 0) = false := decide_eq_false (by omega)
    have hn : (items.size : Int) * x ≤ 1000 := by
      have e : x = (x.toNat : Int) := by omega
      rw [e]
      exact_mod_cast hs
    have a4 : ¬ ((items.size : Int) * x > (2 ^ 63 - 1) / 8) := by omega
    have a5 : Builtin.Tuple.tupleTooMany ((items.size : Int) * x) = false := by
      unfold Builtin.Tuple.tupleTooMany
      have e := sizeLine_eq
      simp
      omega
    wp_walk
    rw [if_neg (by rw [a1, a2]; decide)]
    have ht : IsTup hp l items := ⟨_, hl, rfl, n, rfl⟩
    refine wpAny_bind (tupleItemsOf_ ht ?_)
    dsimp only
    rw [if_neg (by rw [h0, h1]; decide), if_neg (by rw [a3, h0]; decide), if_neg a4, a5, if_neg Bool.false_ne_true]
    wp_walk; exact ⟨_, rfl, h⟩
section
variable {X : Cx}
/-- a tuple times an int from 1 on -/
def rRepT : R2 := fun x y H Q => ∃ a k xs, x = .ref a ∧ y = .int k ∧ H a = some (.tup xs) ∧ xs ≠ [] ∧ 1 ≤ k ∧ k ≤ 1000 ∧ xs.length * k.toNat ≤ 1000 ∧ ∀ (c : Addr) H', Same H H' → H' c = some (.tup (List.replicate k.toNat xs).flatten) → Q (.ref c) H'
theorem op_repT : OpR X (binaryOp .Mult) rRepT := by
  intro pins s σ H x y v u Q I rx ry h
  obtain ⟨l, k, xs, rfl, rfl, hH, hne, h1, h2, hz, q⟩ := h
  cases rx
  obtain ⟨t, rfl⟩ := ry
  obtain ⟨its, r, pl, _⟩ := I.tuple (SqT.of hH)
  have hl := r.length
  obtain ⟨⟨cls, dd, data, sl⟩, ho, hcl, n, hd⟩ := id pl
  simp only at hcl hd
  subst hcl hd
  have f0 : ∀ m : Nat, List.foldl (fun x1 x2 => x1 ++ x2) #[] (List.replicate m its.toArray) = (List.replicate m its).flatten.toArray := fun m => by
    have := foldl_rep its m []
    rw [List.nil_append] at this
    exact this
  have hsz : its.toArray.size * k.toNat ≤ 1000 := by rw [List.size_toArray, ← hl]; exact hz
  have h0 : its.toArray.isEmpty = false := by
    cases its with
    | nil =>
      cases xs with
      | nil => exact absurd rfl hne
      | cons a b => cases hl
    | cons a b => rfl
  refine wpAny_binaryOp_repeat_ref (T := "tuple") (U := "int") (by decide) ⟨_, ho, rfl⟩ (fun s' => typeIs_int s' k t) noFill_tuple_mul PySem.F.fills_int_mul PySem.F.slot_int_rmul repeat_tuple PySem.F.slot_int_index.lookup
    (call_meets PySem.F.slot_int_rmul (typeIs_int s k t) PySem.F.entry_int_rmul (PySem.F.args_int_rmul_2 _ _) (rmul_int_tuple k t l its.toArray n dd sl)
      ⟨ho, rfl, ⟨_, ho, rfl⟩, ?_⟩)
  by_cases hk : k = 1
  · subst hk
    refine call_meets PySem.F.slot_tuple_mul ⟨_, ho, rfl⟩ PySem.F.entry_tuple_mul (PySem.F.args_tuple_mul_2 _ _) (mul_tuple_one l its.toArray n dd sl t) ⟨ho, ⟨.ref l, H, I, rfl, q l H (Same.refl _) ?_⟩⟩
    rw [hH]
    simp
  · refine call_meets PySem.F.slot_tuple_mul ⟨_, ho, rfl⟩ PySem.F.entry_tuple_mul (PySem.F.args_tuple_mul_2 _ _) (mul_tuple_many l its.toArray n dd sl k t h0 (by simpa using hk) h1 hsz h2 ?_) ⟨ho, ?_⟩
    · rw [f0, List.size_toArray, len_rep, sizeLine_eq]
      rw [List.size_toArray, Nat.mul_comm] at hsz
      omega
    · rw [f0]
      refine ⟨.ref s.heap.objs.size, upd H s.heap.objs.size (.tup (List.replicate k.toNat xs).flatten), ?_, rfl, q _ _ (fun b o hb => by rw [upd_ne (ne_of_none hb I.fresh)]; exact hb) upd_same⟩
      refine I.laid (t' := s.toks) (fun b o e => Heap.get?_push_of_some _ e) (Nat.le_refl _) ⟨by rw [len_rep, sizeLine_eq, Nat.mul_comm]; omega, _, r.rep k.toNat, ?_⟩
      exact ⟨⟨_, Heap.get?_push_size s.heap rfl, rfl, 0, rfl⟩, _, Heap.get?_push_size s.heap rfl, rfl⟩
/-! ### for a, b in enumerate(t) -/
end
end L2
-- part K11a
set_option Elab.async false
set_option linter.all false
set_option maxRecDepth 100000
set_option maxHeartbeats 40000000
namespace U
open PySem L2 PyProof.Rows
def top (i : Nat) : Stmt := PySem.Challenge.pw_unlikesteps_k80_lays_turned.main.body.getD i (.Pass ⟨0, 0, 0, 0⟩)
/-- what the module's names mean: built-ins that nobody hides, the greatest side -/
structure Gs (mg : Str → Option Value) : Prop where
  isinstance : mg "isinstance" = none
  int : mg "int" = none
  bool : mg "bool" = none
  tuple : mg "tuple" = none
  list : mg "list" = none
  dict : mg "dict" = none
  len : mg "len" = none
  all : mg "all" = none
  set : mg "set" = none
  range : mg "range" = none
  max : mg "max" = none
  min : mg "min" = none
  zip : mg "zip" = none
  enumerate : mg "enumerate" = none
  longest : ∃ t, mg "LONGEST_SIDE" = some (.int 12 t)
theorem same_upd {H : Hp} {p : Addr} {o : HO} (h : H p = none) : Same H (upd H p o) := fun b u hb => by rw [upd_ne (ne_of_none hb h)]; exact hb
theorem same_new {H H1 : Hp} {a : Addr} {o : HO} (s : Same H H1) (n : H a = none) : Same H (upd H1 a o) := fun b u e => by
  rw [upd_ne fun z => by rw [z, n] at e; cases e]
  exact s _ _ e
theorem tNext_i {D : Ends} {σ : L2.St} {H : Hp} (h : D.nx σ H) : tNext D σ H := h
theorem tSeq_i {t u : TS} {D : Ends} {σ : L2.St} {H : Hp} (h : t { D with nx := u D } σ H) : tSeq t u D σ H := h
theorem tAsg_i {te : TE} {g : TG} {D : Ends} {σ : L2.St} {H : Hp} (h : te σ H fun v H1 => g v σ H1 D.nx) : tAsg te g D σ H := h
theorem gName_i {i : Nat} {v : V} {σ : L2.St} {H : Hp} {Q : L2.St → Hp → Prop} (h : Q (σ.set i (some v)) H) : gName i v σ H Q := h
section
variable {P : Program} {w : World} {K : PySem.W.Frag} {mg : Str → Option Value} {base : Heap}
/-! ### is_whole -/
abbrev sWhole : Stmt := top 19
def spWhole (K : PySem.W.Frag) : Sp := fun vs H Q _ => ∃ x, vs = [x] ∧ PlT K H x ∧ Q (.bl (whole x)) H
theorem scWhole : FnScope ["thing"] ["thing"] (defScope sWhole) := ⟨rfl, rfl, rfl, by decide +kernel, rfl, by decide +kernel, by decide +kernel⟩
theorem ok_whole {f : Addr} {fd : FuncData} (F : Fun K "is_whole" "is_whole" sWhole f fd) (G : Gs mg) : FnOk P w K mg base CX0 1 f fd ["thing"] (spWhole K) := by
  refine F.ok scWhole (fun vs H Q E h => ?_) (fun cdv A outer s H vs Q E hr h => ?_)
  · obtain ⟨x, rfl, _⟩ := h
    rfl
  · obtain ⟨x, rfl, ⟨T, t⟩, q⟩ := h
    refine ⟨_, pss_one (ps_ret (pe_and (pe_callB (call_isinst (c := "int")) rfl G.isinstance boot_isinstance (pa_cons (pv 0) (pa_cons (pe_bltn (v := .ty "int") rfl G.int boot_int rfl) pa_nil)))
      (pe_one (pe_not (pe_callB (call_isinst (c := "bool")) rfl G.isinstance boot_isinstance (pa_cons (pv 0) (pa_cons (pe_bltn (v := .ty "bool") rfl G.bool boot_bool rfl) pa_nil))))))), ?_⟩
    refine ⟨x, rfl, x, _, _, rfl, t, kit_int t, _, rfl, ?_⟩
    rw [isInt_whole] at q
    cases e : isIntV x with
    | false => rw [e] at q; exact iteF q
    | true => rw [e] at q; exact iteT ⟨x, rfl, x, _, _, rfl, t, kit_bool t, _, rfl, q⟩

/-! ### is_whole_within -/
abbrev sWithin : Stmt := top 20
def spWithin (K : PySem.W.Frag) : Sp := fun vs H Q _ => ∃ x a b, vs = [x, .int a, .int b] ∧ PlT K H x ∧ Q (.bl (wholeIn x a b)) H
theorem scWithin : FnScope ["thing", "least", "most"] ["thing", "least", "most"] (defScope sWithin) := ⟨rfl, rfl, rfl, by decide +kernel, rfl, by decide +kernel, by decide +kernel⟩
theorem ok_within {f : Addr} {fd : FuncData} (F : Fun K "is_whole_within" "is_whole_within" sWithin f fd) (D1 : Def P w K mg base 1 "is_whole" ["thing"] (spWhole K)) : FnOk P w K mg base CX0 2 f fd ["thing", "least", "most"] (spWithin K) := by
  refine F.ok scWithin (fun vs H Q E h => ?_) (fun cdv A outer s H vs Q E hr h => ?_)
  · obtain ⟨x, a, b, rfl, _⟩ := h
    rfl
  · obtain ⟨x, a, b, rfl, t, q⟩ := h
    refine ⟨_, pss_one (ps_ret (pe_and (pe_callD D1 hr (pa_cons (pv 0) pa_nil)) (pe_one (pe_chain op_le op_le (pv 1) (pv 0) (pv 2))))), ?_⟩
    refine ⟨x, rfl, x, rfl, t, _, rfl, ?_⟩
    cases x with
    | int i =>
      refine iteT ⟨_, rfl, _, rfl, _, _, rfl, rfl, _, rfl, ?_⟩
      have e : wholeIn (.int i) a b = (decide (a ≤ i) && decide (i ≤ b)) := rfl
      rw [e] at q
      cases e1 : decide (a ≤ i) with
      | false => rw [e1] at q; exact iteF q
      | true => rw [e1] at q; exact iteT ⟨_, rfl, _, _, rfl, rfl, q⟩
    | _ => exact iteF q
/-! ### is_tuple_of -/
abbrev sTupOf : Stmt := top 21
def spTupOf (K : PySem.W.Frag) : Sp := fun vs H Q _ => ∃ x n, vs = [x, .int n] ∧ PlT K H x ∧ Q (.bl (match tupOf H x with | some xs => decide ((xs.length : Int) = n) | none => false)) H
theorem scTupOf : FnScope ["thing", "many"] ["thing", "many"] (defScope sTupOf) := ⟨rfl, rfl, rfl, by decide +kernel, rfl, by decide +kernel, by decide +kernel⟩
theorem ok_tupOf {f : Addr} {fd : FuncData} (F : Fun K "is_tuple_of" "is_tuple_of" sTupOf f fd) (G : Gs mg) : FnOk P w K mg base CX0 1 f fd ["thing", "many"] (spTupOf K) := by
  refine F.ok scTupOf (fun vs H Q E h => ?_) (fun cdv A outer s H vs Q E hr h => ?_)
  · obtain ⟨x, n, rfl, _⟩ := h
    rfl
  · obtain ⟨x, n, rfl, ⟨T, t⟩, q⟩ := h
    refine ⟨_, pss_one (ps_ret (pe_and (pe_callB (call_isinst (c := "tuple")) rfl G.isinstance boot_isinstance (pa_cons (pv 0) (pa_cons (pe_bltn (v := .ty "tuple") rfl G.tuple boot_tuple rfl) pa_nil)))
      (pe_one (pe_cmpR op_eq (pe_callB call_len_seq rfl G.len boot_len (pa_cons (pv 0) pa_nil)) (pv 1) (nomark _))))), ?_⟩
    refine ⟨x, rfl, x, _, _, rfl, t, kit_tuple t, _, rfl, ?_⟩
    cases e : tupOf H x with
    | none => rw [e] at q; exact iteF q
    | some xs =>
      rw [e] at q
      obtain ⟨a, rfl, ha⟩ := tupOf_some e
      refine iteT ⟨_, rfl, a, xs, rfl, .inr (SqT.of ha), _, rfl, rfl, ?_⟩
      have z : decide (V.int (xs.length : Int) = V.int n) = decide ((xs.length : Int) = n) := by simp
      rw [z]
      exact q
/-! ### is_board -/
abbrev sBoard : Stmt := top 22
def isBoardL : Option (List V) → Bool
  | some [a, b] => wholeIn a 1 12 && wholeIn b 1 12
  | _ => false
/-- a thing whose items, where it is a tuple, are plain -/
def Pl1 (K : PySem.W.Frag) (H : Hp) (x : V) : Prop := PlT K H x ∧ ∀ xs, tupOf H x = some xs → ∀ y ∈ xs, PlT K H y
def spBoard (K : PySem.W.Frag) : Sp := fun vs H Q _ => ∃ x, vs = [x] ∧ Pl1 K H x ∧ ∀ H', Same H H' → Q (.bl (isBoardL (tupOf H x))) H'
theorem scBoard : FnScope ["thing"] ["thing"] (defScope sBoard) := ⟨rfl, rfl, rfl, by decide +kernel, rfl, by decide +kernel, by decide +kernel⟩
theorem ok_board {f : Addr} {fd : FuncData} (F : Fun K "is_board" "is_board" sBoard f fd) (G : Gs mg) (D1 : Def P w K mg base 1 "is_tuple_of" ["thing", "many"] (spTupOf K)) (D2 : Def P w K mg base 2 "is_whole_within" ["thing", "least", "most"] (spWithin K)) :
    FnOk P w K mg base CX0 3 f fd ["thing"] (spBoard K) := by
  obtain ⟨tk, hL⟩ := G.longest
  refine F.ok scBoard (fun vs H Q E h => ?_) (fun cdv A outer s H vs Q E hr h => ?_)
  · obtain ⟨x, rfl, _⟩ := h
    rfl
  · obtain ⟨x, rfl, ⟨t, hi⟩, q⟩ := h
    refine ⟨_, pss_one (ps_ret (pe_and (pe_callD D1 (hr.mono (by decide)) (pa_cons (pv 0) (pa_cons pe_int pa_nil)))
      (pe_one (pe_callB call_all rfl G.all boot_all (pa_cons (pe_comp ["side"] 1 [] (pi_tup (pv 0)) (fun C s H fp => pb 0) (fun C s H fp => pts_nil)
        (fun C s H fp D => pin_emit rfl (pe_callD D2 (hr.mono (by decide)) (pa_cons (pv 0) (pa_cons pe_int (pa_cons (pe_glob (v := .int 12) rfl hL ⟨_, rfl⟩) pa_nil)))))) pa_nil))))), ?_⟩
    refine ⟨x, rfl, x, 2, rfl, t, _, rfl, ?_⟩
    cases e : tupOf H x with
    | none => rw [e] at q; exact iteF (q H (Same.refl H))
    | some xs =>
      rw [e] at q
      obtain ⟨a, rfl, ha⟩ := tupOf_some e
      show if decide ((xs.length : Int) = 2) = true then _ else _
      by_cases h2 : xs.length = 2
      · rw [decide_eq_true (show (xs.length : Int) = 2 by omega)]
        refine iteT ⟨_, rfl, a, rfl, ⟨xs, SqT.of ha⟩, ?_⟩
        refine nest_tup (xs := xs) (fun i ys σ H2 => ys = (xs.take i).map (fun y => V.bl (wholeIn y 1 12)) ∧ H2 = H ∧ ∃ v, σ = [v]) ⟨rfl, rfl, none, rfl⟩ (fun i ys σ H2 _ ⟨_, e2, _⟩ => by rw [e2]; exact SqT.of ha) ?_ ?_
        · rintro i y ys σ H2 hy ⟨rfl, rfl, v, rfl⟩
          have my : y ∈ xs := List.mem_of_getElem? hy
          refine ⟨y, rfl, y, 1, 12, rfl, hi xs e y my, ?_, ?_⟩
          · rw [List.length_map, sizeLine_eq, List.length_take]; omega
          · refine ⟨?_, rfl, _, rfl⟩
            rw [List.take_add_one, hy, List.map_append]
            rfl
        · rintro ys σ H2 ⟨rfl, rfl, v, rfl⟩ p hp
          rw [List.take_length]
          refine ⟨p, xs.map (fun y => wholeIn y 1 12), rfl, ?_, ?_⟩
          · rw [List.map_map]; exact SqL.of upd_same
          · have e3 : isBoardL (some xs) = (xs.map (fun y => wholeIn y 1 12)).all id := by
              match xs, h2 with
              | [a, b], _ => simp [isBoardL]
            rw [← e3]
            exact q _ fun b o hb => by rw [upd_ne (ne_of_none hb hp)]; exact hb
      · rw [decide_eq_false (show ¬ (xs.length : Int) = 2 by omega)]
        have e3 : isBoardL (some xs) = false := by
          match xs, h2 with
          | [], _ => rfl
          | [a], _ => rfl
          | [a, b], h => exact absurd rfl h
          | a :: b :: c :: r, _ => rfl
        rw [e3] at q
        exact iteF (q H (Same.refl H))
/-! ### the law's own: a cell of the script, a state, a draw -/
abbrev sCell : Stmt := top 37
def spCell (K : PySem.W.Frag) : Sp := fun vs H Q _ => ∃ (a : Addr) (ns : List Int) (k : Nat), vs = [.ref a, .int k] ∧ SqL K H a (ns.map V.int) ∧ ∀ n : Int, Q (.int n) H
theorem scCell : FnScope ["_law_script", "_law_k"] ["_law_script", "_law_k"] (defScope sCell) := ⟨rfl, rfl, rfl, by decide +kernel, rfl, by decide +kernel, by decide +kernel⟩
theorem ok_cell {f : Addr} {fd : FuncData} (F : Fun K "_law_cell_at" "_law_cell_at" sCell f fd) (G : Gs mg) : FnOk P w K mg base CX0 1 f fd ["_law_script", "_law_k"] (spCell K) := by
  refine F.ok scCell (fun vs H Q E h => ?_) (fun cdv A outer s H vs Q E hr h => ?_)
  · obtain ⟨a, ns, k, rfl, _⟩ := h
    rfl
  · obtain ⟨a, ns, k, rfl, hs, q⟩ := h
    refine ⟨_, pss_cons (ps_if (pt_cmpR op_lt (pv 1) (pe_callB call_len_seq rfl G.len boot_len (pa_cons (pv 0) pa_nil)) (nomark _)) (pss_one (ps_ret (pe_ix ix_list (pv 0) (pv 1) (fun _ _ => rfl)))) pss_nil) (pss_one (ps_ret pe_int)), ?_⟩
    refine ⟨_, rfl, _, rfl, a, ns.map V.int, rfl, .inl hs, _, _, rfl, rfl, _, rfl, ?_⟩
    by_cases hk : k < ns.length
    · rw [decide_eq_true (by rw [List.length_map]; omega)]
      refine iteT ⟨_, rfl, _, rfl, a, ns.map V.int, k, V.int ns[k], rfl, rfl, hs, atI_nat ?_, q _⟩
      rw [List.getElem?_map, List.getElem?_eq_getElem hk]
      rfl
    · rw [decide_eq_false (by rw [List.length_map]; omega)]
      exact iteF (q 0)
/-- a state: two numbers in a list of their own -/
def StAt (H : Hp) (p : Addr) : Prop := ∃ u v : Int, H p = some (.lst [.int u, .int v]) ∧ 0 ≤ u ∧ 0 ≤ v ∧ v < 2147483647
abbrev sState : Stmt := top 38
def spState (K : PySem.W.Frag) : Sp := fun vs H Q _ => ∃ (a : Addr) (ns : List Int) (k : Nat), vs = [.ref a, .int k] ∧ SqL K H a (ns.map V.int) ∧ ∀ p H', H p = none → Same H H' → StAt H' p → Q (.ref p) H'
theorem scState : FnScope ["_law_script", "_law_k", "_law_cell"] ["_law_script", "_law_k"] (defScope sState) := ⟨rfl, rfl, rfl, by decide +kernel, rfl, by decide +kernel, by decide +kernel⟩
theorem ok_state {f : Addr} {fd : FuncData} (F : Fun K "_law_state" "_law_state" sState f fd) (G : Gs mg) (D1 : Def P w K mg base 1 "_law_cell_at" ["_law_script", "_law_k"] (spCell K)) : FnOk P w K mg base CX0 2 f fd ["_law_script", "_law_k"] (spState K) := by
  refine F.ok scState (fun vs H Q E h => ?_) (fun cdv A outer s H vs Q E hr h => ?_)
  · obtain ⟨a, ns, k, rfl, _⟩ := h
    rfl
  · obtain ⟨a, ns, k, rfl, hs, q⟩ := h
    refine ⟨_, pss_cons (ps_set (i := 2) scState.nd rfl (Or.inl rfl) (pe_callD D1 hr (pa_cons (pv 0) (pa_cons (pv 1) pa_nil))))
      (pss_one (ps_ret (pe_lst (pa_cons (pe_callB (call_max2 rfl) rfl G.max boot_max (pa_cons pe_int (pa_cons (pe_op op_sub (pv 2) (pe_op op_pow pe_int pe_int)) pa_nil))) (pa_cons (pe_op op_mod (pv 2) pe_int) pa_nil))))), ?_⟩
    refine ⟨_, rfl, _, rfl, a, ns, k, rfl, hs, fun n => ?_⟩
    refine ⟨_, rfl, _, _, rfl, rfl, ⟨by decide, by decide, by decide⟩, _, _, rfl, rfl, _, _, rfl, ?_⟩
    refine ⟨_, rfl, _, _, rfl, rfl, (by show (0 : Int) < 2147483647; decide), (by show 2 ≤ sizeLine; decide), fun p hp => q p _ hp (fun b o hb => by rw [upd_ne (ne_of_none hb hp)]; exact hb) ?_⟩
    refine ⟨_, _, upd_same, ?_, Int.emod_nonneg _ (by decide), Int.emod_lt_of_pos _ (by decide)⟩
    split <;> omega
/-- a draw -/
abbrev sTake : Stmt := top 39
def spTake : Sp := fun vs H Q _ => ∃ (p : Addr) (m : Int), vs = [.ref p, .int m] ∧ StAt H p ∧ 0 < m ∧ m < 1073741824 ∧ ∀ r o, 0 ≤ r → r < m → StAt (upd H p o) p → Q (.int r) (upd H p o)
theorem scTake : FnScope ["_law_state_here", "_law_many", "_law_found", "_law_mixed"] ["_law_state_here", "_law_many"] (defScope sTake) := ⟨rfl, rfl, rfl, by decide +kernel, rfl, by decide +kernel, by decide +kernel⟩
theorem at0 {x y : V} : atI [x, y] 0 = some x := rfl
theorem at1 {x y : V} : atI [x, y] 1 = some y := rfl
theorem ok_take {f : Addr} {fd : FuncData} (F : Fun K "_law_take" "_law_take" sTake f fd) : FnOk P w K mg base CX0 1 f fd ["_law_state_here", "_law_many"] spTake := by
  refine F.ok scTake (fun vs H Q E h => ?_) (fun cdv A outer s H vs Q E hr h => ?_)
  · obtain ⟨p, m, rfl, _⟩ := h
    rfl
  · obtain ⟨p, m, rfl, ⟨u, v, hp, hu, hv, hv2⟩, hm, hm2, q⟩ := h
    refine ⟨_, pss_cons (ps_if (pt_cmpR op_ge (pe_ix ix_list (pv 0) pe_int (fun _ _ => rfl)) (pv 1) (nomark _))
        (pss_cons (ps_set (i := 2) scTake.nd rfl (Or.inl rfl) (pe_op op_mod (pe_ix ix_list (pv 0) pe_int (fun _ _ => rfl)) (pv 1)))
        (pss_cons (ps_asg (pe_op op_fdiv (pe_ix ix_list (pv 0) pe_int (fun _ _ => rfl)) (pv 1)) (pg_sub (pv 0) pe_int set_list)) (pss_one (ps_ret (pv 2))))) pss_nil)
      (pss_cons (ps_asg (pe_op op_mod (pe_op op_add (pe_op op_mul (pe_ix ix_list (pv 0) pe_int (fun _ _ => rfl)) pe_int) pe_int) pe_int) (pg_sub (pv 0) pe_int set_list))
      (pss_cons (ps_set (i := 3) scTake.nd rfl (Or.inl rfl) (pe_op op_mod (pe_op op_add (pe_op op_add (pe_op op_mul (pe_ix ix_list (pv 0) pe_int (fun _ _ => rfl)) (pe_ix ix_list (pv 0) pe_int (fun _ _ => rfl))) (pe_op op_mul pe_int (pe_ix ix_list (pv 0) pe_int (fun _ _ => rfl)))) pe_int) pe_int))
      (pss_cons (ps_set (i := 3) scTake.nd rfl (Or.inl rfl) (pe_op op_mod (pe_op op_add (pe_op op_mul (pv 3) (pv 3)) (pe_op op_mul pe_int (pv 3))) pe_int))
      (pss_one (ps_ret (pe_op op_mod (pe_op op_fdiv (pv 3) pe_int) (pv 1))))))), ?_⟩
    have s0 := SqL.of (K := K) hp
    refine ⟨_, rfl, p, _, _, _, rfl, rfl, s0, at0, _, rfl, _, _, rfl, rfl, _, rfl, ?_⟩
    by_cases h0 : m ≤ u
    · rw [decide_eq_true h0]
      refine iteT ?_
      refine ⟨_, rfl, p, _, _, _, rfl, rfl, s0, at0, _, rfl, _, _, rfl, rfl, hm, ?_⟩
      refine ⟨_, rfl, p, _, _, _, rfl, rfl, s0, at0, _, rfl, _, _, rfl, rfl, ⟨hm, by omega⟩, ?_⟩
      refine ⟨_, rfl, p, _, 0, 0, rfl, rfl, hp, rfl, ?_⟩
      refine ⟨_, rfl, q _ _ (Int.emod_nonneg _ (by omega)) (Int.emod_lt_of_pos _ hm) ?_⟩
      exact ⟨u / m, v, upd_same, Int.ediv_nonneg hu (by omega), hv, hv2⟩
    · rw [decide_eq_false h0]
      refine iteF ?_
      refine ⟨_, rfl, p, _, _, _, rfl, rfl, s0, at1, _, _, rfl, rfl, .inr ⟨by decide, by decide⟩, _, _, rfl, rfl, _, _, rfl, rfl, (by show (0 : Int) < 2147483647; decide), ?_⟩
      refine ⟨_, rfl, p, _, 1, 1, rfl, rfl, hp, rfl, ?_⟩
      have b1 : 0 ≤ ((v * 48271 + 29) % 2147483647) := Int.emod_nonneg _ (by decide)
      have b2 : ((v * 48271 + 29) % 2147483647) < 2147483647 := Int.emod_lt_of_pos _ (by decide)
      have s1 : SqL K (upd H p (.lst (([V.int u, V.int v] : List V).set 1 (V.int ((v * 48271 + 29) % 2147483647))))) p [.int u, .int ((v * 48271 + 29) % 2147483647)] := SqL.of upd_same
      have lo : ∀ {t : Int}, 0 ≤ t → -(2 ^ 64) < t := fun h => Int.lt_of_lt_of_le (by decide) h
      have hi : ∀ {t : Int}, t < 2147483647 → t < 2 ^ 64 := fun h => Int.lt_trans h (by decide)
      refine ⟨_, rfl, p, _, _, _, rfl, rfl, s1, at1, _, rfl, p, _, _, _, rfl, rfl, s1, at1, _, _, rfl, rfl, .inl ⟨lo b1, hi b2⟩, ?_⟩
      refine ⟨_, rfl, p, _, _, _, rfl, rfl, s1, at1, _, _, rfl, rfl, .inl ⟨by decide, by decide⟩, _, _, rfl, rfl, _, _, rfl, rfl, _, _, rfl, rfl, (by show (0 : Int) < 2147483629; decide), ?_⟩
      have c1 : 0 ≤ ((((v * 48271 + 29) % 2147483647) * ((v * 48271 + 29) % 2147483647) + 39373 * ((v * 48271 + 29) % 2147483647) + 7) % 2147483629) := Int.emod_nonneg _ (by decide)
      have c2 : ((((v * 48271 + 29) % 2147483647) * ((v * 48271 + 29) % 2147483647) + 39373 * ((v * 48271 + 29) % 2147483647) + 7) % 2147483629) < 2147483647 := Int.lt_trans (Int.emod_lt_of_pos _ (by decide)) (by decide)
      refine ⟨_, rfl, _, rfl, _, _, rfl, rfl, .inl ⟨lo c1, hi c2⟩, _, rfl, _, _, rfl, rfl, .inl ⟨by decide, by decide⟩, _, _, rfl, rfl, _, _, rfl, rfl, (by show (0 : Int) < 2147483587; decide), ?_⟩
      refine ⟨_, rfl, _, _, rfl, rfl, ⟨by decide, by decide⟩, _, rfl, _, _, rfl, rfl, hm, ?_⟩
      refine q _ _ (Int.emod_nonneg _ (by omega)) (Int.emod_lt_of_pos _ hm) ?_
      exact ⟨u, _, upd_same, hu, b1, b2⟩
end
end U
-- part K11b
set_option Elab.async false
set_option linter.all false
set_option maxRecDepth 100000
namespace U
open PySem L2 PyProof.Rows
/-! ### distinct ints: what len(set(..)) tells -/
theorem firstMet_nodup (val : Nat → Int) : ∀ n, ((PyProof.Rows.firstMet val n).length = n ↔ ((List.range n).map val).Nodup)
  | 0 => by simp [PyProof.Rows.firstMet_zero]
  | n + 1 => by
    have ih := firstMet_nodup val n
    have le := PyProof.Rows.firstMet_length_le val n
    rw [PyProof.Rows.firstMet_succ, PyProof.Rows.step_length, PyProof.Rows.firstMet_any, List.range_succ, List.map_append]
    have e : (((List.range n).map val).any (· == val n)) = true ↔ val n ∈ (List.range n).map val := by
      rw [List.any_eq_true]
      constructor
      · rintro ⟨x, hx, q⟩
        have : x = val n := by simpa using q
        rw [← this]; exact hx
      · intro h; exact ⟨_, h, by simp⟩
    have nd : ((List.range n).map val ++ List.map val [n]).Nodup ↔ ((List.range n).map val).Nodup ∧ ¬ val n ∈ (List.range n).map val := by
      rw [List.nodup_append]
      constructor
      · rintro ⟨h1, _, h3⟩
        exact ⟨h1, fun m => h3 _ m (val n) (by simp) rfl⟩
      · rintro ⟨h1, h2⟩
        refine ⟨h1, by simp, fun a ha b hb q => h2 ?_⟩
        have hb' : b = val n := by simpa using hb
        rw [← hb', ← q]; exact ha
    rw [nd, ← ih]
    by_cases m : val n ∈ (List.range n).map val
    · rw [if_pos (e.mpr m)]
      constructor
      · intro h; omega
      · rintro ⟨_, h⟩; exact absurd m h
    · rw [if_neg (fun z => m (e.mp z))]
      constructor
      · intro h; exact ⟨by omega, m⟩
      · rintro ⟨h, _⟩; omega
theorem setN_nodup (ns : List Int) : setN ns = ns.length ↔ ns.Nodup := by
  unfold setN
  rw [firstMet_nodup]
  have e : (List.range ns.length).map (fun i => ns.getD i 0) = ns := by
    refine List.ext_getElem (by simp) fun i h1 h2 => ?_
    rw [List.getElem_map, List.getElem_range, List.getD_eq_getElem?_getD, List.getElem?_eq_getElem h2, Option.getD_some]
  rw [e]
/-! ### lays, as plain lists -/
def rowsOf (xs : List V) : List V := xs.filter fun x => !decide (x = .non)
def isLayV (wd hg : Int) : Option (List V) → Bool
  | some xs => decide ((xs.length : Int) = wd) && ((rowsOf xs).all fun r => wholeIn r 0 (hg - 1)) && decide (rowsOf xs).Nodup
  | none => false
def BoardAt (H : Hp) (x : V) (wd hg : Int) : Prop := tupOf H x = some [.int wd, .int hg] ∧ 1 ≤ wd ∧ wd ≤ 12 ∧ 1 ≤ hg ∧ hg ≤ 12
theorem BoardAt.same {H H' : Hp} {x : V} {wd hg : Int} (b : BoardAt H x wd hg) (s : Same H H') : BoardAt H' x wd hg := ⟨s.tupOf b.1, b.2⟩
theorem BoardAt.is {H : Hp} {x : V} {wd hg : Int} (b : BoardAt H x wd hg) : isBoardL (tupOf H x) = true := by
  obtain ⟨h, h1, h2, h3, h4⟩ := b
  rw [h]
  show (decide (1 ≤ wd) && decide (wd ≤ 12) && (decide (1 ≤ hg) && decide (hg ≤ 12))) = true
  simp [h1, h2, h3, h4]
theorem BoardAt.pl {K : PySem.W.Frag} {H : Hp} {x : V} {wd hg : Int} (b : BoardAt H x wd hg) : Pl1 K H x := by
  obtain ⟨a, rfl, ha⟩ := tupOf_some b.1
  refine ⟨⟨_, .tup ha⟩, fun xs e y hy => ?_⟩
  rw [b.1] at e
  cases e
  rcases List.mem_cons.mp hy with z | hy
  · rw [z]; exact ⟨_, .int wd⟩
  · rw [List.mem_singleton.mp hy]; exact ⟨_, .int hg⟩
theorem ints_of_all {xs : List V} {lo hi : Int} (h : (xs.all fun r => wholeIn r lo hi) = true) : ∃ ns : List Int, xs = ns.map V.int := by
  induction xs with
  | nil => exact ⟨[], rfl⟩
  | cons x xs ih =>
    rw [List.all_cons, Bool.and_eq_true] at h
    obtain ⟨ns, e⟩ := ih h.2
    cases x with
    | int i => exact ⟨i :: ns, by rw [e]; rfl⟩
    | _ => cases h.1
theorem nodup_int (ns : List Int) : (ns.map V.int).Nodup ↔ ns.Nodup := by
  induction ns with
  | nil => simp
  | cons n ns ih => rw [List.map_cons, List.nodup_cons, List.nodup_cons, ih]; simp
section
variable {P : Program} {w : World} {K : PySem.W.Frag} {mg : Str → Option Value} {base : Heap}
/-! ### need_board, of a board -/
abbrev sNeedBoard : Stmt := top 23
def spNeedBoard (K : PySem.W.Frag) : Sp := fun vs H Q _ => ∃ x wd hg, vs = [x] ∧ BoardAt H x wd hg ∧ ∀ H', Same H H' → Q .non H'
theorem scNeedBoard : FnScope ["board"] ["board"] (defScope sNeedBoard) := ⟨rfl, rfl, rfl, by decide +kernel, rfl, by decide +kernel, by decide +kernel⟩
theorem ok_needBoard {f : Addr} {fd : FuncData} (F : Fun K "need_board" "need_board" sNeedBoard f fd) (D1 : Def P w K mg base 3 "is_board" ["thing"] (spBoard K)) : FnOk P w K mg base CX0 4 f fd ["board"] (spNeedBoard K) := by
  refine F.ok scNeedBoard (fun vs H Q E h => ?_) (fun cdv A outer s H vs Q E hr h => ?_)
  · obtain ⟨x, wd, hg, rfl, _⟩ := h
    rfl
  · obtain ⟨x, wd, hg, rfl, b, q⟩ := h
    refine ⟨_, pss_one (ps_if (pt_not (pt_val (pe_callD D1 hr (pa_cons (pv 0) pa_nil)))) pss_never pss_nil), ?_⟩
    refine ⟨x, rfl, x, rfl, b.pl, fun H' sm => ⟨_, rfl, ?_⟩⟩
    rw [b.is]
    exact iteF (q H' sm)
/-! ### is_lay -/
abbrev sLay : Stmt := top 24
def spLay (K : PySem.W.Frag) : Sp := fun vs H Q _ => ∃ x y wd hg, vs = [x, y] ∧ BoardAt H x wd hg ∧ Pl1 K H y ∧ ∀ H', Same H H' → Q (.bl (isLayV wd hg (tupOf H y))) H'
theorem scLay : FnScope ["board", "thing", "wide", "high", "rows"] ["board", "thing"] (defScope sLay) := ⟨rfl, rfl, rfl, by decide +kernel, rfl, by decide +kernel, by decide +kernel⟩
theorem ok_lay {f : Addr} {fd : FuncData} (F : Fun K "is_lay" "is_lay" sLay f fd) (G : Gs mg) (D1 : Def P w K mg base 4 "need_board" ["board"] (spNeedBoard K)) (D2 : Def P w K mg base 1 "is_tuple_of" ["thing", "many"] (spTupOf K))
    (D3 : Def P w K mg base 2 "is_whole_within" ["thing", "least", "most"] (spWithin K)) : FnOk P w K mg base CX0 5 f fd ["board", "thing"] (spLay K) := by
  refine F.ok scLay (fun vs H Q E h => ?_) (fun cdv A outer s H vs Q E hr h => ?_)
  · obtain ⟨x, y, wd, hg, rfl, _⟩ := h
    rfl
  · obtain ⟨x, y, wd, hg, rfl, b, ⟨ty, hy⟩, q⟩ := h
    refine ⟨_, pss_cons (ps_expr (pe_callD D1 hr (pa_cons (pv 0) pa_nil)))
      (pss_cons (ps_asg (pv 0) (pg_tup rfl (pgs_cons (pg_name (i := 2) scLay.nd rfl (Or.inl rfl)) (pgs_cons (pg_name (i := 3) scLay.nd rfl (Or.inr rfl)) pgs_nil))))
      (pss_cons (ps_if (pt_not (pt_val (pe_callD D2 (hr.mono (by decide)) (pa_cons (pv 1) (pa_cons (pv 2) pa_nil))))) (pss_one (ps_ret pe_bl)) pss_nil)
      (pss_cons (ps_setC ["row"] 1 [] (i := 4) scLay.nd rfl (Or.inl rfl) (pi_tup (pv 1)) (fun C s H fp => pb 0) (fun C s H fp => pts_one (pt_cmp (pc_notN (pv 0)))) (fun C s H fp D => pin_emit rfl (pv 0)))
      (pss_one (ps_ret (pe_and (pe_callB call_all rfl G.all boot_all (pa_cons (pe_comp ["row", "high"] 1 [3] (pi_list (pv 4)) (fun C s H fp => pb 0) (fun C s H fp => pts_nil)
          (fun C s H fp D => pin_emit rfl (pe_callD D3 (hr.mono (by decide)) (pa_cons (pv 0) (pa_cons pe_int (pa_cons (pe_op op_sub (pv 1) pe_int) pa_nil)))))) pa_nil))
        (pe_one (pe_cmpR op_eq (pe_callB call_len_setN rfl G.len boot_len (pa_cons (pe_callTy call_set_ints rfl G.set boot_set (pa_cons (pv 4) pa_nil)) pa_nil)) (pe_callB call_len_seq rfl G.len boot_len (pa_cons (pv 4) pa_nil)) (nomark _))))))))), ?_⟩
    refine ⟨x, rfl, x, wd, hg, rfl, b, fun H1 s1 => ?_⟩
    have b1 := b.same s1
    obtain ⟨a, rfl, ha⟩ := tupOf_some b1.1
    refine ⟨_, rfl, a, _, rfl, SqT.of ha, rfl, _, _, rfl, _, _, rfl, rfl, ?_⟩
    refine ⟨y, rfl, _, rfl, y, wd, rfl, s1.plT ty, _, rfl, ?_⟩
    cases e : tupOf H y with
    | none =>
      have e1 : tupOf H1 y = none := by
        obtain ⟨T, t⟩ := ty
        cases t with
        | tup e2 => rw [tupOf_ref e2] at e; cases e
        | lst e2 => rw [tupOf_r, s1 _ _ e2]; rfl
        | frz e2 => rw [tupOf_r, s1 _ _ e2]; rfl
        | dK e2 => rw [tupOf_r, s1 _ _ e2]; rfl
        | dT e2 => rw [tupOf_r, s1 _ _ e2]; rfl
        | _ => rfl
      rw [e1]
      rw [e] at q
      exact iteT (q H1 s1)
    | some xs =>
      have e1 := s1.tupOf e
      rw [e1]
      rw [e] at q
      obtain ⟨l, rfl, hl⟩ := tupOf_some e1
      by_cases hw : (xs.length : Int) = wd
      · refine (show if (!decide ((xs.length : Int) = wd)) = true then _ else _ from ?_)
        rw [decide_eq_true hw]
        refine iteF ?_
        have hwd := b.2.2.1
        have hlen : xs.length ≤ 12 := by omega
        refine ⟨_, rfl, l, rfl, ⟨xs, SqT.of hl⟩, ?_⟩
        refine nest_tup (xs := xs) (fun i ys σ H2 => ys = rowsOf (xs.take i) ∧ H2 = H1 ∧ ∃ v, σ = [v]) ⟨rfl, rfl, none, rfl⟩ (fun i ys σ H2 _ ⟨_, e2, _⟩ => by rw [e2]; exact SqT.of hl) ?_ ?_
        · rintro i r ys σ H2 hr' ⟨rfl, rfl, v, rfl⟩
          have et : rowsOf (xs.take (i + 1)) = rowsOf (xs.take i) ++ (if (!decide (r = V.non)) = true then [r] else []) := by
            unfold rowsOf
            rw [List.take_add_one, hr', List.filter_append]
            cases hh : (!decide (r = V.non)) with
            | true => simp [hh]
            | false => simp [hh]
          refine ⟨r, rfl, _, rfl, ?_⟩
          cases hh : (!decide (r = V.non)) with
          | true =>
            rw [hh] at et
            refine iteT ?_
            refine ⟨r, rfl, ?_, ?_⟩
            · have := List.length_filter_le (fun x => !decide (x = V.non)) (xs.take i)
              unfold rowsOf
              rw [sizeLine_eq]
              rw [List.length_take] at this
              omega
            · exact ⟨by rw [et, if_pos rfl], rfl, _, rfl⟩
          | false =>
            rw [hh] at et
            exact iteF ⟨by rw [et, if_neg Bool.false_ne_true, List.append_nil], rfl, _, rfl⟩
        · rintro ys σ H2 ⟨rfl, rfl, v, rfl⟩ p hp
          rw [List.take_length]
          have hrl : (rowsOf xs).length ≤ 12 := Nat.le_trans (List.length_filter_le _ _) hlen
          have s2 : Same H2 (upd H2 p (.lst (rowsOf xs))) := fun b o hb => by rw [upd_ne (ne_of_none hb hp)]; exact hb
          -- all([..]) and ..
          refine ⟨_, rfl, p, rfl, ⟨rowsOf xs, SqL.of upd_same⟩, ?_⟩
          generalize hH3 : upd H2 p (HO.lst (rowsOf xs)) = H3 at s2
          have hp3 : H3 p = some (.lst (rowsOf xs)) := by rw [← hH3]; exact upd_same
          refine nest_list (xs := rowsOf xs) (fun i ys σ H4 => ys = ((rowsOf xs).take i).map (fun r => V.bl (wholeIn r 0 (hg - 1))) ∧ H4 = H3 ∧ ∃ v, σ = [v, some (.int hg)]) ⟨rfl, rfl, none, rfl⟩ (fun i ys σ H4 _ ⟨_, e2, _⟩ => by rw [e2]; exact SqL.of hp3) ?_ ?_
          · rintro i r ys σ H4 hr' ⟨rfl, rfl, v, rfl⟩
            have mr : r ∈ xs := (List.mem_filter.mp (List.mem_of_getElem? hr')).1
            refine ⟨r, rfl, _, rfl, _, _, rfl, rfl, r, 0, hg - 1, rfl, (s1.trans s2).plT (hy xs e r mr), ?_, ?_⟩
            · rw [List.length_map, sizeLine_eq, List.length_take]; omega
            · refine ⟨?_, rfl, _, rfl⟩
              rw [List.take_add_one, hr', List.map_append]
              rfl
          · rintro ys σ H4 ⟨rfl, rfl, v, rfl⟩ p' hp'
            rw [List.take_length]
            have s3 : ∀ o, Same H4 (upd H4 p' o) := fun o b u hb => by rw [upd_ne (ne_of_none hb hp')]; exact hb
            refine ⟨p', (rowsOf xs).map (fun r => wholeIn r 0 (hg - 1)), rfl, ?_, ?_⟩
            · rw [List.map_map]; exact SqL.of upd_same
            · have eall : ((rowsOf xs).map (fun r => wholeIn r 0 (hg - 1))).all id = (rowsOf xs).all fun r => wholeIn r 0 (hg - 1) := by rw [List.all_map]; rfl
              rw [eall]
              have elay : isLayV wd hg (some xs) = (((rowsOf xs).all fun r => wholeIn r 0 (hg - 1)) && decide (rowsOf xs).Nodup) := by
                show (decide ((xs.length : Int) = wd) && _ && _) = _
                rw [decide_eq_true hw, Bool.true_and]
              rw [elay] at q
              refine ⟨_, rfl, ?_⟩
              cases hall : ((rowsOf xs).all fun r => wholeIn r 0 (hg - 1)) with
              | false =>
                rw [hall] at q
                exact iteF (q _ (s1.trans (s2.trans (s3 _))))
              | true =>
                rw [hall, Bool.true_and] at q
                obtain ⟨ns, en⟩ := ints_of_all hall
                have hpl : (upd H4 p' (.lst (((rowsOf xs).map (fun r => V.bl (wholeIn r 0 (hg - 1))))))) p = some (.lst (rowsOf xs)) := s3 _ _ _ hp3
                refine iteT ?_
                have hnl : ns.length = (rowsOf xs).length := by rw [en, List.length_map]
                refine ⟨_, rfl, p, ns, rfl, by rw [← en]; exact SqL.of hpl, by omega, fun q2 S hq2 => ⟨q2, S, setN ns, rfl, upd_same, _, rfl, p, rowsOf xs, rfl, .inl (SqL.of ?_), rfl, ?_⟩⟩
                · rw [upd_ne (ne_of_none hpl hq2)]; exact hpl
                · have ed : decide (V.int (setN ns : Int) = V.int ((rowsOf xs).length : Int)) = decide (rowsOf xs).Nodup := by
                    rw [decide_eq_decide]
                    rw [en, nodup_int, ← setN_nodup, List.length_map]
                    constructor
                    · intro h; injection h with h; omega
                    · intro h; rw [h]
                  rw [ed]
                  exact q _ (s1.trans (s2.trans ((s3 _).trans fun b o hb => by rw [upd_ne (ne_of_none hb hq2)]; exact hb)))
      · refine (show if (!decide ((xs.length : Int) = wd)) = true then _ else _ from ?_)
        rw [decide_eq_false hw]
        have e3 : isLayV wd hg (some xs) = false := by
          show (decide ((xs.length : Int) = wd) && _ && _) = false
          rw [decide_eq_false hw, Bool.false_and, Bool.false_and]
        rw [e3] at q
        exact iteT (q H1 s1)
end
end U
-- part K11c
set_option Elab.async false
set_option linter.all false
set_option maxRecDepth 100000
set_option maxHeartbeats 40000000
namespace U
open PySem L2 PyProof.Rows
abbrev bmV : List Value := [.type "ValueError", .type "Exception", .type "BaseException", .type "object"]
/-- a class of refusals that is met here -/
structure Exc (K : PySem.W.Frag) (mg : Str → Option Value) (n : Str) (c : Addr) : Prop where
  m : mg n = some (.ref c)
  x : PySem.W.excIn K c bmV "ValueError.__new__" = true
def BadBoard (K : PySem.W.Frag) (H : Hp) (x : V) : Prop := Pl1 K H x ∧ isBoardL (tupOf H x) = false
theorem tupOf_none_same {K : PySem.W.Frag} {H H1 : Hp} {y : V} (ty : PlT K H y) (s1 : Same H H1) (e : tupOf H y = none) : tupOf H1 y = none := by
  obtain ⟨T, t⟩ := ty
  cases t with
  | tup e2 => rw [tupOf_ref e2] at e; cases e
  | lst e2 => rw [tupOf_r, s1 _ _ e2]; rfl
  | frz e2 => rw [tupOf_r, s1 _ _ e2]; rfl
  | dK e2 => rw [tupOf_r, s1 _ _ e2]; rfl
  | dT e2 => rw [tupOf_r, s1 _ _ e2]; rfl
  | _ => rfl
theorem tupOf_same {K : PySem.W.Frag} {H H1 : Hp} {y : V} (ty : PlT K H y) (s1 : Same H H1) : tupOf H1 y = tupOf H y := by
  cases e : tupOf H y with
  | none => exact tupOf_none_same ty s1 e
  | some xs => exact s1.tupOf e
theorem Pl1.same {K : PySem.W.Frag} {H H1 : Hp} {y : V} (p : Pl1 K H y) (s1 : Same H H1) : Pl1 K H1 y := by
  refine ⟨s1.plT p.1, fun xs e z hz => s1.plT (p.2 xs ?_ z hz)⟩
  rw [← tupOf_same p.1 s1]; exact e
theorem BadBoard.same {K : PySem.W.Frag} {H H1 : Hp} {x : V} (b : BadBoard K H x) (s1 : Same H H1) : BadBoard K H1 x := ⟨b.1.same s1, by rw [tupOf_same b.1.1 s1]; exact b.2⟩
section
variable {P : Program} {w : World} {K : PySem.W.Frag} {mg : Str → Option Value} {base : Heap} {cB cL : Addr}
/-! ### need_board, of what is none -/
def spNBx (K : PySem.W.Frag) (cB : Addr) : Sp := fun vs H _ E => ∃ x, vs = [x] ∧ BadBoard K H x ∧ ∀ e H', Same H H' → E (.ref e) (some cB) H'
theorem ok_needBoardX {f : Addr} {fd : FuncData} (F : Fun K "need_board" "need_board" sNeedBoard f fd) (G : Gs mg) (X : Exc K mg "NoBoard" cB) (D1 : Def P w K mg base 3 "is_board" ["thing"] (spBoard K)) : FnOk P w K mg base (CXR P w) 4 f fd ["board"] (spNBx K cB) := by
  obtain ⟨tk, hL⟩ := G.longest
  refine F.okR scNeedBoard (fun vs H Q E h => ?_) (fun cdv A outer s H vs Q E hr h => ?_)
  · obtain ⟨x, rfl, _⟩ := h
    rfl
  · obtain ⟨x, rfl, b, q⟩ := h
    refine ⟨_, pss_one (ps_if (pt_not (pt_val (pe_callD D1 hr (pa_cons (pv 0) pa_nil)))) (pss_one (ps_raise PySem.F.excBase_ValueError X.m X.x rfl (pa_cons (pe_fstr pe_str (pe_glob (v := .int 12) rfl hL ⟨_, rfl⟩)) pa_nil))) pss_nil), ?_⟩
    refine ⟨x, rfl, x, rfl, b.1, fun H' sm => ⟨_, rfl, ?_⟩⟩
    rw [b.2]
    exact iteT ⟨_, rfl, by decide, 12, rfl, by decide, by decide, fun z => ⟨by show 1 ≤ sizeLine; decide, fun e => q e H' sm⟩⟩
/-! ### is_lay, of a board that is none -/
def spLayx (K : PySem.W.Frag) (cB : Addr) : Sp := fun vs H _ E => ∃ x y, vs = [x, y] ∧ BadBoard K H x ∧ ∀ e H', Same H H' → E (.ref e) (some cB) H'
theorem ok_layX {f : Addr} {fd : FuncData} (F : Fun K "is_lay" "is_lay" sLay f fd) (D1 : DefR P w K mg base 4 "need_board" ["board"] (spNBx K cB)) : FnOk P w K mg base (CXR P w) 5 f fd ["board", "thing"] (spLayx K cB) := by
  refine F.okR scLay (fun vs H Q E h => ?_) (fun cdv A outer s H vs Q E hr h => ?_)
  · obtain ⟨x, y, rfl, _⟩ := h
    rfl
  · obtain ⟨x, y, rfl, b, q⟩ := h
    refine ⟨_, pss_cons (ps_expr (pe_callR D1 hr (pa_cons (pv 0) pa_nil))) pss_never, ?_⟩
    exact ⟨x, rfl, x, rfl, b, q⟩
/-! ### is_full -/
abbrev sNeedLay : Stmt := top 25
def spNeedLay (K : PySem.W.Frag) : Sp := fun vs H Q _ => ∃ x y wd hg, vs = [x, y] ∧ BoardAt H x wd hg ∧ Pl1 K H y ∧ isLayV wd hg (tupOf H y) = true ∧ ∀ H', Same H H' → Q .non H'
theorem scNeedLay : FnScope ["board", "lay"] ["board", "lay"] (defScope sNeedLay) := ⟨rfl, rfl, rfl, by decide +kernel, rfl, by decide +kernel, by decide +kernel⟩
theorem ok_needLay {f : Addr} {fd : FuncData} (F : Fun K "need_lay" "need_lay" sNeedLay f fd) (D1 : Def P w K mg base 5 "is_lay" ["board", "thing"] (spLay K)) : FnOk P w K mg base CX0 6 f fd ["board", "lay"] (spNeedLay K) := by
  refine F.ok scNeedLay (fun vs H Q E h => ?_) (fun cdv A outer s H vs Q E hr h => ?_)
  · obtain ⟨x, y, wd, hg, rfl, _⟩ := h
    rfl
  · obtain ⟨x, y, wd, hg, rfl, b, p, fu, q⟩ := h
    refine ⟨_, pss_one (ps_if (pt_not (pt_val (pe_callD D1 hr (pa_cons (pv 0) (pa_cons (pv 1) pa_nil))))) pss_never pss_nil), ?_⟩
    refine ⟨_, rfl, _, rfl, x, y, wd, hg, rfl, b, p, fun H1 s1 => ⟨_, rfl, ?_⟩⟩
    rw [fu]
    exact iteF (q H1 s1)
/-- what is refused, and with which class -/
def BadL (K : PySem.W.Frag) (cB cL : Addr) (H : Hp) (x y : V) (C : Addr) : Prop :=
  (C = cB ∧ BadBoard K H x) ∨ (C = cL ∧ ∃ wd hg, BoardAt H x wd hg ∧ Pl1 K H y ∧ isLayV wd hg (tupOf H y) = false)
def spNLx (K : PySem.W.Frag) (cB cL : Addr) : Sp := fun vs H _ E => ∃ x y C, vs = [x, y] ∧ BadL K cB cL H x y C ∧ ∀ e H', Same H H' → E (.ref e) (some C) H'
theorem ok_needLayX {f : Addr} {fd : FuncData} (F : Fun K "need_lay" "need_lay" sNeedLay f fd) (X : Exc K mg "NoLay" cL) (D1 : Def P w K mg base 5 "is_lay" ["board", "thing"] (spLay K)) (R1 : DefR P w K mg base 5 "is_lay" ["board", "thing"] (spLayx K cB)) : FnOk P w K mg base (CXR P w) 6 f fd ["board", "lay"] (spNLx K cB cL) := by
  refine F.okR scNeedLay (fun vs H Q E h => ?_) (fun cdv A outer s H vs Q E hr h => ?_)
  · obtain ⟨x, y, C, rfl, _⟩ := h
    rfl
  · obtain ⟨x, y, C, rfl, b, q⟩ := h
    rcases b with ⟨rfl, b⟩ | ⟨rfl, wd, hg, b, p, fu⟩
    · refine ⟨_, pss_one (ps_if (pt_not (pt_val (pe_callR R1 hr (pa_cons (pv 0) (pa_cons (pv 1) pa_nil))))) pss_never pss_nil), ?_⟩
      exact ⟨x, rfl, y, rfl, x, y, rfl, b, q⟩
    · refine ⟨_, pss_one (ps_if (pt_not (pt_val (pe_callD D1 hr (pa_cons (pv 0) (pa_cons (pv 1) pa_nil))))) (pss_one (ps_raise PySem.F.excBase_ValueError X.m X.x rfl (pa_cons pe_str pa_nil))) pss_nil), ?_⟩
      refine ⟨_, rfl, _, rfl, x, y, wd, hg, rfl, b, p, fun H1 s1 => ⟨_, rfl, ?_⟩⟩
      rw [fu]
      exact iteT ⟨by show 1 ≤ sizeLine; decide, fun e => q e H1 s1⟩
end
end U
-- part K11e
set_option Elab.async false
set_option linter.all false
set_option maxRecDepth 100000
set_option maxHeartbeats 40000000
namespace U
open PySem L2 PyProof.Rows
theorem StAt.same {H H' : Hp} {p : Addr} (h : StAt H p) (s : Same H H') : StAt H' p := by
  obtain ⟨u, v, e, r⟩ := h
  exact ⟨u, v, s _ _ e, r⟩
def scal : V → Bool
  | .int _ => true
  | .bl _ => true
  | .str _ => true
  | .non => true
  | _ => false
theorem pl_scal {K : PySem.W.Frag} {H : Hp} : ∀ {v : V}, scal v = true → PlT K H v
  | .int i, _ => ⟨_, .int i⟩
  | .bl b, _ => ⟨_, .bl b⟩
  | .str x, _ => ⟨_, .str x⟩
  | .non, _ => ⟨_, .non⟩
section
variable {P : Program} {w : World} {K : PySem.W.Frag} {mg : Str → Option Value} {base : Heap}
/-! ### the same -/
abbrev sSame : Stmt := top 44
def spSame (R : Hp → V → V → Prop) : Sp := fun vs H Q _ => ∃ x y, vs = [x, y] ∧ R H x y ∧ ∀ H', Same H H' → Q (.bl true) H'
def R0 (_ : Hp) (x y : V) : Prop := ∃ i : Int, x = .int i ∧ y = .int i
def RUp (R : Hp → V → V → Prop) (H : Hp) (x y : V) : Prop := ∃ (a b : Addr) (xs ys : List V), x = .ref a ∧ y = .ref b ∧ H a = some (.lst xs) ∧ H b = some (.lst ys) ∧ Paired (R H) xs ys ∧ xs.length ≤ 100
theorem scSame : FnScope ["_law_found", "_law_due"] ["_law_found", "_law_due"] (defScope sSame) := ⟨rfl, rfl, rfl, by decide +kernel, rfl, by decide +kernel, by decide +kernel⟩
/-- tuples whose items go together -/
def RTu (R : Hp → V → V → Prop) (H : Hp) (x y : V) : Prop := ∃ (a b : Addr) (xs ys : List V), x = .ref a ∧ y = .ref b ∧ H a = some (.tup xs) ∧ H b = some (.tup ys) ∧ Paired (R H) xs ys ∧ xs.length ≤ 100
theorem ok_sameTu {R : Hp → V → V → Prop} {k : Nat} (hR : ∀ {H H' : Hp} {x y : V}, R H x y → Same H H' → R H' x y) {f : Addr} {fd : FuncData} (F : Fun K "_law_same" "_law_same" sSame f fd) (G : Gs mg) (D : Def P w K mg base k "_law_same" ["_law_found", "_law_due"] (spSame R)) :
    FnOk P w K mg base CX0 (k + 1) f fd ["_law_found", "_law_due"] (spSame (RTu R)) := by
  refine F.ok scSame (fun vs H Q E h => ?_) (fun cdv A outer s H vs Q E hr h => ?_)
  · obtain ⟨x, y, rfl, _⟩ := h
    rfl
  · obtain ⟨x, y, rfl, ⟨a, b, xs, ys, rfl, rfl, ha, hb, pr, hl⟩, q⟩ := h
    refine ⟨_, pss_cons (ps_if (pt_val (pe_callB (call_isinst2T (a := "list") (b := "tuple")) rfl G.isinstance boot_isinstance (pa_cons (pv 1) (pa_cons (pe_tup (pa_cons (pe_bltn (v := .ty "list") rfl G.list boot_list rfl) (pa_cons (pe_bltn (v := .ty "tuple") rfl G.tuple boot_tuple rfl) pa_nil))) pa_nil))))
        (pss_cons (ps_if (PW.pt (pw_or (pt_cmpR op_ne (pe_callB (call_isinst (c := "list")) rfl G.isinstance boot_isinstance (pa_cons (pv 0) (pa_cons (pe_bltn (v := .ty "list") rfl G.list boot_list rfl) pa_nil))) (pe_callB (call_isinst (c := "list")) rfl G.isinstance boot_isinstance (pa_cons (pv 1) (pa_cons (pe_bltn (v := .ty "list") rfl G.list boot_list rfl) pa_nil))) (nomark _))
            (pw_or1 (pt_cmpR op_ne (pe_callB (call_isinst (c := "tuple")) rfl G.isinstance boot_isinstance (pa_cons (pv 0) (pa_cons (pe_bltn (v := .ty "tuple") rfl G.tuple boot_tuple rfl) pa_nil))) (pe_callB (call_isinst (c := "tuple")) rfl G.isinstance boot_isinstance (pa_cons (pv 1) (pa_cons (pe_bltn (v := .ty "tuple") rfl G.tuple boot_tuple rfl) pa_nil))) (nomark _))))) pss_never pss_nil)
        (pss_one (ps_ret (pe_and (pe_cmpR op_eq (pe_callB call_len_seq rfl G.len boot_len (pa_cons (pv 0) pa_nil)) (pe_callB call_len_seq rfl G.len boot_len (pa_cons (pv 1) pa_nil)) (nomark _))
          (pe_one (pe_callB call_all rfl G.all boot_all (pa_cons (pe_comp ["_law_one", "_law_other"] 2 [] (pi_zipT rfl G.zip (pa_cons (pv 0) (pa_cons (pv 1) pa_nil)))
            (fun C s H fp => show PG (blk _ _ _ C s H fp) _ (gTup K 2 (gCons (gName 0) (gCons (gName 1) gNil))) from pg_tup rfl (pgs_cons (pb 0) (pgs_cons (pb 1) pgs_nil))) (fun C s H fp => pts_nil)
            (fun C s H fp D' => pin_emit rfl (pe_callD D hr (pa_cons (pv 0) (pa_cons (pv 1) pa_nil))))) pa_nil))))))) pss_nil) pss_never, ?_⟩
    refine ⟨_, rfl, (by show 2 ≤ sizeLine; decide), fun t ht => ?_⟩
    have s1 := same_upd (o := .tup [V.ty "list", V.ty "tuple"]) ht
    have e1 : upd H t (.tup [V.ty "list", V.ty "tuple"]) t = some (.tup [V.ty "list", V.ty "tuple"]) := upd_same
    generalize upd H t (HO.tup [V.ty "list", V.ty "tuple"]) = H1 at s1 e1
    have ha1 := s1 _ _ ha
    have hb1 := s1 _ _ hb
    refine ⟨_, t, _, _, rfl, SqT.of e1, .inr (.inr (.inr ⟨b, ys, rfl, hb1, rfl⟩)), (show _ = some true from rfl), _, rfl, iteT ?_⟩
    refine ⟨_, rfl, _, _, _, rfl, .tup ha1, (show _ = some false from rfl), _, rfl, _, _, _, rfl, .tup hb1, (show _ = some false from rfl), rfl, _, rfl, iteF ?_⟩
    refine ⟨_, rfl, _, _, _, rfl, .tup ha1, (show _ = some true from rfl), _, rfl, _, _, _, rfl, .tup hb1, (show _ = some true from rfl), rfl, _, rfl, iteF ?_⟩
    have hlen : xs.length = ys.length := Paired.length pr
    refine ⟨_, rfl, a, xs, rfl, .inr (SqT.of ha1), _, rfl, b, ys, rfl, .inr (SqT.of hb1), rfl, _, rfl, ?_⟩
    have el : decide (V.int (xs.length : Int) = V.int (ys.length : Int)) = true := decide_eq_true (by rw [hlen])
    rw [el]
    refine iteT ⟨_, rfl, _, rfl, a, b, rfl, ⟨xs, ys, SqT.of ha1, SqT.of hb1⟩, ?_⟩
    refine nest_zipT (xs := xs) (zs := ys) hlen (fun i zs σ H2 => ∃ v0 v1, σ = [v0, v1] ∧ Same H1 H2 ∧ zs = List.replicate i (V.bl true)) ⟨_, _, rfl, Same.refl _, rfl⟩ (fun i zs σ H2 _ ⟨_, _, _, s2, _⟩ => ⟨SqT.of (s2 _ _ ha1), SqT.of (s2 _ _ hb1)⟩) ?_ ?_
    · rintro i x y T zs σ H2 hx hy hT ⟨v0, v1, rfl, s2, rfl⟩
      obtain ⟨y', hy', r⟩ := pr_at pr hx
      rw [hy] at hy'
      cases hy'
      have sT := same_upd (o := .par [x, y]) hT
      have hi : i < xs.length := (List.getElem?_eq_some_iff.mp hx).1
      refine ⟨T, _, rfl, SqT.ofP upd_same, rfl, _, _, rfl, _, _, rfl, rfl, ?_⟩
      refine ⟨x, rfl, y, rfl, x, y, rfl, hR r (s1.trans (s2.trans sT)), fun H3 s3 => ⟨by rw [List.length_replicate, sizeLine_eq]; omega, _, _, rfl, s2.trans (sT.trans s3), ?_⟩⟩
      rw [List.replicate_succ']
    · rintro zs σ H2 ⟨v0, v1, rfl, s2, rfl⟩ p hp
      refine ⟨p, List.replicate xs.length true, rfl, ?_, ?_⟩
      · rw [List.map_replicate]
        exact SqL.of upd_same
      · have e : (List.replicate xs.length true).all id = true := by simp
        rw [e]
        exact q _ (s1.trans (s2.trans (same_upd hp)))
end
def nm15 : List Str := ["NoBoard", "NoLay", "NoNumber", "NoPoints", "NoPoint", "NoPaper", "NoUnlike", "NoPrime", "NoRoot", "NoTurn", "TooFew", "TooMany", "NoText", "NoLine", "NoDeed"]
def wd1 : List Str := ["board", "lay", "number", "points", "point", "paper", "unlike", "prime"]
def wd2 : List Str := ["root", "turn", "few", "many", "text", "line", "deed"]
def wordOf (i : Nat) : Str := (wd1 ++ wd2).getD i ""
/-- what the classes of refusals are to the class at C -/
structure Mk15 (K : PySem.W.Frag) (mg : Str → Option Value) (cS C : Addr) (iC : Nat) : Prop where
  z : ExcK K C
  ms : mg "StepError" = some (.ref cS)
  xs : PySem.W.exmOne K (.ref C) (.ref cS) = some true
  m : ∀ i, i < 15 → ∃ c, mg (nm15.getD i "") = some (.ref c) ∧ PySem.W.kitOne K (.ref C) (.ref c) = some (decide (i = iC))
  mv : mg "ValueError" = none
  xv : PySem.W.kitOne K (.ref C) (.type "ValueError") = some true
  lt : iC < 15
def marksL (iC n : Nat) : List V := (List.range n).map fun i => V.bl (decide (i = iC))
theorem marks_flat (iC n : Nat) : (marksL iC n).all flatV = true := by
  unfold marksL
  rw [List.all_map, List.all_eq_true]
  exact fun _ _ => rfl
theorem marks_count : ∀ iC, iC < 15 → (marksL iC 15).countP (fun y => eqV y (.bl true)) = 1 := by decide +kernel
theorem marks_at {iC : Nat} (h : iC < 15) : (marksL iC 15)[iC]? = some (.bl true) := by
  unfold marksL
  rw [List.getElem?_map, List.getElem?_range h]
  show some (V.bl (decide (iC = iC))) = _
  rw [decide_eq_true rfl]
theorem marks_no {iC m : Nat} {y : V} (h : m < iC) (e : (marksL iC 15)[m]? = some y) : eqV y (.bl true) = false := by
  unfold marksL at e
  rw [List.getElem?_map] at e
  obtain ⟨k, hk, rfl⟩ := Option.map_eq_some_iff.mp e
  have : k = m := by
    have := List.getElem?_eq_some_iff.mp hk
    simpa using this.2.symm
  subst this
  show (decide (k = iC) == true) = false
  rw [decide_eq_false (by omega)]
  rfl
/-- isinstance(e, C), e a caught exception in the name's place -/
def tII (K : PySem.W.Frag) (i : Nat) (u : Value) : TE := fun σ H Q => ∃ e C b, σ[i]? = some (some (.ref e)) ∧ H e = some (excO e C) ∧ ExcK K C ∧ PySem.W.kitOne K (.ref C) u = some b ∧ Q (.bl b) H
theorem pe_ii {X : Cx} {i : Nat} {y n : Str} {c : Addr} {p1 p2 p3 p4 : Pos} (hi : X.mg "isinstance" = none) (hx : PE X (.Name y p2) (tVar i)) (hm : X.mg n = some (.ref c)) (g1 : Gl X "isinstance" := by rfl) (g2 : Gl X n := by rfl) (hd : (n == ("__debug__" : Str)) = false := by decide) :
    PE X (.Call (.Name "isinstance" p1) [.Name y p2, .Name n p3] [] p4) (tII X.K i (.ref c)) := by
  intro pins s σ H Q I h
  obtain ⟨e, C, b, h1, h2, h3, h4, h5⟩ := h
  have z : PE X (.Call (.Name "isinstance" p1) [.Name y p2, .Name n p3] [] p4) _ := pe_callB call_isinstX g1 hi boot_isinstance (pa_cons hx (pa_cons (pe_glob (v := .ref c) g2 hm rfl hd) pa_nil))
  exact z pins s σ H Q I ⟨_, h1, e, C, _, _, _, rfl, h2, h3, fun _ h => h, h4, h5⟩
section
variable {P : Program} {w : World} {K : PySem.W.Frag} {mg : Str → Option Value} {base : Heap}
abbrev sWord : Stmt := top 40
def spWord (P : Program) (w : World) (K : PySem.W.Frag) (mg : Str → Option Value) (base : Heap) (cS : Addr) (k : Nat) : Sp := fun vs H Q _ => ∃ f fd sp C iC, vs = [.ref f] ∧ Mk15 K mg cS C iC ∧ (∀ s, HOk P w H s → PySem.W.FnAt f s) ∧ FnOk P w K mg base (CXR P w) k f fd [] sp ∧
  (∀ s, BindsTo s fd ⟨[], []⟩ []) ∧ (∀ Q' E', (∀ e H', Same H H' → E' (.ref e) (some C) H') → sp [] H Q' E') ∧ ∀ H', Same H H' → Q (.str (wordOf iC)) H'
abbrev nWord : List Str := ["_law_call", "_law_error", "e", "_law_marks", "_law_more", "_law_words"]
theorem scWord : FnScope nWord ["_law_call"] (defScope sWord) := ⟨rfl, rfl, rfl, by decide +kernel, rfl, by decide +kernel, by decide +kernel⟩
theorem ok_word {k : Nat} {f : Addr} {fd : FuncData} {cS : Addr} (F : Fun K "_law_word" "_law_word" sWord f fd) (G : Gs mg) : FnOk P w K mg base CX0 (k + 1) f fd ["_law_call"] (spWord P w K mg base cS k) := by
  refine F.ok scWord (fun vs H Q E h => ?_) (fun cdv A outer s H vs Q E hr h => ?_)
  · obtain ⟨f, fd, sp, C, iC, rfl, _⟩ := h
    rfl
  · obtain ⟨f, fd, sp, C, iC, rfl, M, hfn, Fl, hbd, hsp, q⟩ := h
    obtain ⟨c0, m0, k0⟩ := M.m 0 (by decide)
    obtain ⟨c1, m1, k1⟩ := M.m 1 (by decide)
    obtain ⟨c2, m2, k2⟩ := M.m 2 (by decide)
    obtain ⟨c3, m3, k3⟩ := M.m 3 (by decide)
    obtain ⟨c4, m4, k4⟩ := M.m 4 (by decide)
    obtain ⟨c5, m5, k5⟩ := M.m 5 (by decide)
    obtain ⟨c6, m6, k6⟩ := M.m 6 (by decide)
    obtain ⟨c7, m7, k7⟩ := M.m 7 (by decide)
    obtain ⟨c8, m8, k8⟩ := M.m 8 (by decide)
    obtain ⟨c9, m9, k9⟩ := M.m 9 (by decide)
    obtain ⟨c10, m10, k10⟩ := M.m 10 (by decide)
    obtain ⟨c11, m11, k11⟩ := M.m 11 (by decide)
    obtain ⟨c12, m12, k12⟩ := M.m 12 (by decide)
    obtain ⟨c13, m13, k13⟩ := M.m 13 (by decide)
    obtain ⟨c14, m14, k14⟩ := M.m 14 (by decide)
    have gi := G.isinstance
    refine ⟨_, pss_cons (ps_set (i := 1) scWord.nd rfl (Or.inl rfl) pe_non)
      (pss_cons (ps_tryCall (ic := 0) (ie := 2) rfl rfl rfl scWord.nd rfl (Or.inl rfl) rfl rfl M.ms rfl hr (fun e => pss_one (ps_set (i := 1) scWord.nd rfl (Or.inl rfl) (pv 2))))
      (pss_cons (ps_set (i := 3) scWord.nd rfl (Or.inl rfl) (pe_lst (pa_cons (pe_ii gi (pv 1) m0) (pa_cons (pe_ii gi (pv 1) m1) (pa_cons (pe_ii gi (pv 1) m2) pa_nil)))))
      (pss_cons (ps_set (i := 4) scWord.nd rfl (Or.inl rfl) (pe_lst (pa_cons (pe_ii gi (pv 1) m3) (pa_cons (pe_ii gi (pv 1) m4) (pa_cons (pe_ii gi (pv 1) m5) pa_nil)))))
      (pss_cons (ps_set (i := 3) scWord.nd rfl (Or.inl rfl) (pe_op op_cat (pe_op op_cat (pv 3) (pv 4)) (pe_lst (pa_cons (pe_ii gi (pv 1) m6) (pa_cons (pe_ii gi (pv 1) m7) pa_nil)))))
      (pss_cons (ps_set (i := 3) scWord.nd rfl (Or.inl rfl) (pe_op op_cat (pv 3) (pe_lst (pa_cons (pe_ii gi (pv 1) m8) (pa_cons (pe_ii gi (pv 1) m9) pa_nil)))))
      (pss_cons (ps_set (i := 3) scWord.nd rfl (Or.inl rfl) (pe_op op_cat (pv 3) (pe_lst (pa_cons (pe_ii gi (pv 1) m10) (pa_cons (pe_ii gi (pv 1) m11) pa_nil)))))
      (pss_cons (ps_set (i := 3) scWord.nd rfl (Or.inl rfl) (pe_op op_cat (pv 3) (pe_lst (pa_cons (pe_ii gi (pv 1) m12) (pa_cons (pe_ii gi (pv 1) m13) pa_nil)))))
      (pss_cons (ps_expr (pe_bm PySem.F.plainAttrs_list PySem.F.slot_list_append PySem.F.type_list_append mt_append (pv 3) (pa_cons (pe_ii gi (pv 1) m14) pa_nil)))
      (pss_cons (ps_if (pt_cmp (pc_isN (pv 1))) pss_never pss_nil)
      (pss_cons (ps_if (PW.pt (pw_or (pt_cmpR op_ne (pe_bm PySem.F.plainAttrs_list PySem.F.slot_list_count PySem.F.type_list_count mt_count (pv 3) (pa_cons pe_bl pa_nil)) pe_int (nomark _))
          (pw_or1 (pt_not (pt_val (pe_callB call_isinstX rfl gi boot_isinstance (pa_cons (pv 1) (pa_cons (pe_bltn (v := .ty "ValueError") rfl M.mv PyProof.Rows.Boot.«ValueError» rfl) pa_nil)))))))) pss_never pss_nil)
      (pss_cons (ps_set (i := 5) scWord.nd rfl (Or.inl rfl) (pe_lst (pa_scs (vs := wd1.map V.str) rfl)))
      (pss_cons (ps_set (i := 5) scWord.nd rfl (Or.inl rfl) (pe_op op_cat (pv 5) (pe_lst (pa_scs (vs := wd2.map V.str) rfl))))
      (pss_one (ps_ret (pe_ix ix_list (pv 5) (pe_bm PySem.F.plainAttrs_list PySem.F.slot_list_index PySem.F.type_list_index mt_lindex (pv 3) (pa_cons pe_bl pa_nil)) (fun _ _ => rfl)))))))))))))))), ?_⟩
    refine ⟨f, fd, sp, rfl, hfn, Fl, hbd, hsp _ _ fun e H1 s1 => ⟨e, C, rfl, rfl, M.xs, fun he0 => ⟨_, rfl, ?_⟩⟩⟩
    have s2 : Same H1 (upd H1 e (excO e C)) := same_upd he0
    have he : upd H1 e (excO e C) e = some (excO e C) := upd_same
    generalize upd H1 e (excO e C) = H2 at s2 he
    have sA := s1.trans s2
    dsimp only [List.set]
    refine tSeq_i (tAsg_i ⟨e, C, _, rfl, he, M.z, k0, e, C, _, rfl, he, M.z, k1, e, C, _, rfl, he, M.z, k2, (by show 3 ≤ sizeLine; decide), fun l1 hl1 => gName_i ?_⟩)
    dsimp only
    show tSeq _ _ _ [some (.ref f), some (.ref e), none, some (.ref l1), none, none] (upd H2 l1 (.lst (marksL iC 3)))
    have t1 := same_upd (o := .lst (marksL iC 3)) hl1
    have g1 : upd H2 l1 (.lst (marksL iC 3)) l1 = some (.lst (marksL iC 3)) := upd_same
    generalize upd H2 l1 (HO.lst (marksL iC 3)) = H3 at t1 g1
    have he3 := t1 _ _ he
    refine tSeq_i (tAsg_i ⟨e, C, _, rfl, he3, M.z, k3, e, C, _, rfl, he3, M.z, k4, e, C, _, rfl, he3, M.z, k5, (by show 3 ≤ sizeLine; decide), fun l2 hl2 => gName_i ?_⟩)
    dsimp only
    show tSeq _ _ _ [some (.ref f), some (.ref e), none, some (.ref l1), some (.ref l2), none] (upd H3 l2 (.lst [V.bl (decide (3 = iC)), V.bl (decide (4 = iC)), V.bl (decide (5 = iC))]))
    have t2 := same_upd (o := .lst [V.bl (decide (3 = iC)), V.bl (decide (4 = iC)), V.bl (decide (5 = iC))]) hl2
    have g2 : upd H3 l2 (.lst [V.bl (decide (3 = iC)), V.bl (decide (4 = iC)), V.bl (decide (5 = iC))]) l2 = some (.lst [V.bl (decide (3 = iC)), V.bl (decide (4 = iC)), V.bl (decide (5 = iC))]) := upd_same
    generalize upd H3 l2 (HO.lst [V.bl (decide (3 = iC)), V.bl (decide (4 = iC)), V.bl (decide (5 = iC))]) = H4 at t2 g2
    have he4 := t2 _ _ he3
    refine tSeq_i (tAsg_i ⟨_, rfl, _, rfl, l1, l2, marksL iC 3, _, rfl, rfl, t2 _ _ g1, g2, (by show 3 + 3 ≤ sizeLine; decide), fun l3 hl3 => ?_⟩)
    show tLst _ _ (upd H4 l3 (.lst (marksL iC 6))) _
    have t3 := same_upd (o := .lst (marksL iC 6)) hl3
    have g3 : upd H4 l3 (.lst (marksL iC 6)) l3 = some (.lst (marksL iC 6)) := upd_same
    generalize upd H4 l3 (HO.lst (marksL iC 6)) = H5 at t3 g3
    have he5 := t3 _ _ he4
    refine ⟨e, C, _, rfl, he5, M.z, k6, e, C, _, rfl, he5, M.z, k7, (by show 2 ≤ sizeLine; decide), fun l4 hl4 => ?_⟩
    have t4 := same_upd (o := .lst [V.bl (decide (6 = iC)), V.bl (decide (7 = iC))]) hl4
    have g4 : upd H5 l4 (.lst [V.bl (decide (6 = iC)), V.bl (decide (7 = iC))]) l4 = some (.lst [V.bl (decide (6 = iC)), V.bl (decide (7 = iC))]) := upd_same
    generalize upd H5 l4 (HO.lst [V.bl (decide (6 = iC)), V.bl (decide (7 = iC))]) = H6 at t4 g4
    refine ⟨l3, l4, marksL iC 6, _, rfl, rfl, t4 _ _ g3, g4, (by show 6 + 2 ≤ sizeLine; decide), fun l5 hl5 => gName_i ?_⟩
    dsimp only
    show tSeq _ _ _ [some (.ref f), some (.ref e), none, some (.ref l5), some (.ref l2), none] (upd H6 l5 (.lst (marksL iC 8)))
    have t5 := same_upd (o := .lst (marksL iC 8)) hl5
    have g5 : upd H6 l5 (.lst (marksL iC 8)) l5 = some (.lst (marksL iC 8)) := upd_same
    generalize upd H6 l5 (HO.lst (marksL iC 8)) = H7 at t5 g5
    have he7 := t5 _ _ (t4 _ _ he5)
    refine tSeq_i (tAsg_i ⟨_, rfl, e, C, _, rfl, he7, M.z, k8, e, C, _, rfl, he7, M.z, k9, (by show 2 ≤ sizeLine; decide), fun a8 ha8 => ?_⟩)
    have ta8 := same_upd (o := .lst [V.bl (decide (8 = iC)), V.bl (decide (9 = iC))]) ha8
    have ga8 : upd H7 a8 (.lst [V.bl (decide (8 = iC)), V.bl (decide (9 = iC))]) a8 = some (.lst [V.bl (decide (8 = iC)), V.bl (decide (9 = iC))]) := upd_same
    generalize upd H7 a8 (HO.lst [V.bl (decide (8 = iC)), V.bl (decide (9 = iC))]) = Ha8 at ta8 ga8
    refine ⟨l5, a8, marksL iC 8, _, rfl, rfl, ta8 _ _ g5, ga8, (by show 8 + 2 ≤ sizeLine; decide), fun b8 hb8 => gName_i ?_⟩
    dsimp only
    show tSeq _ _ _ [some (.ref f), some (.ref e), none, some (.ref b8), some (.ref l2), none] (upd Ha8 b8 (.lst (marksL iC 10)))
    have tb8 := same_upd (o := .lst (marksL iC 10)) hb8
    have gb8 : upd Ha8 b8 (.lst (marksL iC 10)) b8 = some (.lst (marksL iC 10)) := upd_same
    generalize upd Ha8 b8 (HO.lst (marksL iC 10)) = Hb8 at tb8 gb8
    have heb8 := tb8 _ _ (ta8 _ _ he7)
    refine tSeq_i (tAsg_i ⟨_, rfl, e, C, _, rfl, heb8, M.z, k10, e, C, _, rfl, heb8, M.z, k11, (by show 2 ≤ sizeLine; decide), fun a10 ha10 => ?_⟩)
    have ta10 := same_upd (o := .lst [V.bl (decide (10 = iC)), V.bl (decide (11 = iC))]) ha10
    have ga10 : upd Hb8 a10 (.lst [V.bl (decide (10 = iC)), V.bl (decide (11 = iC))]) a10 = some (.lst [V.bl (decide (10 = iC)), V.bl (decide (11 = iC))]) := upd_same
    generalize upd Hb8 a10 (HO.lst [V.bl (decide (10 = iC)), V.bl (decide (11 = iC))]) = Ha10 at ta10 ga10
    refine ⟨b8, a10, marksL iC 10, _, rfl, rfl, ta10 _ _ gb8, ga10, (by show 10 + 2 ≤ sizeLine; decide), fun b10 hb10 => gName_i ?_⟩
    dsimp only
    show tSeq _ _ _ [some (.ref f), some (.ref e), none, some (.ref b10), some (.ref l2), none] (upd Ha10 b10 (.lst (marksL iC 12)))
    have tb10 := same_upd (o := .lst (marksL iC 12)) hb10
    have gb10 : upd Ha10 b10 (.lst (marksL iC 12)) b10 = some (.lst (marksL iC 12)) := upd_same
    generalize upd Ha10 b10 (HO.lst (marksL iC 12)) = Hb10 at tb10 gb10
    have heb10 := tb10 _ _ (ta10 _ _ heb8)
    refine tSeq_i (tAsg_i ⟨_, rfl, e, C, _, rfl, heb10, M.z, k12, e, C, _, rfl, heb10, M.z, k13, (by show 2 ≤ sizeLine; decide), fun a12 ha12 => ?_⟩)
    have ta12 := same_upd (o := .lst [V.bl (decide (12 = iC)), V.bl (decide (13 = iC))]) ha12
    have ga12 : upd Hb10 a12 (.lst [V.bl (decide (12 = iC)), V.bl (decide (13 = iC))]) a12 = some (.lst [V.bl (decide (12 = iC)), V.bl (decide (13 = iC))]) := upd_same
    generalize upd Hb10 a12 (HO.lst [V.bl (decide (12 = iC)), V.bl (decide (13 = iC))]) = Ha12 at ta12 ga12
    refine ⟨b10, a12, marksL iC 12, _, rfl, rfl, ta12 _ _ gb10, ga12, (by show 12 + 2 ≤ sizeLine; decide), fun b12 hb12 => gName_i ?_⟩
    dsimp only
    show tSeq _ _ _ [some (.ref f), some (.ref e), none, some (.ref b12), some (.ref l2), none] (upd Ha12 b12 (.lst (marksL iC 14)))
    have tb12 := same_upd (o := .lst (marksL iC 14)) hb12
    have gb12 : upd Ha12 b12 (.lst (marksL iC 14)) b12 = some (.lst (marksL iC 14)) := upd_same
    generalize upd Ha12 b12 (HO.lst (marksL iC 14)) = Hb12 at tb12 gb12
    have heb12 := tb12 _ _ (ta12 _ _ heb10)
    have sB : Same H Hb12 := s1.trans (s2.trans (t1.trans (t2.trans (t3.trans (t4.trans (t5.trans (ta8.trans (tb8.trans (ta10.trans (tb10.trans (ta12.trans (tb12))))))))))))
    refine tSeq_i ⟨_, rfl, .inl ⟨rfl, _, SqL.of gb12⟩, e, C, _, rfl, heb12, M.z, k14, b12, _, _, rfl, rfl, gb12, (by show 14 < sizeLine; decide), ?_⟩
    show tSeq _ _ _ [some (.ref f), some (.ref e), none, some (.ref b12), some (.ref l2), none] (upd Hb12 b12 (.lst (marksL iC 15)))
    have nb12 : H b12 = none := (s1.trans (s2.trans (t1.trans (t2.trans (t3.trans (t4.trans (t5.trans (ta8.trans (tb8.trans (ta10.trans (tb10.trans ta12))))))))))).free hb12
    have sC : Same H (upd Hb12 b12 (.lst (marksL iC 15))) := same_new sB nb12
    have hec : upd Hb12 b12 (.lst (marksL iC 15)) e = some (excO e C) := by rw [upd_ne (fun z => by rw [z, gb12] at heb12; cases heb12)]; exact heb12
    have gc : upd Hb12 b12 (.lst (marksL iC 15)) b12 = some (.lst (marksL iC 15)) := upd_same
    generalize upd Hb12 b12 (HO.lst (marksL iC 15)) = Hc at sC hec gc
    refine tSeq_i ⟨_, rfl, _, rfl, iteF ?_⟩
    refine tNext_i ?_
    dsimp only
    refine tSeq_i ⟨_, rfl, .inl ⟨rfl, _, SqL.of gc⟩, b12, _, _, rfl, rfl, SqL.of gc, rfl, marks_flat _ _, ?_⟩
    rw [marks_count iC M.lt]
    refine ⟨rfl, _, rfl, iteF ⟨_, rfl, e, C, _, _, _, rfl, hec, M.z, fun _ h => h, M.xv, _, rfl, iteF ?_⟩⟩
    refine tNext_i ?_
    dsimp only
    refine tSeq_i (tAsg_i ⟨(by show 8 ≤ sizeLine; decide), fun d1 hd1 => gName_i ?_⟩)
    dsimp only
    show tSeq _ _ _ [some (.ref f), some (.ref e), none, some (.ref b12), some (.ref l2), some (.ref d1)] _
    have u1 := same_upd (o := .lst (wd1.map V.str)) hd1
    have v1 : upd Hc d1 (.lst (wd1.map V.str)) d1 = some (.lst (wd1.map V.str)) := upd_same
    generalize upd Hc d1 (HO.lst (wd1.map V.str)) = Hd at u1 v1
    refine tSeq_i (tAsg_i ⟨_, rfl, (by show 7 ≤ sizeLine; decide), fun d2 hd2 => ?_⟩)
    have u2 := same_upd (o := .lst (wd2.map V.str)) hd2
    have v2 : upd Hd d2 (.lst (wd2.map V.str)) d2 = some (.lst (wd2.map V.str)) := upd_same
    generalize upd Hd d2 (HO.lst (wd2.map V.str)) = He at u2 v2
    refine ⟨d1, d2, _, _, rfl, rfl, u2 _ _ v1, v2, (by show 8 + 7 ≤ sizeLine; decide), fun d3 hd3 => gName_i ?_⟩
    dsimp only
    show tRet _ _ [some (.ref f), some (.ref e), none, some (.ref b12), some (.ref l2), some (.ref d3)] _
    have u3 := same_upd (o := .lst (wd1.map V.str ++ wd2.map V.str)) hd3
    have v3 : upd He d3 (.lst (wd1.map V.str ++ wd2.map V.str)) d3 = some (.lst (wd1.map V.str ++ wd2.map V.str)) := upd_same
    generalize upd He d3 (HO.lst (wd1.map V.str ++ wd2.map V.str)) = Hf at u3 v3
    have gf := u3 _ _ (u2 _ _ (u1 _ _ gc))
    refine ⟨_, rfl, _, rfl, .inl ⟨rfl, _, SqL.of gf⟩, b12, _, _, iC, rfl, rfl, SqL.of gf, rfl, marks_flat _ _, ⟨_, marks_at M.lt, rfl⟩, fun m y h e => marks_no h e, ?_⟩
    refine ⟨d3, _, _, _, rfl, rfl, SqL.of v3, atI_nat (v := .str (wordOf iC)) ?_, q _ (sC.trans (u1.trans (u2.trans u3)))⟩
    rw [← List.map_append, List.getElem?_map]
    unfold wordOf
    have hl : iC < (wd1 ++ wd2).length := M.lt
    rw [List.getElem?_eq_getElem hl, List.getD_eq_getElem?_getD, List.getElem?_eq_getElem hl]
    rfl
end
end U
-- part K11f
set_option Elab.async false
set_option linter.all false
set_option maxRecDepth 100000
set_option maxHeartbeats 40000000
namespace U
open PySem L2 PyProof.Rows
/-- a written thing that is plain -/
def plLit : Lit → Bool
  | .sc v => scal v
  | .tup xs => xs.all scal
  | _ => true
def litTup : Lit → Option (List V)
  | .tup xs => some xs
  | _ => none
theorem lit_tup {H : Hp} {v : V} : ∀ {l : Lit}, plLit l = true → LitAt H v l → tupOf H v = litTup l
  | .sc u, hp, h => by
    have h' : v = u := h
    subst h'
    cases v with
    | ref a => cases hp
    | _ => rfl
  | .tup xs, _, ⟨a, e, h⟩ => by rw [e, tupOf_ref h]; rfl
  | .lst xs, _, ⟨a, e, h⟩ => by rw [e, tupOf_r, h]; rfl
  | .dct, _, ⟨a, e, h⟩ => by rw [e, tupOf_r, h]; rfl
theorem lit_pl {K : PySem.W.Frag} {H : Hp} {v : V} : ∀ {l : Lit}, plLit l = true → LitAt H v l → Pl1 K H v
  | .sc u, hp, h => by
    have h' : v = u := h
    subst h'
    refine ⟨pl_scal hp, fun xs e y hy => ?_⟩
    rw [lit_tup (l := .sc v) hp rfl] at e
    cases e
  | .tup xs, hp, ⟨a, e, h⟩ => by
    subst e
    refine ⟨⟨_, .tup h⟩, fun ys e y hy => ?_⟩
    rw [tupOf_ref h] at e
    cases e
    exact pl_scal (List.all_eq_true.mp hp y hy)
  | .lst xs, hp, ⟨a, e, h⟩ => by
    subst e
    refine ⟨⟨_, .lst h⟩, fun ys e y hy => ?_⟩
    rw [tupOf_r, h] at e
    cases e
  | .dct, hp, ⟨a, e, h⟩ => by
    subst e
    refine ⟨⟨_, .dK h⟩, fun ys e y hy => ?_⟩
    rw [tupOf_r, h] at e
    cases e
/-- neither the thing nor an item of it is what stands at p -/
def NoRef (p : Addr) (H : Hp) (v : V) : Prop := v ≠ .ref p ∧ ∀ xs, tupOf H v = some xs → ∀ y ∈ xs, y ≠ .ref p
/-! ### what stays over a change at p -/
theorem tupOf_x {K : PySem.W.Frag} {H H' : Hp} {p : Addr} {v : V} (t : PlT K H v) (s : SameX p H H') (hn : v ≠ .ref p) : tupOf H' v = tupOf H v := by
  obtain ⟨T, t⟩ := t
  cases t with
  | tup e => rw [tupOf_ref e, tupOf_ref (s _ _ e fun z => hn (by rw [z]))]
  | lst e => rw [tupOf_r, tupOf_r, e, s _ _ e fun z => hn (by rw [z])]
  | frz e => rw [tupOf_r, tupOf_r, e, s _ _ e fun z => hn (by rw [z])]
  | dK e => rw [tupOf_r, tupOf_r, e, s _ _ e fun z => hn (by rw [z])]
  | dT e => rw [tupOf_r, tupOf_r, e, s _ _ e fun z => hn (by rw [z])]
  | _ => rfl
theorem plT_x {K : PySem.W.Frag} {H H' : Hp} {p : Addr} {v : V} (t : PlT K H v) (s : SameX p H H') (hn : v ≠ .ref p) : PlT K H' v := by
  obtain ⟨T, t⟩ := t
  cases t with
  | tup e => exact ⟨_, .tup (s _ _ e fun z => hn (by rw [z]))⟩
  | lst e => exact ⟨_, .lst (s _ _ e fun z => hn (by rw [z]))⟩
  | frz e => exact ⟨_, .frz (s _ _ e fun z => hn (by rw [z]))⟩
  | dK e => exact ⟨_, .dK (s _ _ e fun z => hn (by rw [z]))⟩
  | dT e => exact ⟨_, .dT (s _ _ e fun z => hn (by rw [z]))⟩
  | non => exact ⟨_, .non⟩
  | bl b => exact ⟨_, .bl b⟩
  | int i => exact ⟨_, .int i⟩
  | str x => exact ⟨_, .str x⟩
  | flt x => exact ⟨_, .flt x⟩
theorem pl1_x {K : PySem.W.Frag} {H H' : Hp} {p : Addr} {v : V} (t : Pl1 K H v) (s : SameX p H H') (n : NoRef p H v) : Pl1 K H' v := by
  refine ⟨plT_x t.1 s n.1, fun xs e y hy => ?_⟩
  rw [tupOf_x t.1 s n.1] at e
  exact plT_x (t.2 xs e y hy) s (n.2 xs e y hy)
theorem noRef_x {K : PySem.W.Frag} {H H' : Hp} {p q : Addr} {v : V} (t : PlT K H v) (s : SameX q H H') (hq : v ≠ .ref q) (n : NoRef p H v) : NoRef p H' v := ⟨n.1, fun xs e => n.2 xs (by rw [← tupOf_x t s hq]; exact e)⟩
theorem badB_x {K : PySem.W.Frag} {H H' : Hp} {p : Addr} {v : V} (b : BadBoard K H v) (s : SameX p H H') (n : NoRef p H v) : BadBoard K H' v := ⟨pl1_x b.1 s n, by rw [tupOf_x b.1.1 s n.1]; exact b.2⟩
section
variable {P : Program} {w : World} {K : PySem.W.Frag} {mg : Str → Option Value} {base : Heap}
/-! ### what is no board -/
abbrev sNoB : Stmt := top 42
def noB1 : List Lit := [.sc .non, .tup [.int 0, .int 3], .tup [.int 3, .int 13], .tup [.int 13, .int 13], .lst [.int 3, .int 3], .tup [.int 3], .tup [.int 3, .int 3, .int 3], .tup [.bl true, .int 3], .tup [.int 3, .str "3"], .sc (.int 7)]
def badLit (l : Lit) : Bool := plLit l && !isBoardL (litTup l)
theorem noB_bad : noB1.all badLit = true := by decide +kernel
def spNoB (K : PySem.W.Frag) : Sp := fun vs H Q _ => ∃ p : Addr, vs = [.ref p] ∧ StAt H p ∧ ∀ v H', SameX p H H' → StAt H' p → BadBoard K H' v → NoRef p H' v → Q v H'
def noE1 : List Expr := match defBody sNoB with | .Assign _ (.List es _) _ :: _ => es | _ => []
def noSk (a : List Expr) : List Stmt := match defBody sNoB with
  | .Assign x (.List _ p1) p2 :: r => .Assign x (.List a p1) p2 :: r
  | _ => []
theorem noSk_eq : defBody sNoB = noSk noE1 := by kernel_rfl
theorem noE1_is : litsOf noE1 = some noB1 := by kernel_rfl
theorem scNoB : FnScope ["_law_state_here", "_law_some"] ["_law_state_here"] (defScope sNoB) := ⟨rfl, rfl, rfl, by decide +kernel, rfl, by decide +kernel, by decide +kernel⟩
theorem lit_keep {H H' : Hp} {p : Addr} {v : V} : ∀ {l : Lit}, LitAt H v l → (∀ a : Addr, v = .ref a → a ≠ p) → SameX p H H' → LitAt H' v l
  | .sc _, h, _, _ => h
  | .tup _, ⟨a, e, h⟩, n, s => ⟨a, e, s _ _ h (n a e)⟩
  | .lst _, ⟨a, e, h⟩, n, s => ⟨a, e, s _ _ h (n a e)⟩
  | .dct, ⟨a, e, h⟩, n, s => ⟨a, e, s _ _ h (n a e)⟩
theorem lit_noRef {H : Hp} {p : Addr} {v : V} {l : Lit} (hp : plLit l = true) (h : LitAt H v l) (n : ∀ a : Addr, v = .ref a → a ≠ p) : NoRef p H v := by
  refine ⟨fun z => n p z rfl, fun xs e y hy z => ?_⟩
  rw [lit_tup hp h] at e
  cases l with
  | tup ys =>
    cases e
    have := List.all_eq_true.mp (show xs.all scal = true from hp) y hy
    rw [z] at this
    cases this
  | _ => cases e
theorem ok_noB {f : Addr} {fd : FuncData} (F : Fun K "_law_no_board" "_law_no_board" sNoB f fd) (D1 : Def P w K mg base 1 "_law_take" ["_law_state_here", "_law_many"] spTake) : FnOk P w K mg base CX0 2 f fd ["_law_state_here"] (spNoB K) := by
  refine F.ok scNoB (fun vs H Q E h => ?_) (fun cdv A outer s H vs Q E hr h => ?_)
  · obtain ⟨p, rfl, _⟩ := h
    rfl
  · obtain ⟨p, rfl, st, q⟩ := h
    rw [noSk_eq]
    have i1 := noE1_is
    generalize noE1 = es1 at i1
    refine ⟨_, pss_cons (ps_set (i := 1) scNoB.nd rfl (Or.inl rfl) (pe_lst (pa_lits (ls := noB1) i1))) (pss_one (ps_ret (pe_ix ix_list (pe_op op_cat (pv 1) (pe_lst (pa_cons (pe_tup (pa_cons (pe_tup (pa_cons pe_int pa_nil)) (pa_cons pe_int pa_nil))) (pa_cons (pe_tup (pa_cons pe_int (pa_cons pe_non pa_nil))) pa_nil)))) (pe_callD D1 hr (pa_cons (pv 0) (pa_cons pe_int pa_nil))) (fun _ _ => rfl)))), ?_⟩
    refine tSeq_i (tAsg_i fun vs1 H1 s1 pr1 n1 => ?_)
    have l1 : vs1.length = 10 := Paired.length pr1
    refine ⟨by rw [l1]; decide, fun L1 hL1 => gName_i ?_⟩
    have s2 : Same H1 (upd H1 L1 (.lst vs1)) := same_upd hL1
    have eL : upd H1 L1 (.lst vs1) L1 = some (.lst vs1) := upd_same
    generalize upd H1 L1 (HO.lst vs1) = H2 at s2 eL
    dsimp only [List.set]
    refine ⟨_, rfl, (by show 1 ≤ sizeLine; decide), fun a1 ha1 => ?_⟩
    have s3 := same_upd (o := .tup [V.int 1]) ha1
    have e3 : upd H2 a1 (.tup [V.int 1]) a1 = some (.tup [V.int 1]) := upd_same
    generalize upd H2 a1 (HO.tup [V.int 1]) = H3 at s3 e3
    refine ⟨(by show 2 ≤ sizeLine; decide), fun a2 ha2 => ?_⟩
    have s4 := same_upd (o := .tup [V.ref a1, V.int 2]) ha2
    have e4 : upd H3 a2 (.tup [V.ref a1, V.int 2]) a2 = some (.tup [V.ref a1, V.int 2]) := upd_same
    generalize upd H3 a2 (HO.tup [V.ref a1, V.int 2]) = H4 at s4 e4
    refine ⟨(by show 2 ≤ sizeLine; decide), fun a3 ha3 => ?_⟩
    have s5 := same_upd (o := .tup [V.int 2, V.non]) ha3
    have e5 : upd H4 a3 (.tup [V.int 2, V.non]) a3 = some (.tup [V.int 2, V.non]) := upd_same
    generalize upd H4 a3 (HO.tup [V.int 2, V.non]) = H5 at s5 e5
    refine ⟨(by show 2 ≤ sizeLine; decide), fun L2' hL2 => ?_⟩
    have s6 := same_upd (o := .lst [V.ref a2, V.ref a3]) hL2
    have e6 : upd H5 L2' (.lst [V.ref a2, V.ref a3]) L2' = some (.lst [V.ref a2, V.ref a3]) := upd_same
    generalize upd H5 L2' (HO.lst [V.ref a2, V.ref a3]) = H6 at s6 e6
    refine ⟨L1, L2', _, _, rfl, rfl, s6 _ _ (s5 _ _ (s4 _ _ (s3 _ _ eL))), e6, by rw [l1]; show 10 + 2 ≤ sizeLine; decide, fun L3 hL3 => ?_⟩
    have s7 := same_upd (o := .lst (vs1 ++ [V.ref a2, V.ref a3])) hL3
    have e7 : upd H6 L3 (.lst (vs1 ++ [V.ref a2, V.ref a3])) L3 = some (.lst (vs1 ++ [V.ref a2, V.ref a3])) := upd_same
    generalize upd H6 L3 (HO.lst (vs1 ++ [V.ref a2, V.ref a3])) = H7 at s7 e7
    have s37 := s3.trans (s4.trans (s5.trans (s6.trans s7)))
    have s27 := s2.trans s37
    have sAll : Same H H7 := s1.trans s27
    have st7 := st.same sAll
    refine ⟨_, rfl, p, 12, rfl, st7, by decide, by decide, fun r o h0 h12 st8 => ?_⟩
    obtain ⟨u0, v0, ep0, _⟩ := id st
    have ep7 := sAll _ _ ep0
    have neL : ∀ {c : Addr} {G G' : Hp}, Same H G → G c = none → c ≠ p := fun s h z => by rw [z, s _ _ ep0] at h; cases h
    have nL3 := neL (s1.trans (s2.trans (s3.trans (s4.trans (s5.trans s6))))) (G' := H) hL3
    have na1 := neL (s1.trans s2) (G' := H) ha1
    have na2 := neL (s1.trans (s2.trans s3)) (G' := H) ha2
    have na3 := neL (s1.trans (s2.trans (s3.trans s4))) (G' := H) ha3
    have lAll : (vs1 ++ [V.ref a2, V.ref a3]).length = 12 := by rw [List.length_append, l1]; rfl
    have hlt : r.toNat < (vs1 ++ [V.ref a2, V.ref a3]).length := by rw [lAll]; omega
    have hix := List.getElem?_eq_getElem hlt
    have hat := atI_nat hix
    rw [Int.toNat_of_nonneg h0] at hat
    have x8 : SameX p H7 (upd H7 p o) := SameX.upd
    refine ⟨L3, _, _, _, rfl, rfl, SqL.of (x8 _ _ e7 nL3), hat, ?_⟩
    have hm : (vs1 ++ [V.ref a2, V.ref a3])[r.toNat] ∈ vs1 ++ [V.ref a2, V.ref a3] := List.getElem_mem hlt
    generalize (vs1 ++ [V.ref a2, V.ref a3])[r.toNat] = v at hm
    have good : BadBoard K (upd H7 p o) v ∧ NoRef p (upd H7 p o) v := by
      rcases List.mem_append.mp hm with hm | hm
      · obtain ⟨k, hk, ek⟩ := List.getElem_of_mem hm
        obtain ⟨l, hl, at1⟩ := pr_at pr1 (List.getElem?_eq_getElem hk)
        rw [ek] at at1
        have hb := List.all_eq_true.mp noB_bad l (List.mem_of_getElem? hl)
        unfold badLit at hb
        rw [Bool.and_eq_true] at hb
        have n : ∀ a : Addr, v = .ref a → a ≠ p := fun a e z => by
          have := n1 a (by rw [← e]; exact hm)
          rw [z, ep0] at this
          cases this
        have at8 := lit_keep (at1.same s27) n x8
        refine ⟨⟨lit_pl hb.1 at8, ?_⟩, lit_noRef hb.1 at8 n⟩
        rw [lit_tup hb.1 at8]
        simpa using hb.2
      · simp only [List.mem_cons, List.not_mem_nil, or_false] at hm
        rcases hm with rfl | rfl
        · have g2 := x8 _ _ ((s5.trans (s6.trans s7)) _ _ e4) na2
          have g1 := x8 _ _ ((s4.trans (s5.trans (s6.trans s7))) _ _ e3) na1
          refine ⟨⟨⟨⟨_, .tup g2⟩, fun xs e y hy => ?_⟩, by rw [tupOf_ref g2]; rfl⟩, fun z => na2 (by cases z; rfl), fun xs e y hy z => ?_⟩
          · rw [tupOf_ref g2] at e
            cases e
            simp only [List.mem_cons, List.not_mem_nil, or_false] at hy
            rcases hy with rfl | rfl
            · exact ⟨_, .tup g1⟩
            · exact ⟨_, .int 2⟩
          · rw [tupOf_ref g2] at e
            cases e
            simp only [List.mem_cons, List.not_mem_nil, or_false] at hy
            rcases hy with rfl | rfl
            · exact na1 (by cases z; rfl)
            · cases z
        · have g3 := x8 _ _ ((s6.trans s7) _ _ e5) na3
          refine ⟨⟨⟨⟨_, .tup g3⟩, fun xs e y hy => ?_⟩, by rw [tupOf_ref g3]; rfl⟩, fun z => na3 (by cases z; rfl), fun xs e y hy z => ?_⟩
          · rw [tupOf_ref g3] at e
            cases e
            simp only [List.mem_cons, List.not_mem_nil, or_false] at hy
            rcases hy with rfl | rfl
            · exact ⟨_, .int 2⟩
            · exact ⟨_, .non⟩
          · rw [tupOf_ref g3] at e
            cases e
            simp only [List.mem_cons, List.not_mem_nil, or_false] at hy
            rcases hy with rfl | rfl <;> cases z
    exact q v _ (fun c u hc hn => x8 _ _ (sAll _ _ hc) hn) st8 good.1 good.2
end
end U
-- part K11d
set_option Elab.async false
set_option linter.all false
set_option maxRecDepth 100000
set_option maxHeartbeats 40000000
namespace U
open PySem L2 PyProof.Rows
def rCatA (K : PySem.W.Frag) : R2 := fun x y H Q => (∃ a b ys, x = .ref a ∧ y = .ref b ∧ SqT K H a [] ∧ SqT K H b ys ∧ Q (.ref b) H) ∨ rCatT K x y H Q
theorem op_catA {X : Cx} : OpR X (binaryOp .Add) (rCatA X.K) := op_catT0.or op_catT
theorem catA {K : PySem.W.Frag} {H : Hp} {a b : Addr} {xs ys : List V} {Q : VK} (ha : H a = some (.tup xs)) (hb : H b = some (.tup ys)) (hl : xs.length + ys.length ≤ sizeLine) (q : ∀ (c : Addr) H', Same H H' → H' c = some (.tup (xs ++ ys)) → Q (.ref c) H') : rCatA K (.ref a) (.ref b) H Q := by
  by_cases hx : xs = []
  · subst hx
    exact .inl ⟨a, b, ys, rfl, rfl, SqT.of ha, SqT.of hb, q b H (Same.refl _) hb⟩
  · refine .inr ⟨a, b, xs, ys, rfl, rfl, SqT.of ha, SqT.of hb, hx, hl, fun hy => ?_, fun _ c hc => q c _ (same_upd hc) upd_same⟩
    subst hy
    exact q a H (Same.refl _) (by rw [List.append_nil]; exact ha)
theorem cut_from {xs : List V} {k : Nat} (h : k ≤ xs.length) : cutV xs (some (k : Int)) none = xs.drop k := by
  unfold cutV
  have e1 : HT.sIx xs.length 0 (some (k : Int)) = k := by rw [HT.sIx_nat]; omega
  rw [e1, HT.sIx_none, List.take_of_length_le (by rw [List.length_drop]; exact Nat.le_refl _)]
theorem cut_to {xs : List V} {k : Nat} (h : k ≤ xs.length) : cutV xs none (some (k : Int)) = xs.take k := by
  unfold cutV
  have e1 : HT.sIx xs.length xs.length (some (k : Int)) = k := by rw [HT.sIx_nat]; omega
  rw [e1, HT.sIx_none, List.drop_zero, Nat.sub_zero]
theorem wi_true {b a c : Int} (h0 : a ≤ b) (h1 : b ≤ c) : wholeIn (.int b) a c = true := by
  show (decide (a ≤ b) && decide (b ≤ c)) = true
  rw [decide_eq_true h0, decide_eq_true h1]; rfl
/-- a lay at y, over the board at x -/
structure LayAt (K : PySem.W.Frag) (H : Hp) (x : V) (l : Addr) (xs : List V) (wd hg : Int) : Prop where
  bd : BoardAt H x wd hg
  at_ : H l = some (.tup xs)
  ly : isLayV wd hg (some xs) = true
theorem LayAt.same {K : PySem.W.Frag} {H H' : Hp} {x : V} {l : Addr} {xs : List V} {wd hg : Int} (a : LayAt K H x l xs wd hg) (s : Same H H') : LayAt K H' x l xs wd hg := ⟨a.bd.same s, s _ _ a.at_, a.ly⟩
theorem lay_len {xs : List V} {wd hg : Int} (h : isLayV wd hg (some xs) = true) : (xs.length : Int) = wd := by
  unfold isLayV at h
  rw [Bool.and_eq_true, Bool.and_eq_true] at h
  exact of_decide_eq_true h.1.1
theorem lay_item {xs : List V} {wd hg : Int} {v : V} (h : isLayV wd hg (some xs) = true) (hv : v ∈ xs) : v = .non ∨ ∃ i : Int, v = .int i ∧ 0 ≤ i ∧ i < hg := by
  unfold isLayV at h
  rw [Bool.and_eq_true, Bool.and_eq_true] at h
  by_cases e : v = .non
  · exact .inl e
  · have := List.all_eq_true.mp h.1.2 v (List.mem_filter.mpr ⟨hv, by simp [e]⟩)
    cases v with
    | int i =>
      have z : (decide (0 ≤ i) && decide (i ≤ hg - 1)) = true := this
      rw [Bool.and_eq_true] at z
      have z1 := of_decide_eq_true z.1
      have z2 := of_decide_eq_true z.2
      exact .inr ⟨i, rfl, z1, by omega⟩
    | _ => cases this
theorem LayAt.pl {K : PySem.W.Frag} {H : Hp} {x : V} {l : Addr} {xs : List V} {wd hg : Int} (a : LayAt K H x l xs wd hg) : Pl1 K H (.ref l) := by
  refine ⟨⟨_, .tup a.at_⟩, fun ys e y hy => ?_⟩
  rw [tupOf_ref a.at_] at e
  cases e
  rcases lay_item a.ly hy with rfl | ⟨i, rfl, _⟩
  · exact ⟨_, .non⟩
  · exact ⟨_, .int i⟩
end U
-- part K11u
set_option Elab.async false
set_option linter.all false
set_option maxRecDepth 100000
set_option maxHeartbeats 40000000
namespace U
open PySem L2 PyProof.Rows
theorem upTo_ints (n : Nat) : L2.upTo n = (frTo 0 n).map V.int := by
  unfold L2.upTo frTo
  rw [List.map_map]
  refine List.map_congr_left fun k _ => ?_
  show V.int (k : Int) = V.int (0 + (k : Int))
  rw [Int.zero_add]
theorem frTo_mem {n : Nat} {i : Int} : i ∈ frTo 0 n ↔ 0 ≤ i ∧ i < n := by
  unfold frTo
  rw [List.mem_map]
  constructor
  · rintro ⟨k, hk, rfl⟩
    have := List.mem_range.mp hk
    omega
  · rintro ⟨h1, h2⟩
    exact ⟨i.toNat, List.mem_range.mpr (by omega), by omega⟩
theorem frTo_len (n : Nat) : (frTo 0 n).length = n := by unfold frTo; rw [List.length_map, List.length_range]
theorem frTo_nodup (n : Nat) : (frTo 0 n).Nodup := by
  unfold frTo
  refine List.Pairwise.map _ (fun a b h => ?_) List.nodup_range
  omega
theorem erase_perm : ∀ {ls : List Int} {k : Nat} (h : k < ls.length), (ls[k] :: ls.eraseIdx k).Perm ls
  | _ :: _, 0, _ => .refl _
  | a :: ls, k + 1, h => ((List.Perm.swap _ _ _).trans (List.Perm.cons a (erase_perm (ls := ls) (k := k) (by simpa using h))))
theorem tSeq_cut {t u : TS} {D : Ends} {σ : L2.St} {H : Hp} (R : L2.St → Hp → Prop) (h2 : ∀ σ' H', R σ' H' → u D σ' H') (h1 : ∀ D' : Ends, (∀ σ' H', R σ' H' → D'.nx σ' H') → t D' σ H) : tSeq t u D σ H := h1 _ h2
theorem sameX_free {p L : Addr} {H H1 : Hp} {o : HO} (x : SameX p H H1) (hp : H1 p = some o) (hL : H1 L = none) : H L = none ∧ L ≠ p := by
  have n : L ≠ p := fun e => by rw [e, hp] at hL; cases hL
  refine ⟨?_, n⟩
  cases h : H L with
  | none => rfl
  | some u => rw [x _ _ h n] at hL; cases hL
theorem sameX_updN {p L : Addr} {H H1 : Hp} {o : HO} (x : SameX p H H1) (n : H L = none) : SameX p H (upd H1 L o) := fun b u h nb => by
  rw [upd_ne (ne_of_none h n)]
  exact x b u h nb
theorem st_updN {p L : Addr} {H : Hp} {o : HO} (s : StAt H p) (n : L ≠ p) : StAt (upd H L o) p := by
  obtain ⟨u, v, e, r⟩ := s
  exact ⟨u, v, by rw [upd_ne n.symm]; exact e, r⟩
theorem ixN_of {n : Nat} {k : Int} (h0 : 0 ≤ k) (h1 : k < n) : ixN n k = some k.toNat := by
  unfold ixN
  rw [if_pos h0, if_pos h1]
theorem erase_map {α β : Type} (f : α → β) : ∀ (xs : List α) (k : Nat), (xs.map f).eraseIdx k = (xs.eraseIdx k).map f
  | [], _ => rfl
  | _ :: _, 0 => rfl
  | a :: xs, k + 1 => by
    show f a :: (xs.map f).eraseIdx k = f a :: (xs.eraseIdx k).map f
    rw [erase_map f xs k]
theorem te_cut {t : TE} {σ : L2.St} {H : Hp} {Q : VK} (R : V → Hp → Prop) (h2 : ∀ v H', R v H' → Q v H') (h1 : ∀ Q' : VK, (∀ v H', R v H' → Q' v H') → t σ H Q') : t σ H Q := h1 Q h2
theorem tCons_i {te : TE} {t : TA} {σ : L2.St} {H : Hp} {Q : List V → Hp → Prop} (h : te σ H fun v H1 => t σ H1 fun vs H2 => Q (v :: vs) H2) : tCons te t σ H Q := h
theorem cut_mem {xs : List V} {lo hi : Option Int} {y : V} (h : y ∈ cutV xs lo hi) : y ∈ xs := List.mem_of_mem_drop (List.mem_of_mem_take h)
theorem wi_no {i b : Int} (h : i < 0 ∨ b < i) : wholeIn (.int i) 0 b = false := by
  show (decide (0 ≤ i) && decide (i ≤ b)) = false
  rcases h with h | h
  · rw [decide_eq_false (by omega), Bool.false_and]
  · rw [decide_eq_false (show ¬ i ≤ b by omega), Bool.and_false]
end U
-- part K11i
set_option Elab.async false
set_option linter.all false
set_option maxRecDepth 100000
set_option maxHeartbeats 40000000
namespace U
open PySem L2 PyProof.Rows
theorem rows_non {fs : List V} : rowsOf (fs ++ [.non]) = rowsOf fs := by
  unfold rowsOf
  rw [List.filter_append]
  simp
theorem rows_int {fs : List V} {i : Int} : rowsOf (fs ++ [.int i]) = rowsOf fs ++ [.int i] := by
  unfold rowsOf
  rw [List.filter_append]
  simp
theorem lay_of_rows {fs : List V} {is ls : List Int} {wd hg : Int} (hg1 : 1 ≤ hg) (h1 : rowsOf fs = is.map V.int) (h2 : (is ++ ls).Perm (frTo 0 hg.toNat)) (h3 : (fs.length : Int) = wd) : isLayV wd hg (some fs) = true := by
  unfold isLayV
  dsimp only
  rw [h1, decide_eq_true h3]
  have a1 : ((is.map V.int).all fun r => wholeIn r 0 (hg - 1)) = true := by
    rw [List.all_eq_true]
    intro x hx
    obtain ⟨i, hi, rfl⟩ := List.mem_map.mp hx
    have := frTo_mem.mp (h2.mem_iff.mp (List.mem_append_left _ hi))
    exact wi_true this.1 (by omega)
  have a2 : (is.map V.int).Nodup := (nodup_int is).mpr (List.nodup_append.mp ((List.Perm.nodup_iff h2).mpr (frTo_nodup _))).1
  rw [a1, decide_eq_true a2]
  rfl
section
variable {P : Program} {w : World} {K : PySem.W.Frag} {mg : Str → Option Value} {base : Heap}
abbrev sLL : Stmt := top 41
def spLL (K : PySem.W.Frag) : Sp := fun vs H Q _ => ∃ (p b : Addr) (wd hg : Int), vs = [.ref p, .ref b] ∧ StAt H p ∧ BoardAt H (.ref b) wd hg ∧ ∀ (l : Addr) H' (xs : List V), SameX p H H' → StAt H' p → H' l = some (.tup xs) → isLayV wd hg (some xs) = true → Q (.ref l) H'
theorem scLL : FnScope ["_law_state_here", "_law_board", "_law_left", "_law_found", "_law_line", "_law_row"] ["_law_state_here", "_law_board"] (defScope sLL) := ⟨rfl, rfl, rfl, by decide +kernel, rfl, by decide +kernel, by decide +kernel⟩
theorem ok_ll {f : Addr} {fd : FuncData} (F : Fun K "_law_lay" "_law_lay" sLL f fd) (G : Gs mg) (D1 : Def P w K mg base 1 "_law_take" ["_law_state_here", "_law_many"] spTake) : FnOk P w K mg base CX0 2 f fd ["_law_state_here", "_law_board"] (spLL K) := by
  refine F.ok scLL (fun vs H Q E h => ?_) (fun cdv A outer s H vs Q E hr h => ?_)
  · obtain ⟨p, b, wd, hg, rfl, _⟩ := h
    rfl
  · obtain ⟨p, b, wd, hg, rfl, st, bd, q⟩ := h
    obtain ⟨_, w1, w2, g1, g2⟩ := id bd
    obtain ⟨a', eb, hb⟩ := tupOf_some bd.1
    cases eb
    refine ⟨_, pss_cons (ps_par (i := 2) (j := 3) rfl scLL.nd rfl rfl (by decide) rfl rfl (pa_cons (pe_callTy call_list_rng rfl G.list boot_list (pa_cons (pe_callTy call_rangeV rfl G.range boot_range (pa_cons (pe_ix ix_tup (pv 1) pe_int (fun _ _ => rfl)) pa_nil)) pa_nil)) (pa_cons (pe_tup pa_nil) pa_nil)) rfl)
      (pss_cons (ps_for PassesOwn.never rfl (pi_range1 rfl G.range (pa_cons (pe_ix ix_tup (pv 1) pe_int (fun _ _ => rfl)) pa_nil)) (pg_name (i := 4) scLL.nd rfl (Or.inl rfl))
        (pss_cons (ps_set (i := 5) scLL.nd rfl (Or.inl rfl) pe_non)
        (pss_cons (ps_if (PW.pt (pw_and (pt_cmpR (op_neE hr.units0) (pv 2) (pe_lst pa_nil) (nomark _)) (pw_and1 (pt_cmpR op_gt (pe_callD D1 hr (pa_cons (pv 0) (pa_cons pe_int pa_nil))) pe_int (nomark _)))))
          (pss_one (ps_set (i := 5) scLL.nd rfl (Or.inl rfl) (pe_bm PySem.F.plainAttrs_list PySem.F.slot_list_pop PySem.F.type_list_pop mt_popAt (pv 2) (pa_cons (pe_callD D1 hr (pa_cons (pv 0) (pa_cons (pe_callB call_len_seq rfl G.len boot_len (pa_cons (pv 2) pa_nil)) pa_nil))) pa_nil)))) pss_nil)
        (pss_one (ps_set (i := 3) scLL.nd rfl (Or.inl rfl) (pe_op op_catA (pv 3) (pe_tup (pa_cons (pv 5) pa_nil))))))))
      (pss_one (ps_ret (pv 3)))), ?_⟩
    obtain ⟨u0, v0, ep0, _⟩ := id st
    have nbp : b ≠ p := ne_of hb ep0 (by intro z; cases z)
    refine tSeq_i ⟨_, rfl, b, _, _, _, rfl, rfl, SqT.of hb, at1, hg, rfl, fun rg hrg => ⟨rg, hg, rfl, upd_same, by omega, by omega, fun L hL => ⟨Nat.zero_le _, fun f0 hf0 => ⟨_, _, rfl, ?_⟩⟩⟩⟩
    dsimp only [List.set]
    have sA := same_upd (o := .rng 0 hg) hrg
    have sB := same_upd (o := .lst (L2.upTo hg.toNat)) hL
    have sC := same_upd (o := .tup []) hf0
    have eL := sC _ _ (upd_same (H := upd H rg (.rng 0 hg)) (a := L) (o := .lst (L2.upTo hg.toNat)))
    have eF : upd (upd (upd H rg (.rng 0 hg)) L (.lst (L2.upTo hg.toNat))) f0 (.tup []) f0 = some (.tup []) := upd_same
    have sAll := sA.trans (sB.trans sC)
    have hLf : H L = none ∧ L ≠ p := sameX_free (p := p) sA.x (sA _ _ ep0) hL
    generalize upd (upd (upd H rg (.rng 0 hg)) L (.lst (L2.upTo hg.toNat))) f0 (.tup []) = H1 at sAll eL eF
    obtain ⟨hLn, hLp⟩ := hLf
    rw [upTo_ints] at eL
    have hb1 := sAll _ _ hb
    refine tSeq_i ⟨_, rfl, b, _, _, _, rfl, rfl, SqT.of hb1, at0, wd, rfl, by omega, by omega, ?_⟩
    refine for_range (n := wd.toNat) (fun i σ H2 => ∃ (fa : Addr) (fs : List V) (is ls : List Int) (x4 x5 : Option V), σ = [some (.ref p), some (.ref b), some (.ref L), some (.ref fa), x4, x5] ∧ SameX p H H2 ∧ StAt H2 p ∧ H2 L = some (.lst (ls.map V.int)) ∧ H2 fa = some (.tup fs) ∧ fs.length = i ∧ rowsOf fs = is.map V.int ∧ (is ++ ls).Perm (frTo 0 hg.toNat))
      ⟨f0, [], [], frTo 0 hg.toNat, none, none, rfl, sAll.x, st.same sAll, eL, eF, rfl, rfl, .refl _⟩ ?_ ?_
    · rintro i σ H2 hi ⟨fa, fs, is, ls, x4, x5, rfl, x2, st2, eL2, eF2, fl, rw2, pm⟩
      have hlen := pm.length_eq
      rw [List.length_append, frTo_len] at hlen
      obtain ⟨u2, v2, ep2, _⟩ := id st2
      have nfp : fa ≠ p := ne_of eF2 ep2 (by intro z; cases z)
      have nfL : fa ≠ L := ne_of eF2 eL2 (by intro z; cases z)
      refine gName_i (tSeq_i (tAsg_i (gName_i ?_)))
      dsimp only [List.set]
      refine tSeq_cut (fun σ H3 => ∃ (row : V) (is' ls' : List Int), σ = [some (.ref p), some (.ref b), some (.ref L), some (.ref fa), some (.int (0 + (i : Int))), some row] ∧ SameX p H H3 ∧ StAt H3 p ∧ H3 L = some (.lst (ls'.map V.int)) ∧ H3 fa = some (.tup fs) ∧ rowsOf (fs ++ [row]) = is'.map V.int ∧ (is' ++ ls').Perm (frTo 0 hg.toNat)) ?_ ?_
      · rintro σ H3 ⟨row, is', ls', rfl, x3, st3, eL3, eF3, rw3, pm3⟩
        refine tAsg_i ⟨_, rfl, _, rfl, (by show 1 ≤ sizeLine; decide), fun t ht => ?_⟩
        have s4 := same_upd (o := .tup [row]) ht
        refine catA (s4 _ _ eF3) upd_same (by rw [sizeLine_eq]; show fs.length + 1 ≤ _; omega) fun c H5 s5 e5 => gName_i ?_
        have s45 := s4.trans s5
        exact ⟨c, fs ++ [row], is', ls', _, _, rfl, x3.trans s45.x, st3.same s45, s45 _ _ eL3, e5, by rw [List.length_append, fl]; rfl, rw3, pm3⟩
      · intro D' hD
        refine ⟨_, rfl, Nat.zero_le _, fun e he => ⟨L, e, ls.map V.int, rfl, rfl, SqL.of (same_upd he _ _ eL2), SqL.of upd_same, _, rfl, ?_⟩⟩
        have se := same_upd (o := .lst []) he
        have st3 := st2.same se
        have x3 := x2.trans se.x
        have eL3 := se _ _ eL2
        have eF3 := se _ _ eF2
        generalize upd H2 e (.lst []) = H3 at se st3 x3 eL3 eF3
        have none_ : ∀ {H4 : Hp}, SameX p H H4 → StAt H4 p → H4 L = some (.lst (ls.map V.int)) → H4 fa = some (.tup fs) → D'.nx [some (.ref p), some (.ref b), some (.ref L), some (.ref fa), some (.int (0 + (i : Int))), some .non] H4 := fun x s e1 e2 => hD _ _ ⟨.non, is, ls, rfl, x, s, e1, e2, by rw [rows_non]; exact rw2, pm⟩
        cases ls with
        | nil => exact iteF (iteF (tNext_i (none_ x3 st3 eL3 eF3)))
        | cons l0 lr =>
          refine iteT ⟨_, rfl, p, 4, rfl, st3, by decide, by decide, fun r o r0 r4 st4 => ⟨_, _, rfl, rfl, _, rfl, ?_⟩⟩
          have x4' : SameX p H (upd H3 p o) := x3.trans SameX.upd
          have eL4 : upd H3 p o L = some (.lst ((l0 :: lr).map V.int)) := by rw [upd_ne hLp]; exact eL3
          have eF4 : upd H3 p o fa = some (.tup fs) := by rw [upd_ne nfp]; exact eF3
          generalize upd H3 p o = H4 at st4 x4' eL4 eF4
          by_cases hr0 : (0 : Int) < r
          · rw [decide_eq_true hr0]
            refine iteT (tAsg_i ⟨_, rfl, .inl ⟨rfl, _, SqL.of eL4⟩, _, rfl, _, rfl, L, _, rfl, .inl (SqL.of eL4), p, _, rfl, st4, by rw [List.length_map]; simp, by rw [List.length_map]; omega, fun r' o' r0' r1' st5 => ?_⟩)
            rw [List.length_map] at r1'
            have e5 : upd H4 p o' L = some (.lst ((l0 :: lr).map V.int)) := by rw [upd_ne hLp]; exact eL4
            have hr' : r'.toNat < (l0 :: lr).length := by omega
            refine ⟨L, _, r', r'.toNat, .int ((l0 :: lr)[r'.toNat]), rfl, rfl, e5, by omega, by omega, seqIndex_of r0' (by rw [List.length_map]; exact r1'), by rw [List.getElem?_map, List.getElem?_eq_getElem hr']; rfl, gName_i ?_⟩
            refine hD _ _ ⟨_, is ++ [(l0 :: lr)[r'.toNat]], (l0 :: lr).eraseIdx r'.toNat, rfl, sameX_updN (x4'.trans SameX.upd) hLn, st_updN st5 hLp, ?_, ?_, ?_, ?_⟩
            · rw [upd_same, erase_map]
            · rw [upd_ne nfL, upd_ne nfp]; exact eF4
            · rw [rows_int, rw2, List.map_append]; rfl
            · rw [List.append_assoc]
              exact ((erase_perm hr').append_left is).trans pm
          · rw [decide_eq_false hr0]
            exact iteF (tNext_i (none_ x4' st4 eL4 eF4))
    · rintro σ H2 ⟨fa, fs, is, ls, x4, x5, rfl, x2, st2, eL2, eF2, fl, rw2, pm⟩
      exact ⟨_, rfl, q fa H2 fs x2 st2 eF2 (lay_of_rows g1 rw2 pm (by omega))⟩
end
end U
-- part K11j
set_option Elab.async false
set_option linter.all false
set_option maxRecDepth 100000
set_option maxHeartbeats 40000000
namespace U
open PySem L2 PyProof.Rows
/-- lay[:a] + m + lay[a + 1:] -/
theorem cat3n {K : PySem.W.Frag} {σ : L2.St} {H : Hp} {Q : VK} {l : Addr} {ls : List V} {a : Int} {tm : TE} {i j : Nat} (Pm : List V → Hp → Prop) (pk : ∀ {ms H1 H2}, Same H1 H2 → Pm ms H1 → Pm ms H2) (h1 : σ[i]? = some (some (.ref l))) (h3 : σ[j]? = some (some (.int a))) (hl : H l = some (.tup ls)) (ll : ls.length ≤ 12)
    (hm : ∀ H1 (Q1 : VK), Same H H1 → (∀ (c : Addr) (ms : List V) H2, Same H1 H2 → H2 c = some (.tup ms) → ms.length ≤ 12 → Pm ms H2 → Q1 (.ref c) H2) → tm σ H1 Q1)
    (q : ∀ (c : Addr) (ms : List V) H', Same H H' → H' c = some (.tup ((cutV ls none (some a) ++ ms) ++ cutV ls (some (a + 1)) none)) → ms.length ≤ 12 → Pm ms H' → Q (.ref c) H') :
    tOp (rCatA K) (tOp (rCatA K) (tSl (rSlA K) (tVar i) tNoPart (tPart (tVar j))) tm) (tSl (rSlA K) (tVar i) (tPart (tOp (rI0 fun i j => .int (i + j)) (tVar j) (tC (.int 1)))) tNoPart) σ H Q := by
  refine ⟨_, h1, _, h3, _, rfl, l, _, rfl, hl, fun c1 H1 s1 e1 => ?_⟩
  refine hm H1 _ s1 fun c2 ms H2 s2 e2 hml pm => ?_
  have l1 := cutV_length ls none (some a)
  have l3 := cutV_length ls (some (a + 1)) none
  refine catA (s2 _ _ e1) e2 (by rw [sizeLine_eq]; omega) fun c3 H3 s3 e3 => ?_
  refine ⟨_, h1, _, h3, _, _, rfl, rfl, _, rfl, l, _, rfl, (s1.trans (s2.trans s3)) _ _ hl, fun c4 H4 s4 e4 => ?_⟩
  refine catA (s4 _ _ e3) e4 (by rw [sizeLine_eq, List.length_append]; omega) fun c5 H5 s5 e5 => ?_
  exact q c5 ms H5 (s1.trans (s2.trans (s3.trans (s4.trans s5)))) e5 hml (pk (s3.trans (s4.trans s5)) pm)
def GoodL (K : PySem.W.Frag) (p : Addr) (wd hg : Int) (H : Hp) (v : V) : Prop := (Pl1 K H v ∧ isLayV wd hg (tupOf H v) = false) ∧ NoRef p H v
theorem goodL_x {K : PySem.W.Frag} {p : Addr} {wd hg : Int} {H H' : Hp} {v : V} (g : GoodL K p wd hg H v) (s : SameX p H H') : GoodL K p wd hg H' v :=
  ⟨⟨pl1_x g.1.1 s g.2, by rw [tupOf_x g.1.1.1 s g.2.1]; exact g.1.2⟩, noRef_x g.1.1.1 s g.2.1 g.2⟩
theorem goodL_same {K : PySem.W.Frag} {p : Addr} {wd hg : Int} {H H' : Hp} {v : V} (g : GoodL K p wd hg H v) (s : Same H H') : GoodL K p wd hg H' v := goodL_x g s.x
theorem goodL_tup {K : PySem.W.Frag} {p a : Addr} {wd hg : Int} {H : Hp} {xs : List V} (h : H a = some (.tup xs)) (st : StAt H p) (hx : ∀ y ∈ xs, PlT K H y ∧ y ≠ .ref p) (nf : isLayV wd hg (some xs) = false) : GoodL K p wd hg H (.ref a) := by
  obtain ⟨u, v, e, _⟩ := st
  have nap : a ≠ p := ne_of h e (by intro z; cases z)
  refine ⟨⟨⟨⟨_, .tup h⟩, fun ys e y hy => ?_⟩, ?_⟩, fun z => nap (by cases z; rfl), fun ys e y hy => ?_⟩
  · rw [tupOf_ref h] at e
    cases e
    exact (hx y hy).1
  · rw [tupOf_ref h]
    exact nf
  · rw [tupOf_ref h] at e
    cases e
    exact (hx y hy).2
theorem goodL_none {K : PySem.W.Frag} {p : Addr} {wd hg : Int} {H : Hp} {v : V} (h : tupOf H v = none) (t : PlT K H v) (hn : v ≠ .ref p) : GoodL K p wd hg H v := by
  refine ⟨⟨⟨t, fun ys e y hy => ?_⟩, ?_⟩, hn, fun ys e y hy => ?_⟩
  · rw [h] at e; cases e
  · rw [h]; rfl
  · rw [h] at e; cases e
theorem nl_len {wd hg : Int} {xs : List V} (h : (xs.length : Int) ≠ wd) : isLayV wd hg (some xs) = false := by
  unfold isLayV
  dsimp only
  rw [decide_eq_false h, Bool.false_and, Bool.false_and]
theorem nl_item {wd hg : Int} {xs : List V} {y : V} (hy : y ∈ xs) (e : y ≠ .non) (h : wholeIn y 0 (hg - 1) = false) : isLayV wd hg (some xs) = false := by
  unfold isLayV
  dsimp only
  have : ((rowsOf xs).all fun r => wholeIn r 0 (hg - 1)) = false := by
    cases hh : (rowsOf xs).all fun r => wholeIn r 0 (hg - 1) with
    | false => rfl
    | true =>
      have := List.all_eq_true.mp hh y (List.mem_filter.mpr ⟨hy, by simp [e]⟩)
      rw [h] at this
      cases this
  rw [this, Bool.and_false, Bool.false_and]
theorem nl_twice {wd hg : Int} {x : V} {r : List V} (e : x ≠ .non) : isLayV wd hg (some (x :: x :: r)) = false := by
  unfold isLayV
  dsimp only
  have : ¬ (rowsOf (x :: x :: r)).Nodup := fun h => by
    unfold rowsOf at h
    rw [List.filter_cons_of_pos (by simp [e]), List.filter_cons_of_pos (by simp [e])] at h
    exact (List.nodup_cons.mp h).1 List.mem_cons_self
  rw [decide_eq_false this, Bool.and_false]
theorem tupOf_lst {H : Hp} {Z : Addr} {as bs : List V} (h : H Z = some (.lst as)) (v : V) : tupOf (upd H Z (.lst bs)) v = tupOf H v := by
  cases v with
  | ref c =>
    rw [tupOf_r, tupOf_r]
    by_cases e : c = Z
    · rw [e, upd_same, h]; rfl
    · rw [upd_ne e]
  | _ => rfl
theorem plT_lst {K : PySem.W.Frag} {H : Hp} {Z : Addr} {as bs : List V} {v : V} (h : H Z = some (.lst as)) (t : PlT K H v) : PlT K (upd H Z (.lst bs)) v := by
  obtain ⟨T, t⟩ := t
  have ne : ∀ {a : Addr} {o : HO}, H a = some o → (∀ xs, o ≠ .lst xs) → upd H Z (.lst bs) a = some o := fun {a o} e n => by
    rw [upd_ne (fun z => by rw [z, h] at e; cases e; exact n _ rfl)]
    exact e
  cases t with
  | tup e => exact ⟨_, .tup (ne e (by intro xs z; cases z))⟩
  | lst e =>
    rename_i a xs
    by_cases z : a = Z
    · rw [z]; exact ⟨_, .lst upd_same⟩
    · exact ⟨_, .lst (by rw [upd_ne z]; exact e)⟩
  | frz e => exact ⟨_, .frz (ne e (by intro xs z; cases z))⟩
  | dK e => exact ⟨_, .dK (ne e (by intro xs z; cases z))⟩
  | dT e => exact ⟨_, .dT (ne e (by intro xs z; cases z))⟩
  | non => exact ⟨_, .non⟩
  | bl b => exact ⟨_, .bl b⟩
  | int i => exact ⟨_, .int i⟩
  | str x => exact ⟨_, .str x⟩
  | flt x => exact ⟨_, .flt x⟩
theorem goodL_lst {K : PySem.W.Frag} {p : Addr} {wd hg : Int} {H : Hp} {Z : Addr} {as bs : List V} {v : V} (h : H Z = some (.lst as)) (g : GoodL K p wd hg H v) : GoodL K p wd hg (upd H Z (.lst bs)) v := by
  refine ⟨⟨⟨plT_lst h g.1.1.1, fun xs e y hy => plT_lst h (g.1.1.2 xs (by rw [← tupOf_lst (bs := bs) h v]; exact e) y hy)⟩, by rw [tupOf_lst h v]; exact g.1.2⟩, g.2.1, fun xs e y hy => g.2.2 xs (by rw [← tupOf_lst (bs := bs) h v]; exact e) y hy⟩
theorem item_of_lay {K : PySem.W.Frag} {p : Addr} {H : Hp} {xs : List V} {wd hg : Int} {y : V} (l : isLayV wd hg (some xs) = true) (h : y ∈ xs) : PlT K H y ∧ y ≠ .ref p := by
  rcases lay_item l h with rfl | ⟨i, rfl, _⟩
  · exact ⟨⟨_, .non⟩, by intro z; cases z⟩
  · exact ⟨⟨_, .int i⟩, by intro z; cases z⟩
section
variable {P : Program} {w : World} {K : PySem.W.Frag} {mg : Str → Option Value} {base : Heap}
abbrev sNL : Stmt := top 43
def spNL (K : PySem.W.Frag) : Sp := fun vs H Q _ => ∃ (p b l : Addr) (xs : List V) (wd hg : Int), vs = [.ref p, .ref b, .ref l] ∧ StAt H p ∧ LayAt K H (.ref b) l xs wd hg ∧ ∀ v H', SameX p H H' → StAt H' p → GoodL K p wd hg H' v → Q v H'
theorem scNL : FnScope ["_law_state_here", "_law_board", "_law_lay_here", "_law_way", "_law_at", "_law_odd", "_law_bent", "_law_some"] ["_law_state_here", "_law_board", "_law_lay_here"] (defScope sNL) := ⟨rfl, rfl, rfl, by decide +kernel, rfl, by decide +kernel, by decide +kernel⟩
theorem ok_nl {f : Addr} {fd : FuncData} (F : Fun K "_law_no_lay" "_law_no_lay" sNL f fd) (G : Gs mg) (D1 : Def P w K mg base 1 "_law_take" ["_law_state_here", "_law_many"] spTake) : FnOk P w K mg base CX0 2 f fd ["_law_state_here", "_law_board", "_law_lay_here"] (spNL K) := by
  refine F.ok scNL (fun vs H Q E h => ?_) (fun cdv A outer s H vs Q E hr h => ?_)
  · obtain ⟨p, b, l, xs, wd, hg, rfl, _⟩ := h
    rfl
  · obtain ⟨p, b, l, xs, wd, hg, rfl, st, la, q⟩ := h
    refine ⟨_, pss_cons (ps_par (i := 3) (j := 4) rfl scNL.nd rfl rfl (by decide) rfl rfl (pa_cons (pe_callD D1 hr (pa_cons (pv 0) (pa_cons pe_int pa_nil))) (pa_cons (pe_callD D1 hr (pa_cons (pv 0) (pa_cons (pe_ix ix_tup (pv 1) pe_int (fun _ _ => rfl)) pa_nil))) pa_nil)) rfl)
      (pss_cons (ps_set (i := 5) scNL.nd rfl (Or.inl rfl) (pe_ix ix_list (pe_lst (pa_cons (pe_ix ix_tup (pv 1) pe_int (fun _ _ => rfl)) (pa_cons (pe_un un_neg pe_int) (pa_cons pe_bl (pa_cons pe_str (pa_cons (pe_tup (pa_cons pe_int pa_nil)) (pa_cons (pe_op op_pow pe_int pe_int) (pa_cons (pe_lst (pa_cons pe_int pa_nil)) pa_nil)))))))) (pe_callD D1 hr (pa_cons (pv 0) (pa_cons pe_int pa_nil))) (fun _ _ => rfl)))
      (pss_cons (ps_set (i := 6) scNL.nd rfl (Or.inl rfl) (pe_op op_catA (pe_op op_catA (pe_slice sl_tupA (pv 2) po_none (po_some (pv 4))) (pe_tup (pa_cons (pv 5) pa_nil))) (pe_slice sl_tupA (pv 2) (po_some (pe_op op_add (pv 4) pe_int)) po_none)))
      (pss_cons (ps_set (i := 7) scNL.nd rfl (Or.inl rfl) (pe_lst (pa_cons (pv 6) (pa_cons (pv 6) (pa_cons (pv 6) (pa_cons (pe_op op_catA (pv 2) (pe_tup (pa_cons pe_non pa_nil))) (pa_cons (pe_slice sl_tupA (pv 2) (po_some pe_int) po_none) (pa_cons (pe_callTy call_list_of rfl G.list boot_list (pa_cons (pv 2) pa_nil)) (pa_cons pe_non (pa_cons pe_dnewK (pa_cons pe_str (pa_cons pe_int pa_nil))))))))))))
      (pss_cons (ps_expr (pe_bm PySem.F.plainAttrs_list PySem.F.slot_list_append PySem.F.type_list_append mt_append (pv 7) (pa_cons (pe_ifExp (pt_cmpR op_gt (pe_ix ix_tup (pv 1) pe_int (fun _ _ => rfl)) pe_int (nomark _)) (pe_op op_repT (pe_tup (pa_cons pe_int pa_nil)) (pe_ix ix_tup (pv 1) pe_int (fun _ _ => rfl))) (pe_tup (pa_cons (pv 2) pa_nil))) pa_nil)))
      (pss_one (ps_ret (pe_ix ix_list (pv 7) (pv 3) (fun _ _ => rfl)))))))), ?_⟩
    obtain ⟨u0, v0, ep0, _⟩ := id st
    obtain ⟨_, w1, w2, g1, g2⟩ := id la.bd
    have nlp : l ≠ p := ne_of la.at_ ep0 (by intro z; cases z)
    obtain ⟨b', eb, hb⟩ := tupOf_some la.bd.1
    cases eb
    have nbp : b ≠ p := ne_of hb ep0 (by intro z; cases z)
    have ll := lay_len la.ly
    have hl := la.at_
    refine tSeq_i ⟨_, rfl, p, 11, rfl, st, by decide, by decide, fun way o1 w0 w11 st1 => ?_⟩
    have x1 : SameX p H (upd H p o1) := SameX.upd
    have hl1 := x1 _ _ hl nlp
    have hb1 := x1 _ _ hb nbp
    generalize upd H p o1 = H1 at hl1 hb1 x1 st1
    refine ⟨_, rfl, _, rfl, b, _, _, _, rfl, rfl, SqT.of hb1, at0, p, wd, rfl, st1, by omega, by omega, fun a o2 a0 a1 st2 => ⟨_, _, rfl, ?_⟩⟩
    have x2 : SameX p H (upd H1 p o2) := x1.trans SameX.upd
    have hl2 := x2 _ _ hl nlp
    have hb2 := x2 _ _ hb nbp
    generalize upd H1 p o2 = H2 at hl2 hb2 x2 st2
    dsimp only [List.set]
    refine tSeq_i (tAsg_i ⟨_, rfl, b, _, _, _, rfl, rfl, SqT.of hb2, at1, _, rfl, (by show 1 ≤ sizeLine; decide), fun t ht => ?_⟩)
    have s3 := same_upd (o := .tup [V.int 0]) ht
    have e3 : upd H2 t (.tup [V.int 0]) t = some (.tup [V.int 0]) := upd_same
    generalize upd H2 t (HO.tup [V.int 0]) = H3 at s3 e3
    refine ⟨_, _, rfl, rfl, ⟨by decide, by decide, by decide⟩, (by show 1 ≤ sizeLine; decide), fun m hm => ?_⟩
    have s3' := same_upd (o := .lst [V.int 0]) hm
    have e3' : upd H3 m (.lst [V.int 0]) m = some (.lst [V.int 0]) := upd_same
    generalize upd H3 m (HO.lst [V.int 0]) = H3' at s3' e3'
    refine ⟨(by show 7 ≤ sizeLine; decide), fun L hL => ?_⟩
    generalize hS : [V.int hg, V.int (-1), V.bl true, V.str "0", V.ref t, V.int (10 ^ (39 : Int).toNat), V.ref m] = S
    have lS : S.length = 7 := by rw [← hS]; rfl
    have s4 := same_upd (o := .lst S) hL
    have e4 : upd H3' L (.lst S) L = some (.lst S) := upd_same
    generalize upd H3' L (HO.lst S) = H4 at s4 e4
    have s24 := s3.trans (s3'.trans s4)
    have st4 := st2.same s24
    refine ⟨_, rfl, p, 7, rfl, st4, by decide, by decide, fun r o5 r0 r1 st5 => ?_⟩
    obtain ⟨u4, v4, ep4, _⟩ := id st4
    have nLp : L ≠ p := ne_of e4 ep4 (by intro z; cases z; cases lS)
    have ntp : t ≠ p := ne_of ((s3'.trans s4) _ _ e3) ep4 (by intro z; cases z)
    have nmp : m ≠ p := ne_of (s4 _ _ e3') ep4 (by intro z; cases z)
    have x5 : SameX p H4 (upd H4 p o5) := SameX.upd
    generalize upd H4 p o5 = H5 at x5 st5
    have hlt : r.toNat < S.length := by omega
    have hat := atI_nat (List.getElem?_eq_getElem hlt)
    rw [Int.toNat_of_nonneg r0] at hat
    refine ⟨L, _, _, _, rfl, rfl, SqL.of (x5 _ _ e4 nLp), hat, gName_i ?_⟩
    dsimp only [List.set]
    have xH5 : SameX p H H5 := x2.trans (s24.x.trans x5)
    have hm' : S[r.toNat] ∈ S := List.getElem_mem hlt
    generalize S[r.toNat] = odd at hm'
    have p39 : (1000 : Int) ≤ 10 ^ (39 : Int).toNat := by decide
    have good : (PlT K H5 odd ∧ odd ≠ .ref p) ∧ odd ≠ .non ∧ wholeIn odd 0 (hg - 1) = false := by
      rw [← hS] at hm'
      generalize (10 : Int) ^ (39 : Int).toNat = t39 at hm' p39
      simp only [List.mem_cons, List.not_mem_nil, or_false] at hm'
      rcases hm' with rfl | rfl | rfl | rfl | rfl | rfl | rfl
      · exact ⟨⟨⟨_, .int _⟩, fun z => by cases z⟩, (fun z => by cases z), wi_no (by omega)⟩
      · exact ⟨⟨⟨_, .int _⟩, fun z => by cases z⟩, (fun z => by cases z), wi_no (by omega)⟩
      · exact ⟨⟨⟨_, .bl _⟩, fun z => by cases z⟩, (fun z => by cases z), rfl⟩
      · exact ⟨⟨⟨_, .str _⟩, fun z => by cases z⟩, (fun z => by cases z), rfl⟩
      · exact ⟨⟨⟨_, .tup (x5 _ _ ((s3'.trans s4) _ _ e3) ntp)⟩, fun z => ntp (by cases z; rfl)⟩, (fun z => by cases z), rfl⟩
      · exact ⟨⟨⟨_, .int _⟩, fun z => by cases z⟩, (fun z => by cases z), wi_no (by omega)⟩
      · exact ⟨⟨⟨_, .lst (x5 _ _ (s4 _ _ e3') nmp)⟩, fun z => nmp (by cases z; rfl)⟩, (fun z => by cases z), rfl⟩
    have hl5 := xH5 _ _ hl nlp
    have hb5 := xH5 _ _ hb nbp
    clear x5 e4 s4 s3 s3' hl2 x2 st2 hl1 x1 st1 st4 ep4 e3 e3' hb1 hb2
    have ll12 : xs.length ≤ 12 := by omega
    have it : ∀ {H' : Hp} {y : V}, y ∈ xs → PlT K H' y ∧ y ≠ .ref p := fun h => item_of_lay la.ly h
    refine tSeq_i (tAsg_i (cat3n (l := l) (ls := xs) (a := a) (fun ms H' => ms = [odd]) (fun _ h => h) rfl rfl hl5 ll12 (fun H6 Q6 s6 k6 => ⟨_, rfl, (by show 1 ≤ sizeLine; decide), fun c hc => k6 c _ _ (same_upd hc) upd_same (by show 1 ≤ 12; decide) rfl⟩) fun bt ms H6 s6 e6 _ em => ?_))
    subst em
    refine gName_i ?_
    dsimp only [List.set]
    have gb : GoodL K p wd hg H6 (.ref bt) := by
      refine goodL_tup e6 (st5.same s6) (fun y hy => ?_) (nl_item (y := odd) (by simp) good.2.1 good.2.2)
      rcases List.mem_append.mp hy with hy | hy
      · rcases List.mem_append.mp hy with hy | hy
        · exact it (cut_mem hy)
        · cases List.mem_singleton.mp hy
          exact ⟨s6.plT good.1.1, good.1.2⟩
      · exact it (cut_mem hy)
    have hl6 := s6 _ _ hl5
    have st6 := st5.same s6
    refine tSeq_i (tAsg_i ⟨_, rfl, _, rfl, _, rfl, _, rfl, (by show 1 ≤ sizeLine; decide), fun t9 ht9 => ?_⟩)
    have s9 := same_upd (o := .tup [V.non]) ht9
    have e9 : upd H6 t9 (.tup [V.non]) t9 = some (.tup [V.non]) := upd_same
    generalize upd H6 t9 (.tup [V.non]) = H9 at s9 e9
    refine catA (s9 _ _ hl6) e9 (by rw [sizeLine_eq]; show xs.length + 1 ≤ _; omega) fun c10 H10 s10 e10 => ?_
    have hl10 := s10 _ _ (s9 _ _ hl6)
    have st10 := st6.same (s9.trans s10)
    have g4 : GoodL K p wd hg H10 (.ref c10) := goodL_tup e10 st10 (fun y hy => by
      rcases List.mem_append.mp hy with hy | hy
      · exact it hy
      · cases List.mem_singleton.mp hy
        exact ⟨⟨_, .non⟩, fun z => by cases z⟩) (nl_len (by rw [List.length_append]; show ((xs.length + 1 : Nat) : Int) ≠ wd; omega))
    refine ⟨_, rfl, _, rfl, l, _, rfl, hl10, fun c13 H13 s13 e13 => ?_⟩
    have hl13 := s13 _ _ hl10
    have st13 := st10.same s13
    have z13 : cutV xs (some 1) none = xs.drop 1 := cut_from (k := 1) (by omega)
    rw [z13] at e13
    have g5 : GoodL K p wd hg H13 (.ref c13) := goodL_tup e13 st13 (fun y hy => it (List.mem_of_mem_drop hy)) (nl_len (by rw [List.length_drop]; omega))
    refine ⟨_, rfl, l, _, rfl, .inr (SqT.of hl13), fun m11 hm11 => ?_⟩
    have s11 := same_upd (o := .lst xs) hm11
    have e11 : upd H13 m11 (.lst xs) m11 = some (.lst xs) := upd_same
    generalize upd H13 m11 (.lst xs) = H11 at s11 e11
    have st11 := st13.same s11
    have nm11 : m11 ≠ p := fun z => by
      obtain ⟨u, v, e, _⟩ := id st13
      rw [z, e] at hm11
      cases hm11
    have g6 : GoodL K p wd hg H11 (.ref m11) := goodL_none (by rw [tupOf_r, e11]; rfl) ⟨_, .lst e11⟩ (fun z => nm11 (by cases z; rfl))
    refine fun d hd => ?_
    have s12 := same_upd (o := .dK []) hd
    have e12 : upd H11 d (.dK []) d = some (.dK []) := upd_same
    generalize upd H11 d (.dK []) = H12 at s12 e12
    have st12 := st11.same s12
    have ndp : d ≠ p := fun z => by
      obtain ⟨u, v, e, _⟩ := id st11
      rw [z, e] at hd
      cases hd
    have g7 : GoodL K p wd hg H12 (.ref d) := goodL_none (by rw [tupOf_r, e12]; rfl) ⟨_, .dK e12⟩ (fun z => ndp (by cases z; rfl))
    have gn : GoodL K p wd hg H12 .non := goodL_none rfl ⟨_, .non⟩ (fun z => by cases z)
    have gi : GoodL K p wd hg H12 (.int 5) := goodL_none rfl ⟨_, .int 5⟩ (fun z => by cases z)
    have gs : GoodL K p wd hg H12 (.str "lay") := goodL_none rfl ⟨_, .str _⟩ (fun z => by cases z)
    have g6' := goodL_same g6 s12
    have g5' := goodL_same g5 (s11.trans s12)
    have g4' := goodL_same g4 (s13.trans (s11.trans s12))
    have sA := s9.trans (s10.trans (s13.trans (s11.trans s12)))
    have gb' := goodL_same gb sA
    refine ⟨(by show 10 ≤ sizeLine; decide), fun Z hZ => gName_i ?_⟩
    dsimp only [List.set]
    have all : ∀ v ∈ [V.ref bt, V.ref bt, V.ref bt, V.ref c10, V.ref c13, V.ref m11, V.non, V.ref d, V.str "lay", V.int 5], GoodL K p wd hg H12 v :=
      List.forall_mem_cons.mpr ⟨gb', List.forall_mem_cons.mpr ⟨gb', List.forall_mem_cons.mpr ⟨gb', List.forall_mem_cons.mpr ⟨g4', List.forall_mem_cons.mpr ⟨g5', List.forall_mem_cons.mpr ⟨g6', List.forall_mem_cons.mpr ⟨gn, List.forall_mem_cons.mpr ⟨g7, List.forall_mem_cons.mpr ⟨gs, List.forall_mem_cons.mpr ⟨gi, fun _ h => by cases h⟩⟩⟩⟩⟩⟩⟩⟩⟩⟩
    have lA : ([V.ref bt, V.ref bt, V.ref bt, V.ref c10, V.ref c13, V.ref m11, V.non, V.ref d, V.str "lay", V.int 5] : List V).length = 10 := rfl
    generalize [V.ref bt, V.ref bt, V.ref bt, V.ref c10, V.ref c13, V.ref m11, V.non, V.ref d, V.str "lay", V.int 5] = zs at all lA
    have s16 := same_upd (o := .lst zs) hZ
    have e16 : upd H12 Z (.lst zs) Z = some (.lst zs) := upd_same
    have sF := s6.trans (sA.trans s16)
    have hFree : H Z = none ∧ Z ≠ p := by
      obtain ⟨u, v, e, _⟩ := id st12
      exact sameX_free (xH5.trans (s6.trans sA).x) e hZ
    generalize upd H12 Z (.lst zs) = H16 at s16 e16 sF
    have hl16 := sF _ _ hl5
    have hb16 := sF _ _ hb5
    have st16 := st5.same sF
    refine tSeq_i ⟨_, rfl, .inl ⟨rfl, _, SqL.of e16⟩, tCons_i (te_cut (t := tIf _ _ _) (fun v H' => Same H16 H' ∧ GoodL K p wd hg H' v) ?_ ?_)⟩
    · rintro v10 H17 ⟨s17, g10⟩
      refine ⟨Z, _, v10, rfl, rfl, s17 _ _ e16, by rw [lA, sizeLine_eq]; decide, ?_⟩
      dsimp only
      have xE : SameX p H (upd H17 Z (.lst (zs ++ [v10]))) := sameX_updN (xH5.trans (sF.trans s17).x) hFree.1
      have stE : StAt (upd H17 Z (.lst (zs ++ [v10]))) p := st_updN (st16.same s17) hFree.2
      have lW : (zs ++ [v10]).length = 11 := by rw [List.length_append, lA]; rfl
      have hlw : way.toNat < (zs ++ [v10]).length := by omega
      have hatw := atI_nat (List.getElem?_eq_getElem hlw)
      rw [Int.toNat_of_nonneg w0] at hatw
      refine ⟨_, rfl, _, rfl, Z, _, _, _, rfl, rfl, SqL.of upd_same, hatw, ?_⟩
      refine q _ _ xE stE ?_
      have gv : GoodL K p wd hg H17 (zs ++ [v10])[way.toNat] := by
        rcases List.mem_append.mp (List.getElem_mem hlw) with hy | hy
        · exact goodL_same (all _ hy) (s16.trans s17)
        · rw [List.mem_singleton.mp hy]; exact g10
      exact goodL_lst (s17 _ _ e16) gv
    · intro Q' hQ
      refine ⟨_, rfl, b, _, _, _, rfl, rfl, SqT.of hb16, at0, _, _, rfl, rfl, _, rfl, ?_⟩
      by_cases hgt : (1 : Int) < wd
      · rw [decide_eq_true hgt]
        refine iteT ⟨(by show 1 ≤ sizeLine; decide), fun t0 ht0 => ⟨_, rfl, b, _, _, _, rfl, rfl, SqT.of (same_upd ht0 _ _ hb16), at0, t0, wd, _, rfl, rfl, upd_same, (by simp), by omega, by omega, (by show 1 * wd.toNat ≤ 1000; omega), fun c H17 s17 e17 => ?_⟩⟩
        have s0 := (same_upd (o := .tup [V.int 0]) ht0).trans s17
        obtain ⟨k, ek⟩ : ∃ k, wd.toNat = k + 2 := ⟨wd.toNat - 2, by omega⟩
        rw [ek] at e17
        have e17' : H17 c = some (.tup (V.int 0 :: V.int 0 :: (List.replicate k [V.int 0]).flatten)) := e17
        refine hQ _ _ ⟨s0, goodL_tup e17' (st16.same s0) (fun y hy => ?_) (nl_twice (by intro z; cases z))⟩
        have : y = .int 0 := by
          rcases List.mem_cons.mp hy with h | hy
          · exact h
          · rcases List.mem_cons.mp hy with h | hy
            · exact h
            · obtain ⟨zz, h1, h2⟩ := List.mem_flatten.mp hy
              rw [(List.mem_replicate.mp h1).2] at h2
              exact List.mem_singleton.mp h2
        rw [this]
        exact ⟨⟨_, .int 0⟩, fun z => by cases z⟩
      · rw [decide_eq_false hgt]
        refine iteF ⟨_, rfl, (by show 1 ≤ sizeLine; decide), fun c hc => ?_⟩
        have sc := same_upd (o := .tup [V.ref l]) hc
        exact hQ _ _ ⟨sc, goodL_tup upd_same (st16.same sc) (fun y hy => by
          cases List.mem_singleton.mp hy
          exact ⟨⟨_, .tup (sc _ _ hl16)⟩, fun z => nlp (by cases z; rfl)⟩) (nl_item (y := .ref l) List.mem_cons_self (by intro z; cases z) rfl)⟩
end
end U
-- part K11n
set_option Elab.async false
set_option linter.all false
set_option maxRecDepth 100000
set_option maxHeartbeats 40000000
namespace U
open PySem L2 PyProof.Rows
section
variable {P : Program} {w : World} {K : PySem.W.Frag} {mg : Str → Option Value} {base : Heap}
def R1 (_ : Hp) (x y : V) : Prop := (∃ i : Int, x = .int i ∧ y = .int i) ∨ (x = .non ∧ y = .non)
theorem R1.same {H H' : Hp} {x y : V} (r : R1 H x y) (_ : Same H H') : R1 H' x y := r
theorem ok_same1 {f : Addr} {fd : FuncData} (F : Fun K "_law_same" "_law_same" sSame f fd) (G : Gs mg) : FnOk P w K mg base CX0 1 f fd ["_law_found", "_law_due"] (spSame R1) := by
  refine F.ok scSame (fun vs H Q E h => ?_) (fun cdv A outer s H vs Q E hr h => ?_)
  · obtain ⟨x, y, rfl, _⟩ := h
    rfl
  · obtain ⟨x, y, rfl, r, q⟩ := h
    refine ⟨_, pss_cons (ps_if (pt_val (pe_callB (call_isinst2T (a := "list") (b := "tuple")) rfl G.isinstance boot_isinstance (pa_cons (pv 1) (pa_cons (pe_tup (pa_cons (pe_bltn (v := .ty "list") rfl G.list boot_list rfl) (pa_cons (pe_bltn (v := .ty "tuple") rfl G.tuple boot_tuple rfl) pa_nil))) pa_nil)))) pss_never pss_nil)
      (pss_cons (ps_if (PW.pt (pw_or (pt_cmp (pc_isN (pv 1))) (pw_or1 (pt_cmp (pc_isN (pv 0)))))) (pss_one (ps_ret (pe_and (pe_cmp (pc_isN (pv 0))) (pe_one (pe_cmp (pc_isN (pv 1))))))) pss_nil)
      (pss_one (ps_ret (pe_and (pe_cmpR op_eq (pe_callB (call_isinst (c := "bool")) rfl G.isinstance boot_isinstance (pa_cons (pv 0) (pa_cons (pe_bltn (v := .ty "bool") rfl G.bool boot_bool rfl) pa_nil)))
          (pe_callB (call_isinst (c := "bool")) rfl G.isinstance boot_isinstance (pa_cons (pv 1) (pa_cons (pe_bltn (v := .ty "bool") rfl G.bool boot_bool rfl) pa_nil))) (nomark _))
        (pe_one (pe_cmpR op_eq (pv 0) (pv 1) (nomark _))))))), ?_⟩
    refine ⟨_, rfl, (by show 2 ≤ sizeLine; decide), fun t ht => ?_⟩
    have s1 := same_upd (o := .tup [V.ty "list", V.ty "tuple"]) ht
    rcases r with ⟨i, rfl, rfl⟩ | ⟨rfl, rfl⟩
    · refine ⟨_, t, _, _, rfl, SqT.of upd_same, .inl ⟨i, rfl, rfl⟩, (show _ = some false from rfl), _, rfl, iteF ?_⟩
      refine ⟨_, rfl, _, rfl, iteF ⟨_, rfl, _, rfl, iteF ?_⟩⟩
      refine ⟨_, rfl, _, _, _, rfl, .int i, (show _ = some false from rfl), _, rfl, _, _, _, rfl, .int i, (show _ = some false from rfl), rfl, _, rfl, ?_⟩
      refine iteT ⟨_, rfl, _, rfl, rfl, ?_⟩
      have e : decide (V.int i = V.int i) = true := decide_eq_true rfl
      rw [e]
      exact q _ s1
    · refine ⟨_, t, _, _, rfl, SqT.of upd_same, .inr (.inl ⟨rfl, rfl⟩), (show _ = some false from rfl), _, rfl, iteF ?_⟩
      refine ⟨_, rfl, _, rfl, iteT (iteT ⟨_, rfl, _, rfl, iteT ⟨_, rfl, ?_⟩⟩)⟩
      have e : decide (V.non = V.non) = true := decide_eq_true rfl
      exact q _ s1
end
end U
-- part K11o
set_option Elab.async false
set_option linter.all false
set_option maxRecDepth 100000
namespace U
open PySem L2 PyProof.Rows
/-- a cell of a closure, and what it holds; nobody else writes it -/
def CellAt (Y : Cx) (cl : List (Str × Addr)) (x : Str) (v : V) (H : Hp) (s : Shared) : Prop := ∃ c u, cl.lookup x = some c ∧ s.heap.IsCell c (some u) ∧ RelV v u ∧ H c = none ∧ c ∉ frs Y.stack
/-- closed facts of a lambda of three free names -/
structure LScope (params : Arguments) (body : Expr) (scope : Scope) (x y z fn : Str) : Prop where
  kind : scope.kind = .function
  co : scope.isCoroutine = false
  gen : scope.isGenerator = false
  nocell : ∀ z ∈ scope.names, z.2 ≠ .cell
  kx : scope.names.lookup x = some .free
  ky : scope.names.lookup y = some .free
  kz : scope.names.lookup z = some .free
  only : ∀ u ∈ scope.names, u.2 = .free → u.1 = x ∨ u.1 = y ∨ u.1 = z
  xy : x ≠ y
  xz : x ≠ z
  yz : y ≠ z
  gl : scope.names.lookup fn = some .globalImplicit
  bind : ∀ (q : Str) (cl : List (Str × Addr)) (pm : Value) (c : Addr) (ct : Value), bindArgs (PySem.W.kla_fn "<lambda>" q params body scope cl pm (.ref c) ct) ⟨[], []⟩ = pure []
  dx : (x == ("__debug__" : Str)) = false
  dy : (y == ("__debug__" : Str)) = false
  dz : (z == ("__debug__" : Str)) = false
  ex : (x == ("__classdict__" : Str)) = false
  ey : (y == ("__classdict__" : Str)) = false
  ez : (z == ("__classdict__" : Str)) = false
def lsOk (scope : Scope) (x y z fn : Str) : Bool :=
  decide (scope.kind = .function) && !scope.isCoroutine && !scope.isGenerator && scope.names.all (fun z => z.2 != .cell) && (scope.names.lookup x == some .free) && (scope.names.lookup y == some .free) && (scope.names.lookup z == some .free)
  && scope.names.all (fun u => u.2 != .free || (u.1 == x || (u.1 == y || u.1 == z))) && x != y && x != z && y != z && (scope.names.lookup fn == some .globalImplicit)
  && !(x == ("__debug__" : Str)) && !(y == ("__debug__" : Str)) && !(z == ("__debug__" : Str)) && !(x == ("__classdict__" : Str)) && !(y == ("__classdict__" : Str)) && !(z == ("__classdict__" : Str))
def lfOk (so si : Scope) : Bool := si.names.all fun z => z.2 != .free || so.names.lookup z.1 == some .cell || so.names.lookup z.1 == some .free
theorem lf_of {X : Cx} {scope : Scope} (h : lfOk X.env.scope scope = true) : ∀ z ∈ scope.names, z.2 = .free → X.env.kindOf z.1 = some .cell ∨ X.env.kindOf z.1 = some .free := fun z hz e => by
  have := List.all_eq_true.mp h z hz
  simp only [Bool.or_eq_true, bne_iff_ne, ne_eq, beq_iff_eq] at this
  rcases this with (h | h) | h
  · exact absurd e h
  · exact .inl h
  · exact .inr h
section
variable {Y : Cx} {pins : List (Addr × Obj)} {σ : L2.St} {H : Hp} {s : Shared}
/-- the def's own cells -/
theorem cell_own {i : Nat} {x : Str} {v : V} {scope : Scope} (I : Inv Y pins σ H s) (hi : Y.N[i]? = some x) (hσ : σ[i]? = some (some v)) (hk : Y.env.scope.names.lookup x = some .cell) (hfn : Y.fn x = true) (hfr : (x, NameKind.free) ∈ scope.names) : CellAt Y (clOf scope Y.env) x v H s := by
  obtain ⟨m, hn, hl⟩ := I.loc
  obtain ⟨u, r, l⟩ := hl i x v hi hσ (.inr (.inl hk))
  obtain ⟨c, hc⟩ := clOf_has (env := Y.env) hfr
  have e1 := (clOf_mem hc).1
  rcases l with ⟨hk', _⟩ | ⟨_, c', hc', hcell⟩
  · have : Y.env.scope.names.lookup x = some .local := hk'
    rw [hk] at this
    cases this
  · rw [hc'] at e1
    have e2 : c = c' := e1
    subst e2
    refine ⟨c, u, hc, hcell, r, I.freeC x c hc', fun hm => ?_⟩
    rcases List.mem_cons.mp (I.stkSub c hm) with z | z
    · exact I.cne x c hc' z
    · obtain ⟨_, o, ho, _⟩ := I.ok.funs.mem z
      exact absurd (Nat.lt_of_lt_of_le (Heap.lt_size ho) (I.ok.cab x c hfn hc')) (Nat.lt_irrefl _)
theorem cl_mem {scope : Scope} {env : Env} {z : Str} {c : Addr} (h : (clOf scope env).lookup z = some c) : (z, NameKind.free) ∈ scope.names := (clOf_mem h).2
end
section
variable {X : Cx} {cS c P fR : Addr} {fn : Str} {kf : Nat} {ps : List Str} {sp : Sp}
abbrev lq (X : Cx) : Str := X.env.qual ++ "<lambda>"
theorem tab_same {H H' : Hp} {P : Addr} {q : Str} (h : TabAt H P q) (s : Same H H') : TabAt H' P q := by
  obtain ⟨ps, h1, h2, h3⟩ := h
  exact ⟨ps, s _ _ h1, h2, fun pos cv z => by obtain ⟨d, e, g⟩ := h3 pos cv z; exact ⟨d, e, s _ _ g⟩⟩
/-- what the law's context has: the word, and the def that is called in the lambdas -/
structure LCtx (X : Cx) (cS c P fR : Addr) (fn : Str) (kf : Nat) (ps : List Str) (sp : Sp) : Prop where
  lam : LamX X c P
  hR : ∀ b', Def X.prog X.w X.K X.mg b' (kf + 2) "_law_word" ["_law_call"] (spWord X.prog X.w X.K X.mg b' cS (kf + 1))
  hU : ∀ b', DefR X.prog X.w X.K X.mg b' kf fn ps sp
  room : Room (kf + 2) X.A
  mR : X.mg "_law_word" = some (.ref fR)
  kR : PySem.W.keepIn X.K (.ref fR) = true
def cB (fn x y z : Str) (p1 p2 p3 p4 p5 : Pos) : Expr := .Call (.Name fn p1) [.Name x p2, .Name y p3, .Name z p4] [] p5
/-- a name of a lambda in the law's body -/
structure LN (X : Cx) (x : Str) (i : Nat) : Prop where
  nx : X.N[i]? = some x
  kx : X.env.scope.names.lookup x = some .cell
  fx : X.fn x = true
/-- what is asked of the def: it refuses these things with the class C -/
def Refuses (sp : Sp) (vs : List V) (C : Addr) (H : Hp) : Prop := ∀ Q' E', (∀ e H', Same H H' → E' (.ref e) (some C) H') → sp vs H Q' E'
def tWordL (X : Cx) (cS P : Addr) (sp : Sp) (i j l : Nat) : TE := fun σ H Q => ∃ vx vy vz C iC, σ[i]? = some (some vx) ∧ σ[j]? = some (some vy) ∧ σ[l]? = some (some vz) ∧ TabAt H P (lq X) ∧ Mk15 X.K X.mg cS C iC ∧ (∀ H', SameX P H H' → Refuses sp [vx, vy, vz] C H') ∧ ∀ H', SameX P H H' → TabAt H' P (lq X) → Q (.str (wordOf iC)) H'
end
/-! ### a lambda of no free names -/
section
variable {X : Cx} {cS c P fR : Addr} {fn : Str} {kf : Nat} {ps : List Str} {sp : Sp}
structure LScope0 (params : Arguments) (body : Expr) (scope : Scope) : Prop where
  kind : scope.kind = .function
  co : scope.isCoroutine = false
  gen : scope.isGenerator = false
  none : ∀ z ∈ scope.names, z.2 ≠ .cell ∧ z.2 ≠ .free
  bind : ∀ (q : Str) (cl : List (Str × Addr)) (pm : Value) (c : Addr) (ct : Value), bindArgs (PySem.W.kla_fn "<lambda>" q params body scope cl pm (.ref c) ct) ⟨[], []⟩ = pure []
/-- the body refuses with the class C -/
def Body0 (X : Cx) (kf : Nat) (C : Addr) (f : Addr) (q : Str) (bd : Expr) (scope : Scope) (cl : List (Str × Addr)) : Prop :=
  ∀ (base' : Heap) (cc : Addr) (A : Around) (outer : List Env) (s2 : Shared) (H2 : Hp) (Q2 : VK) (E2 : XK), Room kf (A.deeper (PySem.W.envX q scope s2.heap.objs.size f (.ref cc) cl)) → (∀ e H', Same H2 H' → E2 (.ref e) (some C) H') →
    ∃ t, PE (cxL X.prog X.w X.K X.mg base' [] q scope f (.ref cc) cl A outer s2 H2 E2) bd t ∧ t [] H2 Q2
def tWord0 (X : Cx) (P : Addr) (iC : Nat) : TE := fun σ H Q => TabAt H P (lq X) ∧ ∀ H', SameX P H H' → TabAt H' P (lq X) → Q (.str (wordOf iC)) H'
end
/-! ### the script, kept through everything -/
def ScrAt (K : PySem.W.Frag) (H : Hp) (a : Addr) (ns : List Int) : Prop := (∃ o, H a = some (.frz o (.lst (ns.map V.int)))) ∨ ∃ (o : Obj) (its : Array Value) (n : Nat), K.lookup a = some o ∧ o.cls = .type "list" ∧ o.dict = none ∧ o.data = .seq its n ∧ its.size ≤ sizeLine ∧ Vals (ns.map V.int) its.toList
theorem ScrAt.sq {K : PySem.W.Frag} {H : Hp} {a : Addr} {ns : List Int} (h : ScrAt K H a ns) : SqL K H a (ns.map V.int) := by
  rcases h with ⟨o, h⟩ | h
  · exact .inl (.inr ⟨o, h⟩)
  · exact .inr h
theorem ScrAt.same {K : PySem.W.Frag} {H H' : Hp} {a : Addr} {ns : List Int} (h : ScrAt K H a ns) (s : Same H H') : ScrAt K H' a ns := by
  rcases h with ⟨o, h⟩ | h
  · exact .inl ⟨o, s _ _ h⟩
  · exact .inr h
theorem ScrAt.x {K : PySem.W.Frag} {H H' : Hp} {a p : Addr} {ns : List Int} {o : HO} (h : ScrAt K H a ns) (s : SameX p H H') (hp : H p = some o) (hn : ∀ ob u, o ≠ .frz ob u) : ScrAt K H' a ns := by
  rcases h with ⟨ob, h⟩ | h
  · exact .inl ⟨ob, s _ _ h fun z => by rw [z, hp] at h; cases h; exact hn _ _ rfl⟩
  · exact .inr h
theorem tab_x {H H' : Hp} {P p : Addr} {q : Str} {o : HO} (h : TabAt H P q) (s : SameX p H H') (hp : H p = some o) (h1 : ∀ ps, o ≠ .tbl ps) (h2 : ∀ c, o ≠ codeO c q) : TabAt H' P q := by
  obtain ⟨ps, e, t, f⟩ := h
  refine ⟨ps, s _ _ e fun z => by rw [z, hp] at e; cases e; exact h1 _ rfl, t, fun pos cv z => ?_⟩
  obtain ⟨d, e1, e2⟩ := f pos cv z
  exact ⟨d, e1, s _ _ e2 fun z => by rw [z, hp] at e2; cases e2; exact h2 _ rfl⟩
/-- a plain thing is no code table -/
theorem plT_tbl {K : PySem.W.Frag} {H : Hp} {P : Addr} {ps : Array Value} {v : V} (t : PlT K H v) (h : H P = some (.tbl ps)) : v ≠ .ref P := fun z => by
  obtain ⟨T, ty⟩ := t
  subst z
  cases ty with
  | lst e => rw [h] at e; cases e
  | frz e => rw [h] at e; cases e
  | tup e => rw [h] at e; cases e
  | dK e => rw [h] at e; cases e
  | dT e => rw [h] at e; cases e
end U
-- part K11r
set_option Elab.async false
set_option linter.all false
set_option maxRecDepth 100000
set_option maxHeartbeats 40000000
namespace U
open PySem L2 PyProof.Rows
/-! ### a lambda of any free names, of any body that refuses -/
section
variable {X : Cx} {cS c P fR : Addr} {fn : Str} {kf : Nat} {ps : List Str} {sp : Sp}
structure LScopeN (params : Arguments) (body : Expr) (scope : Scope) (N : List Str) : Prop where
  kind : scope.kind = .function
  co : scope.isCoroutine = false
  gen : scope.isGenerator = false
  nocell : ∀ z ∈ scope.names, z.2 ≠ .cell
  only : ∀ z ∈ scope.names, z.2 = .free → z.1 ∈ N
  free : ∀ x ∈ N, scope.names.lookup x = some .free
  bind : ∀ (q : Str) (cl : List (Str × Addr)) (pm : Value) (c : Addr) (ct : Value), bindArgs (PySem.W.kla_fn "<lambda>" q params body scope cl pm (.ref c) ct) ⟨[], []⟩ = pure []
/-- the body refuses with the class C where Pre holds -/
def BodyN (X : Cx) (kf : Nat) (C : Addr) (f : Addr) (q : Str) (bd : Expr) (scope : Scope) (cl : List (Str × Addr)) (N : List Str) (ws : List V) (Pre : Hp → Prop) : Prop :=
  ∀ (base' : Heap) (cc : Addr) (A : Around) (outer : List Env) (s2 : Shared) (H2 : Hp) (Q2 : VK) (E2 : XK), Room kf (A.deeper (PySem.W.envX q scope s2.heap.objs.size f (.ref cc) cl)) → Pre H2 → (∀ e H', Same H2 H' → E2 (.ref e) (some C) H') →
    ∃ t, PE (cxL X.prog X.w X.K X.mg base' N q scope f (.ref cc) cl A outer s2 H2 E2) bd t ∧ t (ws.map some) H2 Q2
/-- the word of a lambda: its names stand at the places idx -/
def tWordN (X : Cx) (P : Addr) (iC : Nat) (idx : List Nat) (Pre : List V → Hp → Prop) : TE := fun σ H Q => ∃ ws : List V, ws.length = idx.length ∧ (∀ (k i : Nat) v, idx[k]? = some i → ws[k]? = some v → σ[i]? = some (some v)) ∧ TabAt H P (lq X) ∧ (∀ H', SameX P H H' → Pre ws H') ∧ ∀ H', SameX P H H' → TabAt H' P (lq X) → Q (.str (wordOf iC)) H'
end
end U
-- part K11g
set_option Elab.async false
set_option linter.all false
set_option maxRecDepth 100000
set_option maxHeartbeats 40000000
namespace U
open PySem L2 PyProof.Rows
/-! ### turns -/
def bi (b : Bool) : Int := if b = true then 1 else 0
abbrev tv (q : Bool × Bool × Bool) : List V := [.int (bi q.1), .int (bi q.2.1), .int (bi q.2.2)]
def isTurnL : Option (List V) → Bool
  | some [a, b, c] => wholeIn a 0 1 && (wholeIn b 0 1 && wholeIn c 0 1)
  | _ => false
theorem tv_turn (q : Bool × Bool × Bool) : isTurnL (some (tv q)) = true := by
  obtain ⟨a, b, c⟩ := q
  cases a <;> cases b <;> cases c <;> decide
theorem tv_pl {K : PySem.W.Frag} {H : Hp} {t : Addr} {q : Bool × Bool × Bool} (h : H t = some (.tup (tv q))) : Pl1 K H (.ref t) := by
  refine ⟨⟨_, .tup h⟩, fun ys e y hy => ?_⟩
  rw [tupOf_ref h] at e
  cases e
  simp only [List.mem_cons, List.not_mem_nil, or_false] at hy
  rcases hy with rfl | rfl | rfl <;> exact ⟨_, .int _⟩
section
variable {P : Program} {w : World} {K : PySem.W.Frag} {mg : Str → Option Value} {base : Heap} {aB aT : Addr}
abbrev sTurn : Stmt := top 30
def spTurn (K : PySem.W.Frag) : Sp := fun vs H Q _ => ∃ x, vs = [x] ∧ Pl1 K H x ∧ ∀ H', Same H H' → Q (.bl (isTurnL (tupOf H x))) H'
theorem scTurn : FnScope ["thing"] ["thing"] (defScope sTurn) := ⟨rfl, rfl, rfl, by decide +kernel, rfl, by decide +kernel, by decide +kernel⟩
theorem ok_turn {f : Addr} {fd : FuncData} (F : Fun K "is_turn" "is_turn" sTurn f fd) (G : Gs mg) (D1 : Def P w K mg base 1 "is_tuple_of" ["thing", "many"] (spTupOf K)) (D2 : Def P w K mg base 2 "is_whole_within" ["thing", "least", "most"] (spWithin K)) :
    FnOk P w K mg base CX0 3 f fd ["thing"] (spTurn K) := by
  refine F.ok scTurn (fun vs H Q E h => ?_) (fun cdv A outer s H vs Q E hr h => ?_)
  · obtain ⟨x, rfl, _⟩ := h
    rfl
  · obtain ⟨x, rfl, ⟨t, hi⟩, q⟩ := h
    refine ⟨_, pss_one (ps_ret (pe_and (pe_callD D1 (hr.mono (by decide)) (pa_cons (pv 0) (pa_cons pe_int pa_nil)))
      (pe_one (pe_callB call_all rfl G.all boot_all (pa_cons (pe_comp ["part"] 1 [] (pi_tup (pv 0)) (fun C s H fp => pb 0) (fun C s H fp => pts_nil)
        (fun C s H fp D => pin_emit rfl (pe_callD D2 (hr.mono (by decide)) (pa_cons (pv 0) (pa_cons pe_int (pa_cons pe_int pa_nil)))))) pa_nil))))), ?_⟩
    refine ⟨x, rfl, x, 3, rfl, t, _, rfl, ?_⟩
    cases e : tupOf H x with
    | none => rw [e] at q; exact iteF (q H (Same.refl H))
    | some xs =>
      rw [e] at q
      obtain ⟨a, rfl, ha⟩ := tupOf_some e
      show if decide ((xs.length : Int) = 3) = true then _ else _
      by_cases h2 : xs.length = 3
      · rw [decide_eq_true (show (xs.length : Int) = 3 by omega)]
        refine iteT ⟨_, rfl, a, rfl, ⟨xs, SqT.of ha⟩, ?_⟩
        refine nest_tup (xs := xs) (fun i ys σ H2 => ys = (xs.take i).map (fun y => V.bl (wholeIn y 0 1)) ∧ H2 = H ∧ ∃ v, σ = [v]) ⟨rfl, rfl, none, rfl⟩ (fun i ys σ H2 _ ⟨_, e2, _⟩ => by rw [e2]; exact SqT.of ha) ?_ ?_
        · rintro i y ys σ H2 hy ⟨rfl, rfl, v, rfl⟩
          have my : y ∈ xs := List.mem_of_getElem? hy
          refine ⟨y, rfl, y, 0, 1, rfl, hi xs e y my, ?_, ?_⟩
          · rw [List.length_map, sizeLine_eq, List.length_take]; omega
          · refine ⟨?_, rfl, _, rfl⟩
            rw [List.take_add_one, hy, List.map_append]
            rfl
        · rintro ys σ H2 ⟨rfl, rfl, v, rfl⟩ p hp
          rw [List.take_length]
          refine ⟨p, xs.map (fun y => wholeIn y 0 1), rfl, ?_, ?_⟩
          · rw [List.map_map]; exact SqL.of upd_same
          · have e3 : isTurnL (some xs) = (xs.map (fun y => wholeIn y 0 1)).all id := by
              match xs, h2 with
              | [a, b, c], _ => simp [isTurnL]
            rw [← e3]
            exact q _ fun b o hb => by rw [upd_ne (ne_of_none hb hp)]; exact hb
      · rw [decide_eq_false (show ¬ (xs.length : Int) = 3 by omega)]
        have e3 : isTurnL (some xs) = false := by
          match xs, h2 with
          | [], _ => rfl
          | [a], _ => rfl
          | [a, b], _ => rfl
          | [a, b, c], h => exact absurd rfl h
          | a :: b :: c :: d :: r, _ => rfl
        rw [e3] at q
        exact iteF (q H (Same.refl H))
abbrev sNT : Stmt := top 31
def spNT (K : PySem.W.Frag) : Sp := fun vs H Q _ => ∃ x, vs = [x] ∧ Pl1 K H x ∧ isTurnL (tupOf H x) = true ∧ ∀ H', Same H H' → Q .non H'
theorem scNT : FnScope ["turn"] ["turn"] (defScope sNT) := ⟨rfl, rfl, rfl, by decide +kernel, rfl, by decide +kernel, by decide +kernel⟩
theorem ok_nt {f : Addr} {fd : FuncData} (F : Fun K "need_turn" "need_turn" sNT f fd) (D1 : Def P w K mg base 3 "is_turn" ["thing"] (spTurn K)) : FnOk P w K mg base CX0 4 f fd ["turn"] (spNT K) := by
  refine F.ok scNT (fun vs H Q E h => ?_) (fun cdv A outer s H vs Q E hr h => ?_)
  · obtain ⟨x, rfl, _⟩ := h
    rfl
  · obtain ⟨x, rfl, p, fu, q⟩ := h
    refine ⟨_, pss_one (ps_if (pt_not (pt_val (pe_callD D1 hr (pa_cons (pv 0) pa_nil)))) pss_never pss_nil), ?_⟩
    refine ⟨x, rfl, x, rfl, p, fun H1 s1 => ⟨_, rfl, ?_⟩⟩
    rw [fu]
    exact iteF (q H1 s1)
def BadTr (K : PySem.W.Frag) (H : Hp) (x : V) : Prop := Pl1 K H x ∧ isTurnL (tupOf H x) = false
def spNTx (K : PySem.W.Frag) (aT : Addr) : Sp := fun vs H _ E => ∃ x, vs = [x] ∧ BadTr K H x ∧ ∀ e H', Same H H' → E (.ref e) (some aT) H'
theorem ok_ntX {f : Addr} {fd : FuncData} (F : Fun K "need_turn" "need_turn" sNT f fd) (X : Exc K mg "NoTurn" aT) (D1 : Def P w K mg base 3 "is_turn" ["thing"] (spTurn K)) : FnOk P w K mg base (CXR P w) 4 f fd ["turn"] (spNTx K aT) := by
  refine F.okR scNT (fun vs H Q E h => ?_) (fun cdv A outer s H vs Q E hr h => ?_)
  · obtain ⟨x, rfl, _⟩ := h
    rfl
  · obtain ⟨x, rfl, ⟨p, fu⟩, q⟩ := h
    refine ⟨_, pss_one (ps_if (pt_not (pt_val (pe_callD D1 hr (pa_cons (pv 0) pa_nil)))) (pss_one (ps_raise PySem.F.excBase_ValueError X.m X.x rfl (pa_cons pe_str pa_nil))) pss_nil), ?_⟩
    refine ⟨x, rfl, x, rfl, p, fun H1 s1 => ⟨_, rfl, ?_⟩⟩
    rw [fu]
    exact iteT ⟨by show 1 ≤ sizeLine; decide, fun e => q e H1 s1⟩
/-! ### where a point comes -/
def tA (n : Int) (l : Bool) (x : Int) : Int := if l = true then n - 1 - x else x
def tpt (wd hg : Int) (q : Bool × Bool × Bool) (x : Int × Int) : Int × Int := if q.1 = true then (tA hg q.2.2 x.2, tA wd q.2.1 x.1) else (tA wd q.2.1 x.1, tA hg q.2.2 x.2)
abbrev sTP : Stmt := top 32
def spTP : Sp := fun vs H Q _ => ∃ (b p t : Addr) (wd hg : Int) (x : Int × Int) (q : Bool × Bool × Bool), vs = [.ref b, .ref p, .ref t] ∧ H b = some (.tup [.int wd, .int hg]) ∧ H p = some (.tup [.int x.1, .int x.2]) ∧ H t = some (.tup (tv q)) ∧ ∀ (r : Addr) H', Same H H' → H' r = some (.tup [.int (tpt wd hg q x).1, .int (tpt wd hg q x).2]) → Q (.ref r) H'
theorem scTP : FnScope ["board", "point", "turn", "line", "row", "over", "lines", "rows"] ["board", "point", "turn"] (defScope sTP) := ⟨rfl, rfl, rfl, by decide +kernel, rfl, by decide +kernel, by decide +kernel⟩
theorem bi_eq1 (b : Bool) : decide (V.int (bi b) = V.int 1) = b := by cases b <;> decide
theorem ok_tp {f : Addr} {fd : FuncData} (F : Fun K "turned_point" "turned_point" sTP f fd) : FnOk P w K mg base CX0 1 f fd ["board", "point", "turn"] spTP := by
  refine F.ok scTP (fun vs H Q E h => ?_) (fun cdv A outer s H vs Q E hr h => ?_)
  · obtain ⟨b, p, t, wd, hg, x, q, rfl, _⟩ := h
    rfl
  · obtain ⟨b, p, t, wd, hg, ⟨x, y⟩, ⟨o, l, r⟩, rfl, hb, hp, ht, q⟩ := h
    refine ⟨_, pss_cons (ps_asg (pv 1) (pg_tup rfl (pgs_cons (pg_name (i := 3) scTP.nd rfl (Or.inl rfl)) (pgs_cons (pg_name (i := 4) scTP.nd rfl (Or.inl rfl)) pgs_nil))))
      (pss_cons (ps_asg (pv 2) (pg_tup rfl (pgs_cons (pg_name (i := 5) scTP.nd rfl (Or.inl rfl)) (pgs_cons (pg_name (i := 6) scTP.nd rfl (Or.inl rfl)) (pgs_cons (pg_name (i := 7) scTP.nd rfl (Or.inl rfl)) pgs_nil)))))
      (pss_cons (ps_if (pt_cmpR op_eq (pv 6) pe_int (nomark _)) (pss_one (ps_set (i := 3) scTP.nd rfl (Or.inl rfl) (pe_op op_sub (pe_op op_sub (pe_ix ix_tup (pv 0) pe_int (fun _ _ => rfl)) pe_int) (pv 3)))) pss_nil)
      (pss_cons (ps_if (pt_cmpR op_eq (pv 7) pe_int (nomark _)) (pss_one (ps_set (i := 4) scTP.nd rfl (Or.inl rfl) (pe_op op_sub (pe_op op_sub (pe_ix ix_tup (pv 0) pe_int (fun _ _ => rfl)) pe_int) (pv 4)))) pss_nil)
      (pss_one (ps_ret (pe_ifExp (pt_cmpR op_eq (pv 5) pe_int (nomark _)) (pe_tup (pa_cons (pv 4) (pa_cons (pv 3) pa_nil))) (pe_tup (pa_cons (pv 3) (pa_cons (pv 4) pa_nil))))))))), ?_⟩
    refine tSeq_i (tAsg_i ⟨_, rfl, p, _, rfl, SqT.of hp, rfl, _, _, rfl, _, _, rfl, rfl, ?_⟩)
    dsimp only [List.set]
    refine tSeq_i (tAsg_i ⟨_, rfl, t, _, rfl, SqT.of ht, rfl, _, _, rfl, _, _, rfl, _, _, rfl, rfl, ?_⟩)
    dsimp only [List.set]
    refine tSeq_cut (fun σ H' => H' = H ∧ σ = [some (.ref b), some (.ref p), some (.ref t), some (.int (tA wd l x)), some (.int y), some (.int (bi o)), some (.int (bi l)), some (.int (bi r))]) ?_ ?_
    · rintro σ H' ⟨rfl, rfl⟩
      refine tSeq_cut (fun σ H2 => H2 = H' ∧ σ = [some (.ref b), some (.ref p), some (.ref t), some (.int (tA wd l x)), some (.int (tA hg r y)), some (.int (bi o)), some (.int (bi l)), some (.int (bi r))]) ?_ ?_
      · rintro σ H2 ⟨rfl, rfl⟩
        refine ⟨_, rfl, rfl, _, rfl, ?_⟩
        rw [bi_eq1]
        cases o with
        | true => exact iteT ⟨_, rfl, _, rfl, (by show 2 ≤ sizeLine; decide), fun u hu => q u _ (same_upd hu) upd_same⟩
        | false => exact iteF ⟨_, rfl, _, rfl, (by show 2 ≤ sizeLine; decide), fun u hu => q u _ (same_upd hu) upd_same⟩
      · intro D' hD
        refine ⟨_, rfl, rfl, _, rfl, ?_⟩
        rw [bi_eq1]
        cases r with
        | true => exact iteT (tAsg_i ⟨_, rfl, b, _, _, _, rfl, rfl, SqT.of hb, at1, _, _, rfl, rfl, _, rfl, _, _, rfl, rfl, gName_i (hD _ _ ⟨rfl, rfl⟩)⟩)
        | false => exact iteF (tNext_i (hD _ _ ⟨rfl, rfl⟩))
    · intro D' hD
      refine ⟨_, rfl, rfl, _, rfl, ?_⟩
      rw [bi_eq1]
      cases l with
      | true => exact iteT (tAsg_i ⟨_, rfl, b, _, _, _, rfl, rfl, SqT.of hb, at0, _, _, rfl, rfl, _, rfl, _, _, rfl, rfl, gName_i (hD _ _ ⟨rfl, rfl⟩)⟩)
      | false => exact iteF (tNext_i (hD _ _ ⟨rfl, rfl⟩))
/-! ### turned_board -/
abbrev tW (wd hg : Int) (q : Bool × Bool × Bool) : Int := if q.1 = true then hg else wd
abbrev tH (wd hg : Int) (q : Bool × Bool × Bool) : Int := if q.1 = true then wd else hg
abbrev sTB : Stmt := top 33
def spTB : Sp := fun vs H Q _ => ∃ (b t : Addr) (wd hg : Int) (q : Bool × Bool × Bool), vs = [.ref b, .ref t] ∧ BoardAt H (.ref b) wd hg ∧ H t = some (.tup (tv q)) ∧ ∀ (c : Addr) H', Same H H' → BoardAt H' (.ref c) (tW wd hg q) (tH wd hg q) → Q (.ref c) H'
theorem scTB : FnScope ["board", "turn"] ["board", "turn"] (defScope sTB) := ⟨rfl, rfl, rfl, by decide +kernel, rfl, by decide +kernel, by decide +kernel⟩
theorem ok_tb {f : Addr} {fd : FuncData} (F : Fun K "turned_board" "turned_board" sTB f fd) (D1 : Def P w K mg base 4 "need_board" ["board"] (spNeedBoard K)) (D2 : Def P w K mg base 4 "need_turn" ["turn"] (spNT K)) : FnOk P w K mg base CX0 5 f fd ["board", "turn"] spTB := by
  refine F.ok scTB (fun vs H Q E h => ?_) (fun cdv A outer s H vs Q E hr h => ?_)
  · obtain ⟨b, t, wd, hg, q, rfl, _⟩ := h
    rfl
  · obtain ⟨b, t, wd, hg, ⟨o, l, r⟩, rfl, bd, ht, q⟩ := h
    refine ⟨_, pss_cons (ps_expr (pe_callD D1 hr (pa_cons (pv 0) pa_nil)))
      (pss_cons (ps_expr (pe_callD D2 hr (pa_cons (pv 1) pa_nil)))
      (pss_one (ps_ret (pe_ifExp (pt_cmpR op_eq (pe_ix ix_tup (pv 1) pe_int (fun _ _ => rfl)) pe_int (nomark _)) (pe_tup (pa_cons (pe_ix ix_tup (pv 0) pe_int (fun _ _ => rfl)) (pa_cons (pe_ix ix_tup (pv 0) pe_int (fun _ _ => rfl)) pa_nil))) (pv 0))))), ?_⟩
    refine tSeq_i ⟨_, rfl, .ref b, wd, hg, rfl, bd, fun H1 s1 => ?_⟩
    dsimp only
    have ht1 := s1 _ _ ht
    refine tSeq_i ⟨_, rfl, .ref t, rfl, tv_pl ht1, by rw [tupOf_ref ht1]; exact tv_turn _, fun H2 s2 => ?_⟩
    dsimp only
    have ht2 := s2 _ _ ht1
    have s12 := s1.trans s2
    obtain ⟨_, w1, w12, g1, g12⟩ := id bd
    obtain ⟨b', eb, hb⟩ := tupOf_some bd.1
    cases eb
    have hb2 := s12 _ _ hb
    refine ⟨_, rfl, t, _, _, _, rfl, rfl, SqT.of ht2, rfl, rfl, _, rfl, ?_⟩
    rw [bi_eq1]
    cases o with
    | true =>
      refine iteT ⟨_, rfl, b, _, _, _, rfl, rfl, SqT.of hb2, at1, _, rfl, b, _, _, _, rfl, rfl, SqT.of hb2, at0, (by show 2 ≤ sizeLine; decide), fun u hu => q u _ (s12.trans (same_upd hu)) ⟨tupOf_ref upd_same, g1, g12, w1, w12⟩⟩
    | false => exact iteF ⟨_, rfl, q b _ s12 (bd.same s12)⟩
def BadTB (K : PySem.W.Frag) (aB aT : Addr) (H : Hp) (x y : V) (C : Addr) : Prop := (C = aB ∧ BadBoard K H x) ∨ (C = aT ∧ (∃ wd hg, BoardAt H x wd hg) ∧ BadTr K H y)
def spTBx (K : PySem.W.Frag) (aB aT : Addr) : Sp := fun vs H _ E => ∃ x y C, vs = [x, y] ∧ BadTB K aB aT H x y C ∧ ∀ e H', Same H H' → E (.ref e) (some C) H'
theorem BadTr.same {H H' : Hp} {x : V} (b : BadTr K H x) (s : Same H H') : BadTr K H' x := ⟨b.1.same s, by rw [tupOf_same b.1.1 s]; exact b.2⟩
theorem ok_tbX {f : Addr} {fd : FuncData} (F : Fun K "turned_board" "turned_board" sTB f fd) (D1 : Def P w K mg base 4 "need_board" ["board"] (spNeedBoard K)) (R1 : DefR P w K mg base 4 "need_board" ["board"] (spNBx K aB)) (R2 : DefR P w K mg base 4 "need_turn" ["turn"] (spNTx K aT)) : FnOk P w K mg base (CXR P w) 5 f fd ["board", "turn"] (spTBx K aB aT) := by
  refine F.okR scTB (fun vs H Q E h => ?_) (fun cdv A outer s H vs Q E hr h => ?_)
  · obtain ⟨x, y, C, rfl, _⟩ := h
    rfl
  · obtain ⟨x, y, C, rfl, b, q⟩ := h
    rcases b with ⟨rfl, b⟩ | ⟨rfl, ⟨wd, hg, bd⟩, b⟩
    · refine ⟨_, pss_cons (ps_expr (pe_callR R1 hr (pa_cons (pv 0) pa_nil))) pss_never, ?_⟩
      exact ⟨x, rfl, x, rfl, b, q⟩
    · refine ⟨_, pss_cons (ps_expr (pe_callD D1 hr (pa_cons (pv 0) pa_nil))) (pss_cons (ps_expr (pe_callR R2 hr (pa_cons (pv 1) pa_nil))) pss_never), ?_⟩
      refine tSeq_i ⟨_, rfl, x, wd, hg, rfl, bd, fun H1 s1 => ?_⟩
      dsimp only
      exact ⟨y, rfl, y, rfl, b.same s1, fun e H' s' => q e H' (s1.trans s')⟩
end
end U
-- part K11h
set_option Elab.async false
set_option linter.all false
set_option maxRecDepth 100000
set_option maxHeartbeats 40000000
namespace U
open PySem L2 PyProof.Rows
/-! ### points, as plain lists -/
def rowV : V → Option Int
  | .int r => some r
  | _ => none
theorem fm_one {α β : Type} (g : α → Option β) (a : α) : [a].filterMap g = (g a).toList := by
  rw [List.filterMap_cons]
  cases g a <;> rfl
def ptsTo (xs : List V) (n : Nat) : List (Int × Int) := (List.range n).filterMap fun (l : Nat) => ((xs[l]?).bind rowV).map fun r => ((l : Int), r)
theorem ptsTo_succ (xs : List V) (n : Nat) : ptsTo xs (n + 1) = ptsTo xs n ++ (((xs[n]?).bind rowV).map fun r => ((n : Int), r)).toList := by
  unfold ptsTo
  rw [List.range_succ, List.filterMap_append, fm_one]
abbrev pointsL (xs : List V) : List (Int × Int) := ptsTo xs xs.length
def PtAt (H : Hp) (v : V) (q : Int × Int) : Prop := ∃ t : Addr, v = .ref t ∧ H t = some (.tup [.int q.1, .int q.2])
theorem PtAt.same {H H' : Hp} {v : V} {q : Int × Int} (h : PtAt H v q) (s : Same H H') : PtAt H' v q := by
  obtain ⟨t, e, h1⟩ := h
  exact ⟨t, e, s _ _ h1⟩
theorem pts_in {xs : List V} {n : Nat} {q : Int × Int} (h : q ∈ ptsTo xs n) : ∃ k : Nat, k < n ∧ q.1 = k ∧ xs[k]? = some (.int q.2) := by
  unfold ptsTo at h
  obtain ⟨k, hk, e⟩ := List.mem_filterMap.mp h
  refine ⟨k, List.mem_range.mp hk, ?_⟩
  cases e1 : xs[k]? with
  | none => rw [e1] at e; cases e
  | some v =>
    rw [e1] at e
    cases v with
    | int r => cases e; exact ⟨rfl, rfl⟩
    | _ => cases e
/-- no two in a line or in a row -/
def Dis (qs : List (Int × Int)) : Prop := qs.Pairwise fun a b => a.1 ≠ b.1 ∧ a.2 ≠ b.2
def InB (wd hg : Int) (qs : List (Int × Int)) : Prop := ∀ q ∈ qs, (0 ≤ q.1 ∧ q.1 < wd) ∧ 0 ≤ q.2 ∧ q.2 < hg
theorem pts_inB {xs : List V} {wd hg : Int} (h : isLayV wd hg (some xs) = true) : InB wd hg (pointsL xs) := fun q hq => by
  obtain ⟨k, hk, e1, e2⟩ := pts_in hq
  have hl := lay_len h
  rcases lay_item h (List.mem_of_getElem? e2) with z | ⟨i, z, i0, i1⟩
  · cases z
  · cases z
    exact ⟨⟨by omega, by omega⟩, i0, i1⟩
/-! ### a lay, by its points -/
def ptV (ps : List (Int × Int)) (k : Int) : V := ps.foldl (fun v p => if k = p.1 then .int p.2 else v) .non
theorem ptV_snoc {ps : List (Int × Int)} {p : Int × Int} {k : Int} : ptV (ps ++ [p]) k = if k = p.1 then .int p.2 else ptV ps k := by
  unfold ptV
  rw [List.foldl_append]
  rfl
theorem ptV_or {k : Int} : ∀ (ps : List (Int × Int)) (v : V), ps.foldl (fun v p => if k = p.1 then V.int p.2 else v) v = v ∨ ∃ p ∈ ps, p.1 = k ∧ ps.foldl (fun v p => if k = p.1 then V.int p.2 else v) v = .int p.2
  | [], v => .inl rfl
  | p :: ps, v => by
    rw [List.foldl_cons]
    rcases ptV_or ps (if k = p.1 then V.int p.2 else v) with h | ⟨q, hq, e1, e2⟩
    · by_cases z : k = p.1
      · right
        refine ⟨p, List.mem_cons_self, z.symm, ?_⟩
        rw [h, if_pos z]
      · left
        rw [h, if_neg z]
    · exact .inr ⟨q, List.mem_cons_of_mem _ hq, e1, e2⟩
theorem ptV_cases (ps : List (Int × Int)) (k : Int) : ptV ps k = .non ∨ ∃ p ∈ ps, p.1 = k ∧ ptV ps k = .int p.2 := ptV_or ps .non
theorem ptV_none {ps : List (Int × Int)} {k : Int} (h : ∀ p ∈ ps, p.1 ≠ k) : ptV ps k = .non := by
  rcases ptV_cases ps k with z | ⟨p, hp, e, _⟩
  · exact z
  · exact absurd e (h p hp)
def layOfL (W : Nat) (ps : List (Int × Int)) : List V := (List.range W).map fun (k : Nat) => ptV ps k
theorem layOf_len (W : Nat) (ps : List (Int × Int)) : (layOfL W ps).length = W := by unfold layOfL; rw [List.length_map, List.length_range]
theorem layOf_nil (W : Nat) : layOfL W [] = List.replicate W .non := by
  unfold layOfL
  rw [show (fun (k : Nat) => ptV [] (k : Int)) = fun _ => V.non from rfl, List.map_const', List.length_range]
theorem layOf_at {W : Nat} {ps : List (Int × Int)} {k : Nat} (h : k < W) : (layOfL W ps)[k]? = some (ptV ps k) := by
  unfold layOfL
  rw [List.getElem?_map, List.getElem?_range h]
  rfl
theorem layOf_set {W : Nat} {ps : List (Int × Int)} {p : Int × Int} (h0 : 0 ≤ p.1) : (layOfL W ps).set p.1.toNat (.int p.2) = layOfL W (ps ++ [p]) := by
  refine List.ext_getElem (by rw [List.length_set, layOf_len, layOf_len]) fun i h1 h2 => ?_
  rw [layOf_len] at h2
  have e1 := List.getElem?_eq_some_iff.mp (layOf_at (ps := ps) h2)
  have e2 := List.getElem?_eq_some_iff.mp (layOf_at (ps := ps ++ [p]) h2)
  rw [List.getElem_set]
  obtain ⟨_, e1⟩ := e1
  obtain ⟨_, e2⟩ := e2
  rw [e1, e2, ptV_snoc]
  by_cases z : p.1.toNat = i
  · rw [if_pos z, if_pos (by omega)]
  · rw [if_neg z, if_neg (by omega)]
theorem layOf_mem {W : Nat} {ps : List (Int × Int)} {v : V} (h : v ∈ layOfL W ps) : v = .non ∨ ∃ p ∈ ps, v = .int p.2 := by
  unfold layOfL at h
  obtain ⟨k, _, rfl⟩ := List.mem_map.mp h
  rcases ptV_cases ps (k : Int) with z | ⟨p, hp, _, e⟩
  · exact .inl z
  · exact .inr ⟨p, hp, e⟩
theorem layOf_in {W : Nat} {ps : List (Int × Int)} {r : Int} (h : ∀ p ∈ ps, p.2 ≠ r) : inV (.int r) (layOfL W ps) = false := by
  unfold inV
  rw [List.any_eq_false]
  intro y hy
  rcases layOf_mem hy with rfl | ⟨p, hp, rfl⟩
  · show ¬ false = true
    exact Bool.false_ne_true
  · show ¬ (p.2 == r) = true
    rw [beq_iff_eq]
    exact h p hp
theorem layOf_flat {W : Nat} {ps : List (Int × Int)} : (layOfL W ps).all flatV = true := by
  rw [List.all_eq_true]
  intro y hy
  rcases layOf_mem hy with rfl | ⟨p, hp, rfl⟩ <;> rfl
theorem rep_one' (n : Nat) (v : V) : (List.replicate n [v]).flatten = List.replicate n v := by
  induction n with
  | zero => rfl
  | succ n ih => rw [List.replicate_succ, List.flatten_cons, ih, List.replicate_succ]; rfl
theorem same_updN {H H1 : Hp} {L : Addr} {o : HO} (s : Same H H1) (n : H L = none) : Same H (upd H1 L o) := fun b u h => by
  rw [upd_ne (ne_of_none h n)]
  exact s b u h
section
variable {P : Program} {w : World} {K : PySem.W.Frag} {mg : Str → Option Value} {base : Heap} {aB aL aT : Addr}
/-! ### points -/
abbrev sPoints : Stmt := top 26
def spPoints (K : PySem.W.Frag) : Sp := fun vs H Q _ => ∃ (x : V) (l : Addr) (xs : List V) (wd hg : Int), vs = [x, .ref l] ∧ LayAt K H x l xs wd hg ∧ ∀ (L : Addr) (H' : Hp) (ps : List V), Same H H' → H' L = some (.lst ps) → Paired (PtAt H') ps (pointsL xs) → Q (.ref L) H'
theorem scPoints : FnScope ["board", "lay"] ["board", "lay"] (defScope sPoints) := ⟨rfl, rfl, rfl, by decide +kernel, rfl, by decide +kernel, by decide +kernel⟩
theorem ok_points {f : Addr} {fd : FuncData} (F : Fun K "points" "points" sPoints f fd) (G : Gs mg) (D1 : Def P w K mg base 6 "need_lay" ["board", "lay"] (spNeedLay K)) : FnOk P w K mg base CX0 7 f fd ["board", "lay"] (spPoints K) := by
  refine F.ok scPoints (fun vs H Q E h => ?_) (fun cdv A outer s H vs Q E hr h => ?_)
  · obtain ⟨x, l, xs, wd, hg, rfl, _⟩ := h
    rfl
  · obtain ⟨x, a, xs, wd, hg, rfl, la, q⟩ := h
    refine ⟨_, pss_cons (ps_expr (pe_callD D1 hr (pa_cons (pv 0) (pa_cons (pv 1) pa_nil))))
      (pss_one (ps_ret (pe_comp ["line", "row"] 2 [] (pi_enum rfl G.enumerate (pa_cons (pv 1) pa_nil))
        (fun C s H fp => show PG (blk _ _ _ C s H fp) _ (gTup K 2 (gCons (gName 0) (gCons (gName 1) gNil))) from pg_tup rfl (pgs_cons (pb 0) (pgs_cons (pb 1) pgs_nil)))
        (fun C s H fp => pts_one (pt_cmp (pc_notN (pv 1)))) (fun C s H fp D => pin_emit rfl (pe_tup (pa_cons (pv 0) (pa_cons (pv 1) pa_nil))))))), ?_⟩
    refine tSeq_i ⟨_, rfl, _, rfl, x, .ref a, wd, hg, rfl, la.bd, la.pl, by rw [tupOf_ref la.at_]; exact la.ly, fun H1 s1 => ?_⟩
    dsimp only
    have ha := s1 _ _ la.at_
    have hl := lay_len la.ly
    have hlen : xs.length ≤ 12 := by
      have h2 := la.bd.2.2.1
      omega
    refine ⟨_, rfl, a, rfl, ⟨xs, SqT.of ha⟩, ?_⟩
    refine nest_enum (xs := xs) (fun i ys σ H2 => ∃ v0 v1, σ = [v0, v1] ∧ Same H1 H2 ∧ Paired (PtAt H2) ys (ptsTo xs i) ∧ ys.length ≤ i) ⟨_, _, rfl, Same.refl _, .nil, Nat.zero_le _⟩ (fun i ys σ H2 _ ⟨_, _, _, s2, _⟩ => SqT.of (s2 _ _ ha)) ?_ ?_
    · rintro i v T ys σ H2 hv hT ⟨v0, v1, rfl, s2, pr2, hl2⟩
      have hi : i < xs.length := (List.getElem?_eq_some_iff.mp hv).1
      have sT : Same H2 (upd H2 T (.par [.int (i : Int), v])) := same_upd hT
      refine ⟨T, _, rfl, SqT.ofP upd_same, rfl, _, _, rfl, _, _, rfl, rfl, ?_⟩
      refine ⟨_, rfl, _, rfl, ?_⟩
      generalize hH3 : upd H2 T (HO.par [V.int (i : Int), v]) = H3 at sT
      rcases lay_item la.ly (List.mem_of_getElem? hv) with rfl | ⟨r, rfl, _⟩
      · refine iteF ⟨_, _, rfl, s2.trans sT, ?_, by omega⟩
        rw [ptsTo_succ, hv]
        exact (by simpa [rowV] using Paired.mapP pr2 fun v q' hq => hq.same sT)
      · refine iteT ?_
        refine ⟨_, rfl, _, rfl, (by show 2 ≤ sizeLine; decide), fun t ht => ⟨by rw [sizeLine_eq]; omega, ?_⟩⟩
        have s4 : Same H3 (upd H3 t (.tup [.int (i : Int), .int r])) := same_upd ht
        refine ⟨_, _, rfl, s2.trans (sT.trans s4), ?_, by rw [List.length_append]; simp; omega⟩
        rw [ptsTo_succ, hv]
        exact Paired.snoc (Paired.mapP pr2 fun v q' hq => hq.same (sT.trans s4)) ⟨t, rfl, upd_same⟩
    · rintro ys σ H2 ⟨v0, v1, rfl, s2, pr2, hl2⟩ p hp
      have s4 : Same H2 (upd H2 p (.lst ys)) := same_upd hp
      exact q p _ ys (s1.trans (s2.trans s4)) upd_same (Paired.mapP pr2 fun v q' hq => hq.same s4)
theorem ok_pointsX {f : Addr} {fd : FuncData} (F : Fun K "points" "points" sPoints f fd) (D1 : DefR P w K mg base 6 "need_lay" ["board", "lay"] (spNLx K aB aL)) : FnOk P w K mg base (CXR P w) 7 f fd ["board", "lay"] (spNLx K aB aL) := by
  refine F.okR scPoints (fun vs H Q E h => ?_) (fun cdv A outer s H vs Q E hr h => ?_)
  · obtain ⟨x, y, C, rfl, _⟩ := h
    rfl
  · obtain ⟨x, y, C, rfl, b, q⟩ := h
    refine ⟨_, pss_cons (ps_expr (pe_callR D1 hr (pa_cons (pv 0) (pa_cons (pv 1) pa_nil)))) pss_never, ?_⟩
    exact ⟨x, rfl, y, rfl, x, y, C, rfl, b, q⟩
/-! ### is_point, of a point -/
abbrev sIP : Stmt := top 27
def spIP (K : PySem.W.Frag) : Sp := fun vs H Q _ => ∃ (b : Addr) (v : V) (wd hg : Int) (x : Int × Int), vs = [.ref b, v] ∧ H b = some (.tup [.int wd, .int hg]) ∧ PtAt H v x ∧ (0 ≤ x.1 ∧ x.1 < wd) ∧ (0 ≤ x.2 ∧ x.2 < hg) ∧ ∀ H', Same H H' → Q (.bl true) H'
theorem scIP : FnScope ["board", "thing"] ["board", "thing"] (defScope sIP) := ⟨rfl, rfl, rfl, by decide +kernel, rfl, by decide +kernel, by decide +kernel⟩
theorem ok_ip {f : Addr} {fd : FuncData} (F : Fun K "is_point" "is_point" sIP f fd) (G : Gs mg) (D1 : Def P w K mg base 1 "is_tuple_of" ["thing", "many"] (spTupOf K)) (D2 : Def P w K mg base 2 "is_whole_within" ["thing", "least", "most"] (spWithin K)) :
    FnOk P w K mg base CX0 3 f fd ["board", "thing"] (spIP K) := by
  refine F.ok scIP (fun vs H Q E h => ?_) (fun cdv A outer s H vs Q E hr h => ?_)
  · obtain ⟨b, v, wd, hg, x, rfl, _⟩ := h
    rfl
  · obtain ⟨b, v, wd, hg, ⟨x, y⟩, rfl, hb, ⟨t, rfl, ht⟩, hx, hy, q⟩ := h
    refine ⟨_, pss_one (ps_ret (pe_and (pe_callD D1 (hr.mono (by decide)) (pa_cons (pv 1) (pa_cons pe_int pa_nil)))
      (pe_one (pe_callB call_all rfl G.all boot_all (pa_cons (pe_comp ["at", "side"] 2 [] (pi_zipT rfl G.zip (pa_cons (pv 1) (pa_cons (pv 0) pa_nil)))
        (fun C s H fp => show PG (blk _ _ _ C s H fp) _ (gTup K 2 (gCons (gName 0) (gCons (gName 1) gNil))) from pg_tup rfl (pgs_cons (pb 0) (pgs_cons (pb 1) pgs_nil))) (fun C s H fp => pts_nil)
        (fun C s H fp D => pin_emit rfl (pe_callD D2 (hr.mono (by decide)) (pa_cons (pv 0) (pa_cons pe_int (pa_cons (pe_op op_sub (pv 1) pe_int) pa_nil)))))) pa_nil))))), ?_⟩
    refine ⟨_, rfl, .ref t, 2, rfl, ⟨_, .tup ht⟩, _, rfl, ?_⟩
    rw [tupOf_ref ht]
    show if decide ((2 : Int) = 2) = true then _ else _
    rw [decide_eq_true rfl]
    refine iteT ⟨_, rfl, _, rfl, t, b, rfl, ⟨_, _, SqT.of ht, SqT.of hb⟩, ?_⟩
    refine nest_zipT (xs := [.int x, .int y]) (zs := [.int wd, .int hg]) rfl (fun i zs σ H2 => ∃ v0 v1, σ = [v0, v1] ∧ Same H H2 ∧ zs = List.replicate i (V.bl true)) ⟨_, _, rfl, Same.refl _, rfl⟩ (fun i zs σ H2 _ ⟨_, _, _, s2, _⟩ => ⟨SqT.of (s2 _ _ ht), SqT.of (s2 _ _ hb)⟩) ?_ ?_
    · rintro i u v T zs σ H2 hu hv hT ⟨v0, v1, rfl, s2, rfl⟩
      have sT := same_upd (o := .par [u, v]) hT
      obtain ⟨a, sd, rfl, rfl, h0, h1⟩ : ∃ a sd : Int, u = .int a ∧ v = .int sd ∧ 0 ≤ a ∧ a < sd := by
        match i, hu, hv with
        | 0, hu, hv => cases hu; cases hv; exact ⟨_, _, rfl, rfl, hx.1, hx.2⟩
        | 1, hu, hv => cases hu; cases hv; exact ⟨_, _, rfl, rfl, hy.1, hy.2⟩
      have hi : i < 2 := (List.getElem?_eq_some_iff.mp hu).1
      refine ⟨T, _, rfl, SqT.ofP upd_same, rfl, _, _, rfl, _, _, rfl, rfl, ?_⟩
      refine ⟨_, rfl, _, rfl, _, _, rfl, rfl, .int a, 0, sd - 1, rfl, ⟨_, .int a⟩, by rw [List.length_replicate, sizeLine_eq]; omega, _, _, rfl, s2.trans sT, ?_⟩
      rw [wi_true h0 (by omega), List.replicate_succ']
    · rintro zs σ H2 ⟨v0, v1, rfl, s2, rfl⟩ p hp
      refine ⟨p, List.replicate 2 true, rfl, SqL.of upd_same, ?_⟩
      exact q _ (s2.trans (same_upd hp))
/-! ### lay_of, of points that make a lay -/
abbrev sLO : Stmt := top 28
def spLO (K : PySem.W.Frag) : Sp := fun vs H Q _ => ∃ (b L : Addr) (ps : List V) (qs : List (Int × Int)) (wd hg : Int), vs = [.ref b, .ref L] ∧ BoardAt H (.ref b) wd hg ∧ H L = some (.lst ps) ∧ Paired (PtAt H) ps qs ∧ InB wd hg qs ∧ Dis qs ∧ qs.length ≤ 12 ∧ ∀ (t : Addr) H', Same H H' → H' t = some (.tup (layOfL wd.toNat qs)) → Q (.ref t) H'
theorem scLO : FnScope ["board", "points", "rows", "line", "row"] ["board", "points"] (defScope sLO) := ⟨rfl, rfl, rfl, by decide +kernel, rfl, by decide +kernel, by decide +kernel⟩
theorem ok_lo {f : Addr} {fd : FuncData} (F : Fun K "lay_of" "lay_of" sLO f fd) (G : Gs mg) (D1 : Def P w K mg base 4 "need_board" ["board"] (spNeedBoard K)) (D2 : Def P w K mg base 3 "is_point" ["board", "thing"] (spIP K)) : FnOk P w K mg base CX0 5 f fd ["board", "points"] (spLO K) := by
  refine F.ok scLO (fun vs H Q E h => ?_) (fun cdv A outer s H vs Q E hr h => ?_)
  · obtain ⟨b, L, ps, qs, wd, hg, rfl, _⟩ := h
    rfl
  · obtain ⟨b, L, ps, qs, wd, hg, rfl, bd, hL, pr, inb, dis, hlen, q⟩ := h
    refine ⟨_, pss_cons (ps_expr (pe_callD D1 hr (pa_cons (pv 0) pa_nil)))
      (pss_cons (ps_if (PW.pt (pw_or (pt_not (pt_val (pe_callB (call_isinst (c := "list")) rfl G.isinstance boot_isinstance (pa_cons (pv 1) (pa_cons (pe_bltn (v := .ty "list") rfl G.list boot_list rfl) pa_nil)))))
          (pw_or1 (pt_not (pt_val (pe_callB call_all rfl G.all boot_all (pa_cons (pe_comp ["point", "board"] 1 [0] (pi_list (pv 1)) (fun C s H fp => pb 0) (fun C s H fp => pts_nil)
            (fun C s H fp D => pin_emit rfl (pe_callD D2 (hr.mono (by decide)) (pa_cons (pv 1) (pa_cons (pv 0) pa_nil))))) pa_nil))))))) pss_never pss_nil)
      (pss_cons (ps_set (i := 2) scLO.nd rfl (Or.inl rfl) (pe_op op_rep (pe_lst (pa_cons pe_non pa_nil)) (pe_ix ix_tup (pv 0) pe_int (fun _ _ => rfl))))
      (pss_cons (ps_for PassesOwn.never rfl (pi_list (pv 1)) (pg_tup rfl (pgs_cons (pg_name (i := 3) scLO.nd rfl (Or.inl rfl)) (pgs_cons (pg_name (i := 4) scLO.nd rfl (Or.inl rfl)) pgs_nil)))
        (pss_cons (ps_if (PW.pt (pw_or (pt_cmp (pc_notN (pe_ix ix_list (pv 2) (pv 3) (fun _ _ => rfl)))) (pw_or1 (pt_cmpR op_in_seq (pv 4) (pv 2) rfl)))) pss_never pss_nil)
        (pss_one (ps_asg (pv 4) (pg_sub (pv 2) (pv 3) set_list)))))
      (pss_one (ps_ret (pe_callTy call_tuple_of rfl G.tuple boot_tuple (pa_cons (pv 2) pa_nil))))))), ?_⟩
    obtain ⟨_, w1, w12, g1, g12⟩ := id bd
    obtain ⟨b', eb, hb⟩ := tupOf_some bd.1
    cases eb
    have lp : ps.length = qs.length := Paired.length pr
    refine tSeq_i ⟨_, rfl, .ref b, wd, hg, rfl, bd, fun H1 s1 => ?_⟩
    dsimp only
    have hL1 := s1 _ _ hL
    have hb1 := s1 _ _ hb
    refine tSeq_i ⟨_, rfl, _, _, _, rfl, .lst hL1, (show _ = some true from rfl), _, rfl, iteF ?_⟩
    refine ⟨_, rfl, L, rfl, ⟨ps, SqL.of hL1⟩, ?_⟩
    refine nest_list (xs := ps) (fun i zs σ H2 => ∃ v0, σ = [v0, some (.ref b)] ∧ Same H1 H2 ∧ zs = List.replicate i (V.bl true)) ⟨_, rfl, Same.refl _, rfl⟩ (fun i zs σ H2 _ ⟨_, _, s2, _⟩ => SqL.of (s2 _ _ hL1)) ?_ ?_
    · rintro i v zs σ H2 hv ⟨v0, rfl, s2, rfl⟩
      obtain ⟨x, hx, px⟩ := pr_at pr hv
      obtain ⟨hx1, hx2⟩ := inb x (List.mem_of_getElem? hx)
      have hi : i < ps.length := (List.getElem?_eq_some_iff.mp hv).1
      refine ⟨_, rfl, _, rfl, b, v, wd, hg, x, rfl, s2 _ _ hb1, px.same (s1.trans s2), hx1, hx2, fun H3 s3 => ⟨by rw [List.length_replicate, sizeLine_eq]; omega, _, rfl, s2.trans s3, ?_⟩⟩
      rw [List.replicate_succ']
    rintro zs σ H2 ⟨v0, rfl, s2, rfl⟩ p hp
    refine ⟨p, List.replicate ps.length true, rfl, ?_, ?_⟩
    · rw [List.map_replicate]
      exact SqL.of upd_same
    have ea : (List.replicate ps.length true).all id = true := by simp
    rw [ea]
    refine ⟨_, rfl, iteF (tNext_i ?_)⟩
    dsimp only
    have s3 := s2.trans (same_upd (o := .lst (List.replicate ps.length (V.bl true))) hp)
    generalize upd H2 p (.lst (List.replicate ps.length (V.bl true))) = H3 at s3
    have hb3 := s3 _ _ hb1
    have hL3 := s3 _ _ hL1
    refine tSeq_i (tAsg_i ⟨(by show 1 ≤ sizeLine; decide), fun l0 h0 => ?_⟩)
    have s4 := same_upd (o := .lst [V.non]) h0
    have e4 : upd H3 l0 (.lst [V.non]) l0 = some (.lst [V.non]) := upd_same
    generalize upd H3 l0 (HO.lst [V.non]) = H4 at s4 e4
    refine ⟨_, rfl, b, _, _, _, rfl, rfl, SqT.of (s4 _ _ hb3), at0, l0, wd, _, rfl, rfl, e4, by omega, by omega, (by rw [sizeLine_eq]; show 1 * wd.toNat ≤ _; omega), fun R hR => gName_i ?_⟩
    dsimp only [List.set]
    have er : (List.replicate wd.toNat [V.non]).flatten = layOfL wd.toNat [] := by rw [rep_one', layOf_nil]
    rw [er]
    have hL4 := s4 _ _ hL3
    have s14 := s3.trans s4
    have prH : Paired (PtAt H4) ps qs := Paired.mapP pr fun v q' hq => hq.same (s1.trans s14)
    refine tSeq_i ⟨_, rfl, L, rfl, ⟨ps, SqL.of ((same_upd hR) _ _ hL4)⟩, ?_⟩
    refine for_list (xs := ps) (fun i σ H5 => ∃ v3 v4, σ = [some (.ref b), some (.ref L), some (.ref R), v3, v4] ∧ Same H4 H5 ∧ H5 R = some (.lst (layOfL wd.toNat (qs.take i)))) ⟨_, _, rfl, same_upd hR, upd_same⟩ (fun i σ H5 _ ⟨_, _, _, s5, _⟩ => SqL.of (s5 _ _ hL4)) ?_ ?_
    · rintro i v σ H5 hv ⟨v3, v4, rfl, s5, e5⟩
      obtain ⟨x, hx, px⟩ := pr_at prH hv
      obtain ⟨t, rfl, ht⟩ := px.same s5
      obtain ⟨⟨x0, x1⟩, y0, y1⟩ := inb x (List.mem_of_getElem? hx)
      have hi : i < qs.length := (List.getElem?_eq_some_iff.mp hx).1
      have far : ∀ p ∈ qs.take i, p.1 ≠ x.1 ∧ p.2 ≠ x.2 := fun p hp => by
        obtain ⟨j, hj, e⟩ := List.getElem_of_mem hp
        rw [List.length_take] at hj
        rw [List.getElem_take] at e
        have := List.pairwise_iff_getElem.mp dis j i (by omega) hi (by omega)
        rw [e, (List.getElem?_eq_some_iff.mp hx).2] at this
        exact this
      refine ⟨t, _, rfl, SqT.of ht, rfl, _, _, rfl, _, _, rfl, rfl, ?_⟩
      dsimp only [List.set]
      have ek : x.1 = (x.1.toNat : Int) := by omega
      have hat : atI (layOfL wd.toNat (qs.take i)) x.1 = some .non := by
        rw [ek]
        refine atI_nat ?_
        rw [layOf_at (by omega), ← ek, ptV_none fun p hp => (far p hp).1]
      refine tSeq_i ⟨_, rfl, _, rfl, R, _, _, _, rfl, rfl, SqL.of e5, hat, ?_⟩
      refine ⟨_, rfl, iteF ?_⟩
      refine ⟨_, rfl, _, rfl, R, _, rfl, .inl (SqL.of e5), rfl, layOf_flat, ?_⟩
      have zi : inV (.int x.2) (layOfL wd.toNat (qs.take i)) = false := layOf_in fun p hp => (far p hp).2
      rw [if_neg Bool.false_ne_true, zi]
      refine ⟨_, rfl, iteF (tNext_i ?_)⟩
      dsimp only
      refine tAsg_i ⟨_, rfl, _, rfl, _, rfl, R, _, x.1, x.1.toNat, rfl, rfl, e5, ixN_of x0 (by rw [layOf_len]; omega), ?_⟩
      refine ⟨_, _, rfl, same_updN s5 hR, ?_⟩
      rw [upd_same, layOf_set x0, List.take_add_one, hx]
      rfl
    · rintro σ H5 ⟨v3, v4, rfl, s5, e5⟩
      rw [lp, List.take_length] at e5
      refine ⟨_, rfl, R, _, rfl, .inl ⟨SqL.of e5, fun t ht => ?_⟩⟩
      exact q t _ (s1.trans (s14.trans (s5.trans (same_upd ht)))) upd_same
end
end U
-- part K11k
set_option Elab.async false
set_option linter.all false
set_option maxRecDepth 100000
set_option maxHeartbeats 40000000
namespace U
open PySem L2 PyProof.Rows
theorem lay_iff {xs : List V} {wd hg : Int} : isLayV wd hg (some xs) = true ↔ (xs.length : Int) = wd ∧ (∀ v ∈ xs, v = .non ∨ wholeIn v 0 (hg - 1) = true) ∧ xs.Pairwise fun a b => a = b → a = .non := by
  have pw : (rowsOf xs).Nodup ↔ xs.Pairwise fun a b => a = b → a = .non := by
    unfold rowsOf List.Nodup
    rw [List.pairwise_filter]
    constructor
    · intro h
      refine h.imp fun {a b} h e => ?_
      by_cases z : a = .non
      · exact z
      · exact absurd e (h (by simp [z]) (by rw [← e]; simp [z]))
    · intro h
      refine h.imp fun {a b} h p1 p2 e => ?_
      rw [h e] at p1
      simp at p1
  have al : ((rowsOf xs).all fun r => wholeIn r 0 (hg - 1)) = true ↔ ∀ v ∈ xs, v = .non ∨ wholeIn v 0 (hg - 1) = true := by
    rw [List.all_eq_true]
    unfold rowsOf
    constructor
    · intro h v hv
      by_cases z : v = .non
      · exact .inl z
      · exact .inr (h v (List.mem_filter.mpr ⟨hv, by simp [z]⟩))
    · intro h v hv
      obtain ⟨h1, h2⟩ := List.mem_filter.mp hv
      rcases h v h1 with z | z
      · rw [z] at h2; simp at h2
      · exact z
  unfold isLayV
  rw [Bool.and_eq_true, Bool.and_eq_true, decide_eq_true_iff, decide_eq_true_iff, al, pw, and_assoc]
theorem pts_dis {xs : List V} {wd hg : Int} (h : isLayV wd hg (some xs) = true) : ∀ n, Dis (ptsTo xs n)
  | 0 => .nil
  | n + 1 => by
    rw [ptsTo_succ]
    unfold Dis
    rw [List.pairwise_append]
    refine ⟨pts_dis h n, ?_, fun a ha b hb => ?_⟩
    · cases ((xs[n]?).bind rowV).map fun r => ((n : Int), r) <;> simp
    · obtain ⟨k, hk, e1, e2⟩ := pts_in ha
      cases e3 : xs[n]? with
      | none => rw [e3] at hb; cases hb
      | some v =>
        rw [e3] at hb
        cases v with
        | int r =>
          obtain rfl : b = ((n : Int), r) := List.mem_singleton.mp hb
          refine ⟨by show a.1 ≠ (n : Int); omega, fun z => ?_⟩
          obtain ⟨_, _, h3⟩ := lay_iff.mp h
          obtain ⟨k1, g1⟩ := List.getElem?_eq_some_iff.mp e2
          obtain ⟨n1, g2⟩ := List.getElem?_eq_some_iff.mp e3
          have := List.pairwise_iff_getElem.mp h3 k n k1 n1 hk (by rw [g1, g2, z])
          rw [g1] at this
          cases this
        | _ => cases hb
theorem pts_len (xs : List V) : (pointsL xs).length ≤ xs.length := by
  have := List.length_filterMap_le (fun (l : Nat) => ((xs[l]?).bind rowV).map fun r => ((l : Int), r)) (List.range xs.length)
  rw [List.length_range] at this
  exact this
theorem tA_in {n x : Int} {l : Bool} (h0 : 0 ≤ x) (h1 : x < n) : 0 ≤ tA n l x ∧ tA n l x < n := by
  unfold tA
  cases l
  · rw [if_neg Bool.false_ne_true]; exact ⟨h0, h1⟩
  · rw [if_pos rfl]; omega
theorem tA_ne {n x y : Int} {l : Bool} (h : x ≠ y) : tA n l x ≠ tA n l y := by
  unfold tA
  cases l
  · rw [if_neg Bool.false_ne_true, if_neg Bool.false_ne_true]; exact h
  · rw [if_pos rfl, if_pos rfl]; omega
theorem tpt_in {wd hg : Int} {q : Bool × Bool × Bool} {ps : List (Int × Int)} (h : InB wd hg ps) : InB (tW wd hg q) (tH wd hg q) (ps.map (tpt wd hg q)) := fun x hx => by
  obtain ⟨y, hy, rfl⟩ := List.mem_map.mp hx
  obtain ⟨⟨a0, a1⟩, b0, b1⟩ := h y hy
  obtain ⟨o, l, r⟩ := q
  have z1 := tA_in (l := l) a0 a1
  have z2 := tA_in (l := r) b0 b1
  cases o
  · exact ⟨z1, z2⟩
  · exact ⟨z2, z1⟩
theorem tpt_dis {wd hg : Int} {q : Bool × Bool × Bool} {ps : List (Int × Int)} (h : Dis ps) : Dis (ps.map (tpt wd hg q)) := by
  unfold Dis
  rw [List.pairwise_map]
  refine List.Pairwise.imp (fun {a b} hab => ?_) h
  obtain ⟨o, l, r⟩ := q
  have z1 := tA_ne (n := wd) (l := l) hab.1
  have z2 := tA_ne (n := hg) (l := r) hab.2
  cases o
  · exact ⟨z1, z2⟩
  · exact ⟨z2, z1⟩
section
variable {P : Program} {w : World} {K : PySem.W.Frag} {mg : Str → Option Value} {base : Heap} {aB aL aT : Addr}
/-! ### turned -/
abbrev turnedL (wd hg : Int) (q : Bool × Bool × Bool) (xs : List V) : List V := layOfL (tW wd hg q).toNat ((pointsL xs).map (tpt wd hg q))
abbrev sTu : Stmt := top 34
def spTu (K : PySem.W.Frag) : Sp := fun vs H Q _ => ∃ (b l t : Addr) (xs : List V) (wd hg : Int) (q : Bool × Bool × Bool), vs = [.ref b, .ref l, .ref t] ∧ LayAt K H (.ref b) l xs wd hg ∧ H t = some (.tup (tv q)) ∧ ∀ (u : Addr) H', Same H H' → H' u = some (.tup (turnedL wd hg q xs)) → Q (.ref u) H'
theorem scTu : FnScope ["board", "lay", "turn", "elder", "come"] ["board", "lay", "turn"] (defScope sTu) := ⟨rfl, rfl, rfl, by decide +kernel, rfl, by decide +kernel, by decide +kernel⟩
theorem ok_tu {f : Addr} {fd : FuncData} (F : Fun K "turned" "turned" sTu f fd) (D1 : Def P w K mg base 7 "points" ["board", "lay"] (spPoints K)) (D2 : Def P w K mg base 5 "turned_board" ["board", "turn"] spTB) (D3 : Def P w K mg base 5 "lay_of" ["board", "points"] (spLO K)) (D4 : Def P w K mg base 1 "turned_point" ["board", "point", "turn"] spTP) :
    FnOk P w K mg base CX0 8 f fd ["board", "lay", "turn"] (spTu K) := by
  refine F.ok scTu (fun vs H Q E h => ?_) (fun cdv A outer s H vs Q E hr h => ?_)
  · obtain ⟨b, l, t, xs, wd, hg, q, rfl, _⟩ := h
    rfl
  · obtain ⟨b, l, t, xs, wd, hg, x, rfl, la, ht, q⟩ := h
    refine ⟨_, pss_cons (ps_set (i := 3) scTu.nd rfl (Or.inl rfl) (pe_callD D1 hr (pa_cons (pv 0) (pa_cons (pv 1) pa_nil))))
      (pss_cons (ps_set (i := 4) scTu.nd rfl (Or.inl rfl) (pe_callD D2 (hr.mono (by decide)) (pa_cons (pv 0) (pa_cons (pv 2) pa_nil))))
      (pss_one (ps_ret (pe_callD D3 (hr.mono (by decide)) (pa_cons (pv 4) (pa_cons (pe_comp ["point", "board", "turn"] 1 [0, 2] (pi_list (pv 3)) (fun C s H fp => pb 0) (fun C s H fp => pts_nil)
        (fun C s H fp D => pin_emit rfl (pe_callD D4 (hr.mono (by decide)) (pa_cons (pv 1) (pa_cons (pv 0) (pa_cons (pv 2) pa_nil)))))) pa_nil)))))), ?_⟩
    refine tSeq_i (tAsg_i ⟨_, rfl, _, rfl, .ref b, l, xs, wd, hg, rfl, la, fun L H1 ps s1 e1 pr => gName_i ?_⟩)
    dsimp only [List.set]
    have ht1 := s1 _ _ ht
    refine tSeq_i (tAsg_i ⟨_, rfl, _, rfl, b, t, wd, hg, x, rfl, la.bd.same s1, ht1, fun c H2 s2 bd2 => gName_i ?_⟩)
    dsimp only [List.set]
    obtain ⟨b', eb, hb⟩ := tupOf_some la.bd.1
    cases eb
    have s12 := s1.trans s2
    have e2 := s2 _ _ e1
    have pr2 : Paired (PtAt H2) ps (pointsL xs) := Paired.mapP pr fun v q' hq => hq.same s2
    have lp : ps.length = (pointsL xs).length := Paired.length pr
    have l12 : (pointsL xs).length ≤ 12 := by
      have h1 := pts_len xs
      have h2 := lay_len la.ly
      have h3 := la.bd.2.2.1
      omega
    refine ⟨_, rfl, _, rfl, L, rfl, ⟨ps, SqL.of e2⟩, ?_⟩
    refine nest_list (xs := ps) (fun i zs σ H3 => ∃ v0, σ = [v0, some (.ref b), some (.ref t)] ∧ Same H2 H3 ∧ Paired (PtAt H3) zs (((pointsL xs).take i).map (tpt wd hg x))) ⟨_, rfl, Same.refl _, .nil⟩ (fun i zs σ H3 _ ⟨_, _, s3, _⟩ => SqL.of (s3 _ _ e2)) ?_ ?_
    · rintro i v zs σ H3 hv ⟨v0, rfl, s3, pr3⟩
      obtain ⟨y, hy, py⟩ := pr_at pr2 hv
      obtain ⟨t', rfl, ht'⟩ := py.same s3
      have hi : i < ps.length := (List.getElem?_eq_some_iff.mp hv).1
      have lz : zs.length ≤ 12 := by
        have := Paired.length pr3
        rw [List.length_map, List.length_take] at this
        omega
      refine ⟨_, rfl, _, rfl, _, rfl, b, t', t, wd, hg, y, x, rfl, (s12.trans s3) _ _ hb, ht', (s2.trans s3) _ _ ht1, fun r H4 s4 e4 => ⟨by rw [sizeLine_eq]; omega, _, rfl, s3.trans s4, ?_⟩⟩
      rw [List.take_add_one, hy, List.map_append]
      exact Paired.snoc (Paired.mapP pr3 fun v q' hq => hq.same s4) ⟨r, rfl, e4⟩
    · rintro zs σ H3 ⟨v0, rfl, s3, pr3⟩ p hp
      rw [lp, List.take_length] at pr3
      have s4 := same_upd (o := .lst zs) hp
      refine ⟨c, p, zs, _, tW wd hg x, tH wd hg x, rfl, bd2.same (s3.trans s4), upd_same, Paired.mapP pr3 fun v q' hq => hq.same s4, tpt_in (pts_inB la.ly), tpt_dis (pts_dis la.ly _), by rw [List.length_map]; exact l12, fun u H5 s5 e5 => ?_⟩
      exact q u H5 (s12.trans (s3.trans (s4.trans s5))) e5
def BadTu (K : PySem.W.Frag) (aB aL aT : Addr) (H : Hp) (x y z : V) (C : Addr) : Prop := BadL K aB aL H x y C ∨ (C = aT ∧ (∃ (l : Addr) (xs : List V) (wd hg : Int), y = .ref l ∧ LayAt K H x l xs wd hg) ∧ BadTr K H z)
def spTux (K : PySem.W.Frag) (aB aL aT : Addr) : Sp := fun vs H _ E => ∃ x y z C, vs = [x, y, z] ∧ BadTu K aB aL aT H x y z C ∧ ∀ e H', Same H H' → E (.ref e) (some C) H'
theorem ok_tuX {f : Addr} {fd : FuncData} (F : Fun K "turned" "turned" sTu f fd) (D1 : Def P w K mg base 7 "points" ["board", "lay"] (spPoints K)) (R1 : DefR P w K mg base 7 "points" ["board", "lay"] (spNLx K aB aL)) (R2 : DefR P w K mg base 5 "turned_board" ["board", "turn"] (spTBx K aB aT)) : FnOk P w K mg base (CXR P w) 8 f fd ["board", "lay", "turn"] (spTux K aB aL aT) := by
  refine F.okR scTu (fun vs H Q E h => ?_) (fun cdv A outer s H vs Q E hr h => ?_)
  · obtain ⟨x, y, z, C, rfl, _⟩ := h
    rfl
  · obtain ⟨x, y, z, C, rfl, b, q⟩ := h
    rcases b with b | ⟨rfl, ⟨l, xs, wd, hg, rfl, la⟩, b⟩
    · refine ⟨_, pss_cons (ps_set (i := 3) scTu.nd rfl (Or.inl rfl) (pe_callR R1 hr (pa_cons (pv 0) (pa_cons (pv 1) pa_nil)))) pss_never, ?_⟩
      exact ⟨x, rfl, y, rfl, x, y, C, rfl, b, q⟩
    · refine ⟨_, pss_cons (ps_set (i := 3) scTu.nd rfl (Or.inl rfl) (pe_callD D1 hr (pa_cons (pv 0) (pa_cons (pv 1) pa_nil))))
        (pss_cons (ps_set (i := 4) scTu.nd rfl (Or.inl rfl) (pe_callR R2 (hr.mono (by decide)) (pa_cons (pv 0) (pa_cons (pv 2) pa_nil)))) pss_never), ?_⟩
      refine tSeq_i (tAsg_i ⟨_, rfl, _, rfl, x, l, xs, wd, hg, rfl, la, fun L H1 ps s1 e1 pr => gName_i ?_⟩)
      dsimp only [List.set]
      exact ⟨x, rfl, z, rfl, x, z, _, rfl, .inr ⟨rfl, ⟨wd, hg, la.bd.same s1⟩, b.same s1⟩, fun e H' s' => q e H' (s1.trans s')⟩
/-! ### turns_together -/
abbrev tog (q p : Bool × Bool × Bool) : Bool × Bool × Bool := (xor q.1 p.1, xor q.2.1 (if q.1 = true then p.2.2 else p.2.1), xor q.2.2 (if q.1 = true then p.2.1 else p.2.2))
theorem xor_bi (a b : Bool) : Builtin.bitXor (bi a) (bi b) = bi (xor a b) := by cases a <;> cases b <;> decide
abbrev sTT : Stmt := top 35
def spTT (K : PySem.W.Frag) : Sp := fun vs H Q _ => ∃ (t u : Addr) (q p : Bool × Bool × Bool), vs = [.ref t, .ref u] ∧ H t = some (.tup (tv q)) ∧ H u = some (.tup (tv p)) ∧ ∀ (r : Addr) H', Same H H' → H' r = some (.tup (tv (tog q p))) → Q (.ref r) H'
theorem scTT : FnScope ["turn", "other", "over", "lines", "rows", "more_lines", "more_rows"] ["turn", "other"] (defScope sTT) := ⟨rfl, rfl, rfl, by decide +kernel, rfl, by decide +kernel, by decide +kernel⟩
theorem ok_tt {f : Addr} {fd : FuncData} (F : Fun K "turns_together" "turns_together" sTT f fd) (D1 : Def P w K mg base 4 "need_turn" ["turn"] (spNT K)) : FnOk P w K mg base CX0 5 f fd ["turn", "other"] (spTT K) := by
  refine F.ok scTT (fun vs H Q E h => ?_) (fun cdv A outer s H vs Q E hr h => ?_)
  · obtain ⟨t, u, q, p, rfl, _⟩ := h
    rfl
  · obtain ⟨t, u, ⟨o, l, r⟩, ⟨o', l', r'⟩, rfl, ht, hu, q⟩ := h
    refine ⟨_, pss_cons (ps_expr (pe_callD D1 hr (pa_cons (pv 0) pa_nil)))
      (pss_cons (ps_expr (pe_callD D1 hr (pa_cons (pv 1) pa_nil)))
      (pss_cons (ps_asg (pv 0) (pg_tup rfl (pgs_cons (pg_name (i := 2) scTT.nd rfl (Or.inl rfl)) (pgs_cons (pg_name (i := 3) scTT.nd rfl (Or.inl rfl)) (pgs_cons (pg_name (i := 4) scTT.nd rfl (Or.inl rfl)) pgs_nil)))))
      (pss_cons (ps_asg (pe_ifExp (pt_cmpR op_eq (pv 2) pe_int (nomark _)) (pe_tup (pa_cons (pe_ix ix_tup (pv 1) pe_int (fun _ _ => rfl)) (pa_cons (pe_ix ix_tup (pv 1) pe_int (fun _ _ => rfl)) pa_nil))) (pe_tup (pa_cons (pe_ix ix_tup (pv 1) pe_int (fun _ _ => rfl)) (pa_cons (pe_ix ix_tup (pv 1) pe_int (fun _ _ => rfl)) pa_nil))))
        (pg_tup rfl (pgs_cons (pg_name (i := 5) scTT.nd rfl (Or.inl rfl)) (pgs_cons (pg_name (i := 6) scTT.nd rfl (Or.inl rfl)) pgs_nil))))
      (pss_one (ps_ret (pe_tup (pa_cons (pe_op op_xor (pv 2) (pe_ix ix_tup (pv 1) pe_int (fun _ _ => rfl))) (pa_cons (pe_op op_xor (pv 3) (pv 5)) (pa_cons (pe_op op_xor (pv 4) (pv 6)) pa_nil))))))))), ?_⟩
    refine tSeq_i ⟨_, rfl, .ref t, rfl, tv_pl ht, by rw [tupOf_ref ht]; exact tv_turn _, fun H1 s1 => ?_⟩
    dsimp only
    have hu1 := s1 _ _ hu
    refine tSeq_i ⟨_, rfl, .ref u, rfl, tv_pl hu1, by rw [tupOf_ref hu1]; exact tv_turn _, fun H2 s2 => ?_⟩
    dsimp only
    have s12 := s1.trans s2
    have ht2 := s12 _ _ ht
    have hu2 := s12 _ _ hu
    refine tSeq_i (tAsg_i ⟨_, rfl, t, _, rfl, SqT.of ht2, rfl, _, _, rfl, _, _, rfl, _, _, rfl, rfl, ?_⟩)
    dsimp only [List.set]
    refine tSeq_cut (fun σ H3 => ∃ a b : Bool, σ = [some (.ref t), some (.ref u), some (.int (bi o)), some (.int (bi l)), some (.int (bi r)), some (.int (bi a)), some (.int (bi b))] ∧ Same H2 H3 ∧ (xor o o', xor l a, xor r b) = tog (o, l, r) (o', l', r')) ?_ ?_
    · rintro σ H3 ⟨a, b, rfl, s3, z⟩
      refine ⟨_, rfl, _, rfl, u, _, _, _, rfl, rfl, SqT.of (s3 _ _ hu2), rfl, _, _, rfl, rfl, _, rfl, _, rfl, _, _, rfl, rfl, _, rfl, _, rfl, _, _, rfl, rfl, (by show 3 ≤ sizeLine; decide), fun r' hr' => ?_⟩
      refine q r' _ (s12.trans (s3.trans (same_upd hr'))) ?_
      rw [upd_same, ← z]
      dsimp only
      rw [xor_bi, xor_bi, xor_bi]
    · intro D' hD
      refine tAsg_i ⟨_, rfl, rfl, _, rfl, ?_⟩
      rw [bi_eq1]
      cases o with
      | true => exact iteT ⟨_, rfl, u, _, _, _, rfl, rfl, SqT.of hu2, rfl, _, rfl, u, _, _, _, rfl, rfl, SqT.of hu2, rfl, (by show 2 ≤ sizeLine; decide), fun c hc => ⟨c, _, rfl, SqT.of upd_same, rfl, _, _, rfl, _, _, rfl, rfl, hD _ _ ⟨r', l', rfl, same_upd hc, rfl⟩⟩⟩
      | false => exact iteF ⟨_, rfl, u, _, _, _, rfl, rfl, SqT.of hu2, rfl, _, rfl, u, _, _, _, rfl, rfl, SqT.of hu2, rfl, (by show 2 ≤ sizeLine; decide), fun c hc => ⟨c, _, rfl, SqT.of upd_same, rfl, _, _, rfl, _, _, rfl, rfl, hD _ _ ⟨l', r', rfl, same_upd hc, rfl⟩⟩⟩
def BadTT (K : PySem.W.Frag) (H : Hp) (x y : V) : Prop := BadTr K H x ∨ ((∃ (t : Addr) (q : Bool × Bool × Bool), x = .ref t ∧ H t = some (.tup (tv q))) ∧ BadTr K H y)
def spTTx (K : PySem.W.Frag) (aT : Addr) : Sp := fun vs H _ E => ∃ x y, vs = [x, y] ∧ BadTT K H x y ∧ ∀ e H', Same H H' → E (.ref e) (some aT) H'
theorem ok_ttX {f : Addr} {fd : FuncData} (F : Fun K "turns_together" "turns_together" sTT f fd) (D1 : Def P w K mg base 4 "need_turn" ["turn"] (spNT K)) (R1 : DefR P w K mg base 4 "need_turn" ["turn"] (spNTx K aT)) : FnOk P w K mg base (CXR P w) 5 f fd ["turn", "other"] (spTTx K aT) := by
  refine F.okR scTT (fun vs H Q E h => ?_) (fun cdv A outer s H vs Q E hr h => ?_)
  · obtain ⟨x, y, rfl, _⟩ := h
    rfl
  · obtain ⟨x, y, rfl, b, q⟩ := h
    rcases b with b | ⟨⟨t, p, rfl, ht⟩, b⟩
    · refine ⟨_, pss_cons (ps_expr (pe_callR R1 hr (pa_cons (pv 0) pa_nil))) pss_never, ?_⟩
      exact ⟨x, rfl, x, rfl, b, q⟩
    · refine ⟨_, pss_cons (ps_expr (pe_callD D1 hr (pa_cons (pv 0) pa_nil))) (pss_cons (ps_expr (pe_callR R1 hr (pa_cons (pv 1) pa_nil))) pss_never), ?_⟩
      refine tSeq_i ⟨_, rfl, .ref t, rfl, tv_pl ht, by rw [tupOf_ref ht]; exact tv_turn _, fun H1 s1 => ?_⟩
      dsimp only
      exact ⟨y, rfl, y, rfl, b.same s1, fun e H' s' => q e H' (s1.trans s')⟩
end
end U
-- part K11l
set_option Elab.async false
set_option linter.all false
set_option maxRecDepth 100000
set_option maxHeartbeats 40000000
namespace U
open PySem L2 PyProof.Rows
theorem bi_of {r : Int} (h0 : 0 ≤ r) (h2 : r < 2) : ∃ b, r = bi b := by
  rcases (by omega : r = 0 ∨ r = 1) with rfl | rfl
  · exact ⟨false, rfl⟩
  · exact ⟨true, rfl⟩
theorem at_bi {a b : V} {l : Bool} : atI [a, b] (bi l) = some (if l = true then b else a) := by cases l <;> rfl
def kvsOf (ps : List (Int × Int)) : List (Key × V) := ps.map fun p => (Sum.inl p.1, .int p.2)
theorem merge_pt {k : Int} : ∀ (ps : List (Int × Int)) (kvs : List (Key × V)) (v : V), (valV kvs (Sum.inl k)).getD .non = v → (valV (mergeK kvs (kvsOf ps)) (Sum.inl k)).getD .non = ps.foldl (fun v p => if k = p.1 then V.int p.2 else v) v
  | [], _, _, h => h
  | p :: ps, kvs, v, h => by
    refine merge_pt ps (putK kvs (Sum.inl p.1) (.int p.2)) (if k = p.1 then V.int p.2 else v) ?_
    rw [valV_put]
    by_cases z : k = p.1
    · rw [if_pos z, if_pos (by rw [z])]; rfl
    · rw [if_neg z, if_neg (fun e => z (Sum.inl.inj e))]; exact h
section
variable {P : Program} {w : World} {K : PySem.W.Frag} {mg : Str → Option Value} {base : Heap}
/-! ### a drawn turn -/
abbrev sLT : Stmt := top 45
def spLT : Sp := fun vs H Q _ => ∃ p : Addr, vs = [.ref p] ∧ StAt H p ∧ ∀ (t : Addr) H' (q : Bool × Bool × Bool), SameX p H H' → StAt H' p → H' t = some (.tup (tv q)) → Q (.ref t) H'
theorem scLT : FnScope ["_law_state_here"] ["_law_state_here"] (defScope sLT) := ⟨rfl, rfl, rfl, by decide +kernel, rfl, by decide +kernel, by decide +kernel⟩
theorem ok_lt {f : Addr} {fd : FuncData} (F : Fun K "_law_turn" "_law_turn" sLT f fd) (D1 : Def P w K mg base 1 "_law_take" ["_law_state_here", "_law_many"] spTake) : FnOk P w K mg base CX0 2 f fd ["_law_state_here"] spLT := by
  refine F.ok scLT (fun vs H Q E h => ?_) (fun cdv A outer s H vs Q E hr h => ?_)
  · obtain ⟨p, rfl, _⟩ := h
    rfl
  · obtain ⟨p, rfl, st, q⟩ := h
    refine ⟨_, pss_one (ps_ret (pe_tup (pa_cons (pe_callD D1 hr (pa_cons (pv 0) (pa_cons pe_int pa_nil))) (pa_cons (pe_callD D1 hr (pa_cons (pv 0) (pa_cons pe_int pa_nil))) (pa_cons (pe_callD D1 hr (pa_cons (pv 0) (pa_cons pe_int pa_nil))) pa_nil))))), ?_⟩
    refine ⟨_, rfl, p, 2, rfl, st, by decide, by decide, fun r1 o1 a0 a1 st1 => ?_⟩
    have x1 : SameX p H (upd H p o1) := SameX.upd
    generalize upd H p o1 = H1 at st1 x1
    refine ⟨_, rfl, p, 2, rfl, st1, by decide, by decide, fun r2 o2 b0 b1 st2 => ?_⟩
    have x2 : SameX p H1 (upd H1 p o2) := SameX.upd
    generalize upd H1 p o2 = H2 at st2 x2
    refine ⟨_, rfl, p, 2, rfl, st2, by decide, by decide, fun r3 o3 c0 c1 st3 => ?_⟩
    have x3 : SameX p H2 (upd H2 p o3) := SameX.upd
    generalize upd H2 p o3 = H3 at st3 x3
    obtain ⟨a, rfl⟩ := bi_of a0 a1
    obtain ⟨b, rfl⟩ := bi_of b0 b1
    obtain ⟨c, rfl⟩ := bi_of c0 c1
    refine ⟨(by show 3 ≤ sizeLine; decide), fun t ht => ?_⟩
    have s4 := same_upd (o := .tup (tv (a, b, c))) ht
    exact q t _ (a, b, c) (x1.trans (x2.trans (x3.trans s4.x))) (st3.same s4) upd_same
/-! ### where a point comes, by the law -/
abbrev sMv : Stmt := top 47
def spMv : Sp := fun vs H Q _ => ∃ (b t p : Addr) (wd hg : Int) (x : Int × Int) (q : Bool × Bool × Bool), vs = [.ref b, .ref t, .ref p] ∧ H b = some (.tup [.int wd, .int hg]) ∧ H t = some (.tup (tv q)) ∧ H p = some (.tup [.int x.1, .int x.2]) ∧ ∀ (r : Addr) H', Same H H' → H' r = some (.tup [.int (tpt wd hg q x).1, .int (tpt wd hg q x).2]) → Q (.ref r) H'
theorem scMv : FnScope ["_law_board", "_law_turn_here", "_law_point", "_law_over", "_law_lines", "_law_rows", "_law_line", "_law_row"] ["_law_board", "_law_turn_here", "_law_point"] (defScope sMv) := ⟨rfl, rfl, rfl, by decide +kernel, rfl, by decide +kernel, by decide +kernel⟩
theorem ok_mv {f : Addr} {fd : FuncData} (F : Fun K "_law_moved" "_law_moved" sMv f fd) : FnOk P w K mg base CX0 1 f fd ["_law_board", "_law_turn_here", "_law_point"] spMv := by
  refine F.ok scMv (fun vs H Q E h => ?_) (fun cdv A outer s H vs Q E hr h => ?_)
  · obtain ⟨b, t, p, wd, hg, x, q, rfl, _⟩ := h
    rfl
  · obtain ⟨b, t, p, wd, hg, ⟨x, y⟩, ⟨o, l, r⟩, rfl, hb, ht, hp, q⟩ := h
    refine ⟨_, pss_cons (ps_asg (pv 1) (pg_tup rfl (pgs_cons (pg_name (i := 3) scMv.nd rfl (Or.inl rfl)) (pgs_cons (pg_name (i := 4) scMv.nd rfl (Or.inl rfl)) (pgs_cons (pg_name (i := 5) scMv.nd rfl (Or.inl rfl)) pgs_nil)))))
      (pss_cons (ps_set (i := 6) scMv.nd rfl (Or.inl rfl) (pe_ix ix_list (pe_lst (pa_cons (pe_ix ix_tup (pv 2) pe_int (fun _ _ => rfl)) (pa_cons (pe_op op_sub (pe_op op_sub (pe_ix ix_tup (pv 0) pe_int (fun _ _ => rfl)) pe_int) (pe_ix ix_tup (pv 2) pe_int (fun _ _ => rfl))) pa_nil))) (pv 4) (fun _ _ => rfl)))
      (pss_cons (ps_set (i := 7) scMv.nd rfl (Or.inl rfl) (pe_ix ix_list (pe_lst (pa_cons (pe_ix ix_tup (pv 2) pe_int (fun _ _ => rfl)) (pa_cons (pe_op op_sub (pe_op op_sub (pe_ix ix_tup (pv 0) pe_int (fun _ _ => rfl)) pe_int) (pe_ix ix_tup (pv 2) pe_int (fun _ _ => rfl))) pa_nil))) (pv 5) (fun _ _ => rfl)))
      (pss_one (ps_ret (pe_ix ix_list (pe_lst (pa_cons (pe_tup (pa_cons (pv 6) (pa_cons (pv 7) pa_nil))) (pa_cons (pe_tup (pa_cons (pv 7) (pa_cons (pv 6) pa_nil))) pa_nil))) (pv 3) (fun _ _ => rfl)))))), ?_⟩
    refine tSeq_i (tAsg_i ⟨_, rfl, t, _, rfl, SqT.of ht, rfl, _, _, rfl, _, _, rfl, _, _, rfl, rfl, ?_⟩)
    dsimp only [List.set]
    refine tSeq_i (tAsg_i ⟨_, rfl, p, _, _, _, rfl, rfl, SqT.of hp, at0, _, rfl, b, _, _, _, rfl, rfl, SqT.of hb, at0, _, _, rfl, rfl, _, rfl, p, _, _, _, rfl, rfl, SqT.of hp, at0, _, _, rfl, rfl, (by show 2 ≤ sizeLine; decide), fun L hL => ?_⟩)
    have s1 := same_upd (o := .lst [V.int x, V.int (wd - 1 - x)]) hL
    have e1 : upd H L (.lst [V.int x, V.int (wd - 1 - x)]) L = some (.lst [V.int x, V.int (wd - 1 - x)]) := upd_same
    try dsimp only
    generalize upd H L (HO.lst [V.int x, V.int (wd - 1 - x)]) = H1 at s1 e1
    refine ⟨_, rfl, L, _, _, _, rfl, rfl, SqL.of e1, at_bi, gName_i ?_⟩
    try dsimp only [List.set]
    have el : (if l = true then V.int (wd - 1 - x) else V.int x) = .int (tA wd l x) := by cases l <;> rfl
    rw [el]
    refine tSeq_i (tAsg_i ⟨_, rfl, p, _, _, _, rfl, rfl, SqT.of (s1 _ _ hp), at1, _, rfl, b, _, _, _, rfl, rfl, SqT.of (s1 _ _ hb), at1, _, _, rfl, rfl, _, rfl, p, _, _, _, rfl, rfl, SqT.of (s1 _ _ hp), at1, _, _, rfl, rfl, (by show 2 ≤ sizeLine; decide), fun L2' hL2 => ?_⟩)
    have s2 := same_upd (o := .lst [V.int y, V.int (hg - 1 - y)]) hL2
    have e2 : upd H1 L2' (.lst [V.int y, V.int (hg - 1 - y)]) L2' = some (.lst [V.int y, V.int (hg - 1 - y)]) := upd_same
    try dsimp only
    generalize upd H1 L2' (HO.lst [V.int y, V.int (hg - 1 - y)]) = H2 at s2 e2
    refine ⟨_, rfl, L2', _, _, _, rfl, rfl, SqL.of e2, at_bi, gName_i ?_⟩
    try dsimp only [List.set]
    have er : (if r = true then V.int (hg - 1 - y) else V.int y) = .int (tA hg r y) := by cases r <;> rfl
    rw [er]
    refine ⟨_, rfl, _, rfl, (by show 2 ≤ sizeLine; decide), fun t1 h1 => ?_⟩
    have s3 := same_upd (o := .tup [V.int (tA wd l x), V.int (tA hg r y)]) h1
    have e3 : upd H2 t1 (.tup [V.int (tA wd l x), V.int (tA hg r y)]) t1 = some (.tup [V.int (tA wd l x), V.int (tA hg r y)]) := upd_same
    generalize upd H2 t1 (HO.tup [V.int (tA wd l x), V.int (tA hg r y)]) = H3 at s3 e3
    refine ⟨_, rfl, _, rfl, (by show 2 ≤ sizeLine; decide), fun t2 h2 => ?_⟩
    have s4 := same_upd (o := .tup [V.int (tA hg r y), V.int (tA wd l x)]) h2
    have e4 : upd H3 t2 (.tup [V.int (tA hg r y), V.int (tA wd l x)]) t2 = some (.tup [V.int (tA hg r y), V.int (tA wd l x)]) := upd_same
    generalize upd H3 t2 (HO.tup [V.int (tA hg r y), V.int (tA wd l x)]) = H4 at s4 e4
    refine ⟨(by show 2 ≤ sizeLine; decide), fun L3 hL3 => ?_⟩
    have s5 := same_upd (o := .lst [V.ref t1, V.ref t2]) hL3
    have e5 : upd H4 L3 (.lst [V.ref t1, V.ref t2]) L3 = some (.lst [V.ref t1, V.ref t2]) := upd_same
    generalize upd H4 L3 (HO.lst [V.ref t1, V.ref t2]) = H5 at s5 e5
    have sA := s1.trans (s2.trans (s3.trans (s4.trans s5)))
    refine ⟨_, rfl, L3, _, _, _, rfl, rfl, SqL.of e5, at_bi, ?_⟩
    cases o with
    | true => exact q t2 _ sA (s5 _ _ e4)
    | false => exact q t1 _ sA ((s4.trans s5) _ _ e3)
/-! ### the board by a turn, by the law -/
abbrev sBB : Stmt := top 48
def spBB : Sp := fun vs H Q _ => ∃ (b t : Addr) (wd hg : Int) (q : Bool × Bool × Bool), vs = [.ref b, .ref t] ∧ H b = some (.tup [.int wd, .int hg]) ∧ H t = some (.tup (tv q)) ∧ ∀ (c : Addr) H', Same H H' → H' c = some (.tup [.int (tW wd hg q), .int (tH wd hg q)]) → Q (.ref c) H'
theorem scBB : FnScope ["_law_board", "_law_turn_here"] ["_law_board", "_law_turn_here"] (defScope sBB) := ⟨rfl, rfl, rfl, by decide +kernel, rfl, by decide +kernel, by decide +kernel⟩
theorem ok_bb {f : Addr} {fd : FuncData} (F : Fun K "_law_board_by" "_law_board_by" sBB f fd) : FnOk P w K mg base CX0 1 f fd ["_law_board", "_law_turn_here"] spBB := by
  refine F.ok scBB (fun vs H Q E h => ?_) (fun cdv A outer s H vs Q E hr h => ?_)
  · obtain ⟨b, t, wd, hg, q, rfl, _⟩ := h
    rfl
  · obtain ⟨b, t, wd, hg, ⟨o, l, r⟩, rfl, hb, ht, q⟩ := h
    refine ⟨_, pss_one (ps_ret (pe_ix ix_list (pe_lst (pa_cons (pv 0) (pa_cons (pe_tup (pa_cons (pe_ix ix_tup (pv 0) pe_int (fun _ _ => rfl)) (pa_cons (pe_ix ix_tup (pv 0) pe_int (fun _ _ => rfl)) pa_nil))) pa_nil))) (pe_ix ix_tup (pv 1) pe_int (fun _ _ => rfl)) (fun _ _ => rfl))), ?_⟩
    refine ⟨_, rfl, _, rfl, b, _, _, _, rfl, rfl, SqT.of hb, at1, _, rfl, b, _, _, _, rfl, rfl, SqT.of hb, at0, (by show 2 ≤ sizeLine; decide), fun t1 h1 => ?_⟩
    have s1 := same_upd (o := .tup [V.int hg, V.int wd]) h1
    have e1 : upd H t1 (.tup [V.int hg, V.int wd]) t1 = some (.tup [V.int hg, V.int wd]) := upd_same
    generalize upd H t1 (HO.tup [V.int hg, V.int wd]) = H1 at s1 e1
    refine ⟨(by show 2 ≤ sizeLine; decide), fun L hL => ?_⟩
    have s2 := same_upd (o := .lst [V.ref b, V.ref t1]) hL
    have e2 : upd H1 L (.lst [V.ref b, V.ref t1]) L = some (.lst [V.ref b, V.ref t1]) := upd_same
    generalize upd H1 L (HO.lst [V.ref b, V.ref t1]) = H2 at s2 e2
    refine ⟨_, rfl, t, _, _, _, rfl, rfl, SqT.of ((s1.trans s2) _ _ ht), rfl, L, _, _, _, rfl, rfl, SqL.of e2, at_bi, ?_⟩
    cases o with
    | true => exact q t1 _ (s1.trans s2) (s2 _ _ e1)
    | false => exact q b _ (s1.trans s2) ((s1.trans s2) _ _ hb)
/-! ### the lay by a turn, by the law -/
abbrev sLTu : Stmt := top 49
def spLTu (K : PySem.W.Frag) : Sp := fun vs H Q _ => ∃ (b l t : Addr) (xs : List V) (wd hg : Int) (q : Bool × Bool × Bool), vs = [.ref b, .ref l, .ref t] ∧ LayAt K H (.ref b) l xs wd hg ∧ H t = some (.tup (tv q)) ∧ ∀ (u : Addr) H', Same H H' → H' u = some (.tup (turnedL wd hg q xs)) → Q (.ref u) H'
theorem scLTu : FnScope ["_law_board", "_law_lay_here", "_law_turn_here", "_law_there"] ["_law_board", "_law_lay_here", "_law_turn_here"] (defScope sLTu) := ⟨rfl, rfl, rfl, by decide +kernel, rfl, by decide +kernel, by decide +kernel⟩
theorem ok_ltu {f : Addr} {fd : FuncData} (F : Fun K "_law_turned" "_law_turned" sLTu f fd) (G : Gs mg) (D1 : Def P w K mg base 1 "_law_moved" ["_law_board", "_law_turn_here", "_law_point"] spMv) (D2 : Def P w K mg base 1 "_law_board_by" ["_law_board", "_law_turn_here"] spBB) :
    FnOk P w K mg base CX0 2 f fd ["_law_board", "_law_lay_here", "_law_turn_here"] (spLTu K) := by
  refine F.ok scLTu (fun vs H Q E h => ?_) (fun cdv A outer s H vs Q E hr h => ?_)
  · obtain ⟨b, l, t, xs, wd, hg, q, rfl, _⟩ := h
    rfl
  · obtain ⟨b, a, t, xs, wd, hg, x, rfl, la, ht, q⟩ := h
    have hu := hu_of hr
    refine ⟨_, pss_cons (ps_set (i := 3) scLTu.nd rfl (Or.inr rfl) (pe_callTy call_dict_prs rfl G.dict boot_dict (pa_cons (pe_comp ["_law_line", "_law_row", "_law_board", "_law_turn_here"] 2 [0, 2] (pi_enum rfl G.enumerate (pa_cons (pv 1) pa_nil))
        (fun C s H fp => show PG (blk _ _ _ C s H fp) _ (gTup K 2 (gCons (gName 0) (gCons (gName 1) gNil))) from pg_tup rfl (pgs_cons (pb 0) (pgs_cons (pb 1) pgs_nil)))
        (fun C s H fp => pts_one (pt_cmp (pc_notN (pv 1)))) (fun C s H fp D => pin_emit rfl (pe_callD D1 hr (pa_cons (pv 2) (pa_cons (pv 3) (pa_cons (pe_tup (pa_cons (pv 0) (pa_cons (pv 1) pa_nil))) pa_nil)))))) pa_nil)))
      (pss_one (ps_ret (pe_callTy call_tuple_of rfl G.tuple boot_tuple (pa_cons (pe_comp ["_law_line", "_law_there"] 1 [3] (pi_range1 rfl G.range (pa_cons (pe_ix ix_tup (pe_callD D2 hr (pa_cons (pv 0) (pa_cons (pv 2) pa_nil))) pe_int (fun _ _ => rfl)) pa_nil)) (fun C s H fp => pb 0) (fun C s H fp => pts_nil)
        (fun C s H fp D => pin_emit rfl (pe_dget1 hu (pv 1) (pv 0) ⟨rfl, rfl, rfl, rfl⟩))) pa_nil)))), ?_⟩
    obtain ⟨_, w1, w12, g1, g12⟩ := id la.bd
    obtain ⟨b', eb, hb⟩ := tupOf_some la.bd.1
    cases eb
    have ha := la.at_
    have hl := lay_len la.ly
    refine tSeq_i (tAsg_i ⟨_, rfl, a, rfl, ⟨xs, SqT.of ha⟩, ?_⟩)
    refine nest_enum (xs := xs) (fun i ys σ H2 => ∃ v0 v1, σ = [v0, v1, some (.ref b), some (.ref t)] ∧ Same H H2 ∧ PrV H2 ys (kvsOf ((ptsTo xs i).map (tpt wd hg x))) ∧ ys.length ≤ i) ⟨_, _, rfl, Same.refl _, .nil, Nat.zero_le _⟩ (fun i ys σ H2 _ ⟨_, _, _, s2, _⟩ => SqT.of (s2 _ _ ha)) ?_ ?_
    · rintro i v T ys σ H2 hv hT ⟨v0, v1, rfl, s2, pr2, hl2⟩
      have hi : i < xs.length := (List.getElem?_eq_some_iff.mp hv).1
      have sT : Same H2 (upd H2 T (.par [.int (i : Int), v])) := same_upd hT
      refine ⟨T, _, rfl, SqT.ofP upd_same, rfl, _, _, rfl, _, _, rfl, rfl, ?_⟩
      refine ⟨_, rfl, _, rfl, ?_⟩
      generalize hH3 : upd H2 T (HO.par [V.int (i : Int), v]) = H3 at sT
      rcases lay_item la.ly (List.mem_of_getElem? hv) with rfl | ⟨r, rfl, _⟩
      · refine iteF ⟨_, _, rfl, s2.trans sT, ?_, by omega⟩
        rw [ptsTo_succ, hv]
        exact (by simpa [rowV] using Paired.mapP pr2 fun v q' ⟨bb, e, hbb⟩ => ⟨bb, e, sT _ _ hbb⟩)
      · refine iteT ?_
        refine ⟨_, rfl, _, rfl, _, rfl, _, rfl, (by show 2 ≤ sizeLine; decide), fun t4 h4 => ?_⟩
        have s4 := same_upd (o := .tup [V.int (i : Int), V.int r]) h4
        have e4 : upd H3 t4 (.tup [V.int (i : Int), V.int r]) t4 = some (.tup [V.int (i : Int), V.int r]) := upd_same
        generalize upd H3 t4 (HO.tup [V.int (i : Int), V.int r]) = H4 at s4 e4
        have s24 := s2.trans (sT.trans s4)
        refine ⟨b, t, t4, wd, hg, ((i : Int), r), x, rfl, s24 _ _ hb, s24 _ _ ht, e4, fun u H5 s5 e5 => ⟨by rw [sizeLine_eq]; omega, _, _, rfl, s24.trans s5, ?_, by rw [List.length_append]; simp; omega⟩⟩
        have ep : kvsOf ((ptsTo xs (i + 1)).map (tpt wd hg x)) = kvsOf ((ptsTo xs i).map (tpt wd hg x)) ++ [(Sum.inl (tpt wd hg x ((i : Int), r)).1, V.int (tpt wd hg x ((i : Int), r)).2)] := by
          rw [ptsTo_succ, hv]
          unfold kvsOf
          rw [List.map_append, List.map_append]
          rfl
        rw [ep]
        exact Paired.snoc (Paired.mapP pr2 fun v q' ⟨bb, e, hbb⟩ => ⟨bb, e, (sT.trans (s4.trans s5)) _ _ hbb⟩) ⟨u, rfl, e5⟩
    · rintro ys σ H2 ⟨v0, v1, rfl, s2, pr2, hl2⟩ L hL
      have s3 := same_upd (o := .lst ys) hL
      have e3 : upd H2 L (.lst ys) L = some (.lst ys) := upd_same
      generalize upd H2 L (.lst ys) = H3 at s3 e3
      have pr3 : PrV H3 ys (kvsOf ((pointsL xs).map (tpt wd hg x))) := Paired.mapP pr2 fun v q' ⟨bb, e, hbb⟩ => ⟨bb, e, s3 _ _ hbb⟩
      have l12 : (kvsOf ((pointsL xs).map (tpt wd hg x))).length ≤ 1000 := by
        unfold kvsOf
        rw [List.length_map, List.length_map]
        have h1 := pts_len xs
        omega
      have hm : ∀ k : Int, (valV (mergeK [] (kvsOf ((pointsL xs).map (tpt wd hg x)))) (Sum.inl k)).getD .non = ptV ((pointsL xs).map (tpt wd hg x)) k := fun k => merge_pt _ [] .non rfl
      refine ⟨L, ys, _, rfl, e3, pr3, l12, fun d hd => gName_i ?_⟩
      dsimp only [List.set]
      generalize mergeK [] (kvsOf ((pointsL xs).map (tpt wd hg x))) = kvs at hm
      have s4 := same_upd (o := .dK kvs) hd
      have e4 : upd H3 d (.dK kvs) d = some (.dK kvs) := upd_same
      generalize upd H3 d (.dK kvs) = H4 at s4 e4
      have sA := s2.trans (s3.trans s4)
      refine ⟨_, rfl, _, rfl, b, t, wd, hg, x, rfl, sA _ _ hb, sA _ _ ht, fun c H5 s5 e5 => ?_⟩
      have hW : 1 ≤ tW wd hg x ∧ tW wd hg x ≤ 12 := by
        unfold tW
        split <;> omega
      refine ⟨c, _, _, _, rfl, rfl, SqT.of e5, at0, _, rfl, by omega, by omega, ?_⟩
      have e45 := s5 _ _ e4
      refine nest_range (n := (tW wd hg x).toNat) (fun j ys σ H6 => ys = (turnedL wd hg x xs).take j ∧ H6 = H5 ∧ ∃ v, σ = [v, some (.ref d)]) ⟨rfl, rfl, none, rfl⟩ ?_ ?_
      · rintro j ys σ H6 hj ⟨rfl, rfl, v, rfl⟩
        have look : DGet H6 d (.int (0 + (j : Int))) (valV kvs (Sum.inl (j : Int))) := by
          rw [Int.zero_add]
          exact DGet.k (k := Sum.inl (j : Int)) e45
        refine ⟨_, rfl, d, rfl, .inl ⟨_, .inl e45⟩, _, rfl, _, look, ?_, ?_, rfl, _, rfl⟩
        · rw [List.length_take, sizeLine_eq]; omega
        · rw [List.take_add_one, layOf_at hj, ← hm]
          rfl
      · rintro ys σ H6 ⟨rfl, rfl, v, rfl⟩ L6 hL6
        refine ⟨L6, _, rfl, .inl ⟨SqL.of upd_same, fun t' ht' => ?_⟩⟩
        refine q t' _ (sA.trans (s5.trans ((same_upd hL6).trans (same_upd ht')))) ?_
        rw [upd_same, List.take_of_length_le (by rw [layOf_len]; exact Nat.le_refl _)]
end
end U
-- part K11m
set_option Elab.async false
set_option linter.all false
set_option maxRecDepth 100000
set_option maxHeartbeats 40000000
namespace U
open PySem L2 PyProof.Rows
theorem pe_callD0 {X : Cx} {k : Nat} {x : Str} {sp : Sp} {p pos : Pos} (d : Def X.prog X.w X.K X.mg X.base k x [] sp) (hr : Room k X.A) (hg : Gl X x := by rfl) (hdb : (x == ("__debug__" : Str)) = false := by decide) : PE X (.Call (.Name x p) [] [] pos) (tCall sp [] E0 tNil) := by
  obtain ⟨f, fd, F, hm, hk, hb⟩ := d
  exact pe_call0 F hr hg hm hk hb .nil pass0 hdb
theorem paired_unmap {α β γ : Type} {R : α → γ → Prop} {f : β → γ} : ∀ {xs : List α} {ys : List β}, Paired R xs (ys.map f) → Paired (fun x y => R x (f y)) xs ys
  | _, [], h => by cases h; exact .nil
  | _, _ :: _, h => by
    cases h with
    | cons h1 h2 => exact .cons h1 (paired_unmap h2)
/-! ### all turns -/
def LAt (H : Hp) (v : V) (l : List Bool) : Prop := ∃ t : Addr, v = .ref t ∧ H t = some (.tup (l.map fun b => V.int (bi b)))
theorem LAt.same {H H' : Hp} {v : V} {l : List Bool} (h : LAt H v l) (s : Same H H') : LAt H' v l := by
  obtain ⟨t, e, h1⟩ := h
  exact ⟨t, e, s _ _ h1⟩
def TrAt (H : Hp) (v : V) (q : Bool × Bool × Bool) : Prop := ∃ t : Addr, v = .ref t ∧ H t = some (.tup (tv q))
theorem TrAt.same {H H' : Hp} {v : V} {q : Bool × Bool × Bool} (h : TrAt H v q) (s : Same H H') : TrAt H' v q := by
  obtain ⟨t, e, h1⟩ := h
  exact ⟨t, e, s _ _ h1⟩
def two (l : List Bool) : List (List Bool) := [l ++ [false], l ++ [true]]
def allK : Nat → List (List Bool)
  | 0 => [[]]
  | k + 1 => (allK k).flatMap two
def allT : List (Bool × Bool × Bool) := [(false, false, false), (false, false, true), (false, true, false), (false, true, true), (true, false, false), (true, false, true), (true, true, false), (true, true, true)]
theorem allK_3 : allK 3 = allT.map fun q => [q.1, q.2.1, q.2.2] := by decide
theorem allK_len : ∀ {k : Nat}, k ≤ 3 → (allK k).length ≤ 8 ∧ ∀ l ∈ allK k, l.length = k := by
  intro k h
  rcases (by omega : k = 0 ∨ k = 1 ∨ k = 2 ∨ k = 3) with rfl | rfl | rfl | rfl <;> exact ⟨by decide, by decide⟩
section
variable {P : Program} {w : World} {K : PySem.W.Frag} {mg : Str → Option Value} {base : Heap}
abbrev sAT : Stmt := top 50
def spAT : Sp := fun vs H Q _ => vs = [] ∧ ∀ (L : Addr) H' (ts : List V), Same H H' → H' L = some (.lst ts) → Paired (TrAt H') ts allT → Q (.ref L) H'
theorem scAT : FnScope ["_law_found", "_law_k", "_law_longer", "_law_one"] [] (defScope sAT) := ⟨rfl, rfl, rfl, by decide +kernel, rfl, by decide +kernel, by decide +kernel⟩
theorem ok_at {f : Addr} {fd : FuncData} (F : Fun K "_law_all_turns" "_law_all_turns" sAT f fd) (G : Gs mg) : FnOk P w K mg base CX0 1 f fd [] spAT := by
  refine F.ok scAT (fun vs H Q E h => ?_) (fun cdv A outer s H vs Q E hr h => ?_)
  · obtain ⟨rfl, _⟩ := h
    rfl
  · obtain ⟨rfl, q⟩ := h
    refine ⟨_, pss_cons (ps_set (i := 0) scAT.nd rfl (Or.inl rfl) (pe_lst (pa_cons (pe_tup pa_nil) pa_nil)))
      (pss_cons (ps_for PassesOwn.never rfl (pi_range1 rfl G.range (pa_cons pe_int pa_nil)) (pg_name (i := 1) scAT.nd rfl (Or.inl rfl))
        (pss_cons (ps_set (i := 2) scAT.nd rfl (Or.inl rfl) (pe_lst pa_nil))
        (pss_cons (ps_for PassesOwn.never rfl (pi_list (pv 0)) (pg_name (i := 3) scAT.nd rfl (Or.inl rfl))
          (pss_one (ps_expr (pe_bm PySem.F.plainAttrs_list PySem.F.slot_list_extend PySem.F.type_list_extend mt_extend (pv 2) (pa_cons (pe_lst (pa_cons (pe_op op_catA (pv 3) (pe_tup (pa_cons pe_int pa_nil))) (pa_cons (pe_op op_catA (pv 3) (pe_tup (pa_cons pe_int pa_nil))) pa_nil))) pa_nil)))))
        (pss_one (ps_set (i := 0) scAT.nd rfl (Or.inl rfl) (pv 2))))))
      (pss_one (ps_ret (pv 0)))), ?_⟩
    refine tSeq_i (tAsg_i ⟨Nat.zero_le _, fun t0 h0 => ⟨(by show 1 ≤ sizeLine; decide), fun L0 hL0 => gName_i ?_⟩⟩)
    dsimp only [List.set]
    have s1 := same_upd (o := .tup []) h0
    have e1 : upd H t0 (.tup []) t0 = some (.tup []) := upd_same
    generalize upd H t0 (.tup []) = H1 at s1 e1 hL0
    have s2 := same_upd (o := .lst [V.ref t0]) hL0
    have e2 : upd H1 L0 (.lst [V.ref t0]) L0 = some (.lst [V.ref t0]) := upd_same
    generalize upd H1 L0 (.lst [V.ref t0]) = H2 at s2 e2
    refine tSeq_i ⟨3, rfl, by decide, by decide, ?_⟩
    refine for_range (n := 3) (fun i σ H' => ∃ (L : Addr) (ts : List V) (v1 v2 v3 : Option V), σ = [some (.ref L), v1, v2, v3] ∧ Same H H' ∧ H' L = some (.lst ts) ∧ Paired (LAt H') ts (allK i)) ⟨L0, _, _, _, _, rfl, s1.trans s2, e2, .cons ⟨t0, rfl, s2 _ _ e1⟩ .nil⟩ ?_ ?_
    · rintro i σ H3 hi ⟨L, ts, v1, v2, v3, rfl, s3, e3, pr⟩
      refine gName_i ?_
      dsimp only [List.set]
      refine tSeq_i (tAsg_i ⟨Nat.zero_le _, fun M hM => gName_i ?_⟩)
      dsimp only [List.set]
      obtain ⟨k8, kl⟩ := allK_len (k := i) (by omega)
      have lt : ts.length = (allK i).length := Paired.length pr
      refine tSeq_i ⟨_, rfl, L, rfl, ⟨ts, SqL.of (same_upd hM _ _ e3)⟩, ?_⟩
      refine for_list (xs := ts) (fun j σ H4 => ∃ (ws : List V) (v3 : Option V), σ = [some (.ref L), some (.int (0 + (i : Int))), some (.ref M), v3] ∧ Same H3 H4 ∧ H4 M = some (.lst ws) ∧ Paired (LAt H4) ws (((allK i).take j).flatMap two)) ⟨[], _, rfl, same_upd hM, upd_same, .nil⟩ (fun j σ H4 _ ⟨_, _, _, s4, _⟩ => SqL.of (s4 _ _ e3)) ?_ ?_
      · rintro j v σ H4 hv ⟨ws, v3, rfl, s4, e4, pw⟩
        obtain ⟨l, hl, pl⟩ := pr_at pr hv
        obtain ⟨t, rfl, ht⟩ := pl.same s4
        have ll := kl l (List.mem_of_getElem? hl)
        have hj : j < ts.length := (List.getElem?_eq_some_iff.mp hv).1
        have lw : ws.length ≤ 16 := by
          have h1 := Paired.length pw
          have h2 : ∀ ks : List (List Bool), (ks.flatMap two).length = 2 * ks.length := fun ks => by
            induction ks with
            | nil => rfl
            | cons a r ih => rw [List.flatMap_cons, List.length_append, ih, List.length_cons]; show 2 + _ = _; omega
          rw [h2, List.length_take] at h1
          omega
        refine gName_i ?_
        dsimp only [List.set]
        refine ⟨_, rfl, .inl ⟨rfl, _, SqL.of e4⟩, _, rfl, (by show 1 ≤ sizeLine; decide), fun ta hta => ?_⟩
        have sa := same_upd (o := .tup [V.int 0]) hta
        refine catA (sa _ _ ht) upd_same (by rw [List.length_map, sizeLine_eq]; show l.length + 1 ≤ _; omega) fun c1 H5 s5 e5 => ?_
        have s45 := sa.trans s5
        refine ⟨_, rfl, (by show 1 ≤ sizeLine; decide), fun tb htb => ?_⟩
        have sb := same_upd (o := .tup [V.int 1]) htb
        refine catA ((s45.trans sb) _ _ ht) upd_same (by rw [List.length_map, sizeLine_eq]; show l.length + 1 ≤ _; omega) fun c2 H6 s6 e6 => ?_
        have s56 := sb.trans s6
        refine ⟨(by show 2 ≤ sizeLine; decide), fun N hN => ?_⟩
        have sn := same_upd (o := .lst [V.ref c1, V.ref c2]) hN
        have en : upd H6 N (.lst [V.ref c1, V.ref c2]) N = some (.lst [V.ref c1, V.ref c2]) := upd_same
        generalize upd H6 N (.lst [V.ref c1, V.ref c2]) = H7 at sn en
        have s47 := s45.trans (s56.trans sn)
        refine ⟨M, N, ws, _, rfl, rfl, s47 _ _ e4, en, (by rw [sizeLine_eq]; show ws.length + 2 ≤ _; omega), ?_⟩
        have hMn : H3 M = none := hM
        have s7 := s4.trans s47
        have keep : ∀ {v : V} {l : List Bool}, LAt H7 v l → LAt (upd H7 M (.lst (ws ++ [V.ref c1, V.ref c2]))) v l := fun ⟨t, e, h⟩ => ⟨t, e, by rw [upd_ne (fun z => by rw [z, s47 _ _ e4] at h; cases h)]; exact h⟩
        refine ⟨_, _, rfl, same_updN s7 hMn, upd_same, ?_⟩
        rw [List.take_add_one, hl, List.flatMap_append]
        have p1 : LAt H7 (.ref c1) (l ++ [false]) := ⟨c1, rfl, by rw [List.map_append]; exact (s56.trans sn) _ _ e5⟩
        have p2 : LAt H7 (.ref c2) (l ++ [true]) := ⟨c2, rfl, by rw [List.map_append]; exact sn _ _ e6⟩
        have pw' : Paired (LAt (upd H7 M (.lst (ws ++ [V.ref c1, V.ref c2])))) ws (((allK i).take j).flatMap two) := Paired.mapP pw fun v l h => keep (h.same s47)
        have := Paired.snoc (Paired.snoc pw' (keep p1)) (keep p2)
        rw [List.append_assoc, List.append_assoc] at this
        exact this
      · rintro σ H4 ⟨ws, v3, rfl, s4, e4, pw⟩
        rw [lt, List.take_length] at pw
        dsimp only
        refine tAsg_i ⟨_, rfl, gName_i ?_⟩
        exact ⟨M, ws, _, _, _, rfl, s3.trans s4, e4, pw⟩
    · rintro σ H3 ⟨L, ts, v1, v2, v3, rfl, s3, e3, pr⟩
      rw [allK_3] at pr
      exact ⟨_, rfl, q L H3 ts s3 e3 (Paired.mapP (paired_unmap (R := LAt H3) pr) fun v q h => h)⟩
/-! ### two turns together, by the law -/
abbrev sTg : Stmt := top 51
def spTg : Sp := fun vs H Q _ => ∃ (t u : Addr) (q p : Bool × Bool × Bool), vs = [.ref t, .ref u] ∧ H t = some (.tup (tv q)) ∧ H u = some (.tup (tv p)) ∧ ∀ (r : Addr) H', Same H H' → H' r = some (.tup (tv (tog q p))) → Q (.ref r) H'
theorem scTg : FnScope ["_law_turn_here", "_law_other", "_law_there"] ["_law_turn_here", "_law_other"] (defScope sTg) := ⟨rfl, rfl, rfl, by decide +kernel, rfl, by decide +kernel, by decide +kernel⟩
theorem tog_one : ∀ q p : Bool × Bool × Bool, allT.filter (fun x => decide (tpt 5 7 x (1, 2) = tpt (tW 5 7 q) (tH 5 7 q) p (tpt 5 7 q (1, 2)))) = [tog q p] := by
  rintro ⟨a, b, c⟩ ⟨d, e, f⟩
  cases a <;> cases b <;> cases c <;> cases d <;> cases e <;> cases f <;> decide +kernel
theorem ok_tg {f : Addr} {fd : FuncData} (F : Fun K "_law_together" "_law_together" sTg f fd) (D1 : Def P w K mg base 1 "_law_moved" ["_law_board", "_law_turn_here", "_law_point"] spMv) (D2 : Def P w K mg base 1 "_law_board_by" ["_law_board", "_law_turn_here"] spBB) (D3 : Def P w K mg base 1 "_law_all_turns" [] spAT) :
    FnOk P w K mg base CX0 2 f fd ["_law_turn_here", "_law_other"] spTg := by
  refine F.ok scTg (fun vs H Q E h => ?_) (fun cdv A outer s H vs Q E hr h => ?_)
  · obtain ⟨t, u, q, p, rfl, _⟩ := h
    rfl
  · obtain ⟨t, u, x, y, rfl, ht, hy, q⟩ := h
    have hu := Nat.lt_of_succ_lt (hu_of hr)
    refine ⟨_, pss_cons (ps_set (i := 2) scTg.nd rfl (Or.inr rfl) (pe_callD D1 hr (pa_cons (pe_tup (pa_cons pe_int (pa_cons pe_int pa_nil))) (pa_cons (pv 0) (pa_cons (pe_tup (pa_cons pe_int (pa_cons pe_int pa_nil))) pa_nil)))))
      (pss_cons (ps_set (i := 2) scTg.nd rfl (Or.inr rfl) (pe_callD D1 hr (pa_cons (pe_callD D2 hr (pa_cons (pe_tup (pa_cons pe_int (pa_cons pe_int pa_nil))) (pa_cons (pv 0) pa_nil))) (pa_cons (pv 1) (pa_cons (pv 2) pa_nil)))))
      (pss_one (ps_ret (pe_ix ix_list (pe_comp ["_law_one", "_law_there"] 1 [2] (pi_list (pe_callD0 D3 hr)) (fun C s H fp => pb 0)
        (fun C s H fp => pts_one (pt_cmpR (show OpR (blk _ _ _ C s H fp) (compareOp .Eq) (fun x y H Q => ∃ (a b : Addr) (ns ms : List Int), x = .ref a ∧ y = .ref b ∧ SqT K H a (ns.map V.int) ∧ SqT K H b (ms.map V.int) ∧ Q (.bl (decide (ns = ms))) H) from op_eqTu hu) (pe_callD D1 hr (pa_cons (pe_tup (pa_cons pe_int (pa_cons pe_int pa_nil))) (pa_cons (pv 0) (pa_cons (pe_tup (pa_cons pe_int (pa_cons pe_int pa_nil))) pa_nil)))) (pv 1) (nomark _)))
        (fun C s H fp D => pin_emit rfl (pv 0))) pe_int (fun _ _ => rfl))))), ?_⟩
    have tup2 : ∀ {H : Hp} {t : Addr} (a b : Int), H t = none → Same H (upd H t (.tup [.int a, .int b])) ∧ upd H t (.tup [.int a, .int b]) t = some (.tup [.int a, .int b]) := fun a b h => ⟨same_upd h, upd_same⟩
    refine tSeq_i (tAsg_i ⟨(by show 2 ≤ sizeLine; decide), fun b1 h1 => ?_⟩)
    obtain ⟨s1, e1⟩ := tup2 5 7 h1
    generalize upd H b1 (.tup [.int 5, .int 7]) = H1 at s1 e1
    refine ⟨_, rfl, (by show 2 ≤ sizeLine; decide), fun p1 h2 => ?_⟩
    obtain ⟨s2, e2⟩ := tup2 1 2 h2
    generalize upd H1 p1 (.tup [.int 1, .int 2]) = H2 at s2 e2
    have ht2 := (s1.trans s2) _ _ ht
    refine ⟨b1, t, p1, 5, 7, (1, 2), x, rfl, s2 _ _ e1, ht2, e2, fun r3 H3 s3 e3 => gName_i ?_⟩
    dsimp only [List.set]
    refine tSeq_i (tAsg_i ⟨(by show 2 ≤ sizeLine; decide), fun b4 h4 => ?_⟩)
    obtain ⟨s4, e4⟩ := tup2 5 7 h4
    generalize upd H3 b4 (.tup [.int 5, .int 7]) = H4 at s4 e4
    have s14 := s1.trans (s2.trans (s3.trans s4))
    refine ⟨_, rfl, b4, t, 5, 7, x, rfl, e4, s14 _ _ ht, fun c5 H5 s5 e5 => ?_⟩
    have s15 := s14.trans s5
    refine ⟨_, rfl, _, rfl, c5, u, r3, _, _, tpt 5 7 x (1, 2), y, rfl, e5, s15 _ _ hy, (s4.trans s5) _ _ e3, fun r6 H6 s6 e6 => gName_i ?_⟩
    dsimp only [List.set]
    have one := tog_one x y
    generalize tpt (tW 5 7 x) (tH 5 7 x) y (tpt 5 7 x (1, 2)) = pt at e6 one
    refine ⟨rfl, fun L H7 ts s7 e7 pr => ⟨L, rfl, ⟨ts, SqL.of e7⟩, ?_⟩⟩
    have e67 := s7 _ _ e6
    have lt : ts.length = 8 := Paired.length pr
    refine nest_list (xs := ts) (fun i zs σ H8 => ∃ v0, σ = [v0, some (.ref r6)] ∧ Same H7 H8 ∧ Paired (TrAt H8) zs ((allT.take i).filter fun z => decide (tpt 5 7 z (1, 2) = pt)) ∧ zs.length ≤ i) ⟨_, rfl, Same.refl _, .nil, Nat.le_refl _⟩ (fun i zs σ H8 _ ⟨_, _, s8, _⟩ => SqL.of (s8 _ _ e7)) ?_ ?_
    · rintro i v zs σ H8 hv ⟨v0, rfl, s8, pz, lz⟩
      obtain ⟨z, hz, pv'⟩ := pr_at pr hv
      obtain ⟨t9, rfl, ht9⟩ := pv'.same s8
      have hi : i < ts.length := (List.getElem?_eq_some_iff.mp hv).1
      refine ⟨(by show 2 ≤ sizeLine; decide), fun b9 h9 => ?_⟩
      obtain ⟨s9, e9⟩ := tup2 5 7 h9
      generalize upd H8 b9 (.tup [.int 5, .int 7]) = H9 at s9 e9
      refine ⟨_, rfl, (by show 2 ≤ sizeLine; decide), fun p10 h10 => ?_⟩
      obtain ⟨s10, e10⟩ := tup2 1 2 h10
      generalize upd H9 p10 (.tup [.int 1, .int 2]) = H10 at s10 e10
      refine ⟨b9, t9, p10, 5, 7, (1, 2), z, rfl, s10 _ _ e9, (s9.trans s10) _ _ ht9, e10, fun r11 H11 s11 e11 => ?_⟩
      have s811 := s9.trans (s10.trans s11)
      have s711 := s8.trans s811
      refine ⟨_, rfl, r11, r6, [(tpt 5 7 z (1, 2)).1, (tpt 5 7 z (1, 2)).2], [pt.1, pt.2], rfl, rfl, SqT.of e11, SqT.of (s711 _ _ e67), _, rfl, ?_⟩
      have ed : decide ([(tpt 5 7 z (1, 2)).1, (tpt 5 7 z (1, 2)).2] = [pt.1, pt.2]) = decide (tpt 5 7 z (1, 2) = pt) := by
        congr 1
        refine propext ⟨fun h => ?_, fun h => by rw [h]⟩
        injection h with h1 h2
        injection h2 with h2 _
        exact Prod.ext h1 h2
      rw [ed]
      have pz' : Paired (TrAt H11) zs ((allT.take i).filter fun z => decide (tpt 5 7 z (1, 2) = pt)) := Paired.mapP pz fun v q h => h.same s811
      by_cases hd : tpt 5 7 z (1, 2) = pt
      · rw [decide_eq_true hd]
        refine iteT ⟨_, rfl, by rw [sizeLine_eq]; omega, _, rfl, s711, ?_, by rw [List.length_append]; show zs.length + 1 ≤ _; omega⟩
        rw [List.take_add_one, hz, List.filter_append]
        have : [z].filter (fun z => decide (tpt 5 7 z (1, 2) = pt)) = [z] := by rw [List.filter_cons_of_pos (by exact decide_eq_true hd)]; rfl
        show Paired (TrAt H11) (zs ++ [V.ref t9]) (_ ++ [z].filter _)
        rw [this]
        exact Paired.snoc pz' ⟨t9, rfl, s811 _ _ ht9⟩
      · rw [decide_eq_false hd]
        refine iteF ⟨_, rfl, s711, ?_, by omega⟩
        rw [List.take_add_one, hz, List.filter_append]
        have : [z].filter (fun z => decide (tpt 5 7 z (1, 2) = pt)) = [] := by rw [List.filter_cons_of_neg (by rw [decide_eq_false hd]; exact Bool.false_ne_true)]; rfl
        show Paired (TrAt H11) zs (_ ++ [z].filter _)
        rw [this, List.append_nil]
        exact pz'
    · rintro zs σ H8 ⟨v0, rfl, s8, pz, lz⟩ Z hZ
      rw [lt, show allT.take 8 = allT from rfl, one] at pz
      cases pz with
      | cons h1 h2 =>
        cases h2
        obtain ⟨t9, rfl, ht9⟩ := h1
        have sZ := same_upd (o := .lst [V.ref t9]) hZ
        refine ⟨Z, [V.ref t9], 0, V.ref t9, rfl, rfl, SqL.of upd_same, rfl, ?_⟩
        exact q t9 _ (s15.trans (s6.trans (s7.trans (s8.trans sZ)))) (sZ _ _ ht9)
end
end U
-- part K11p
set_option Elab.async false
set_option linter.all false
set_option maxRecDepth 100000
set_option maxHeartbeats 40000000
namespace U
open PySem L2 PyProof.Rows
/-! ### what is no turn -/
def GoodT (K : PySem.W.Frag) (p : Addr) (H : Hp) (v : V) : Prop := BadTr K H v ∧ NoRef p H v
theorem goodT_x {K : PySem.W.Frag} {p : Addr} {H H' : Hp} {v : V} (g : GoodT K p H v) (s : SameX p H H') : GoodT K p H' v :=
  ⟨⟨pl1_x g.1.1 s g.2, by rw [tupOf_x g.1.1.1 s g.2.1]; exact g.1.2⟩, noRef_x g.1.1.1 s g.2.1 g.2⟩
theorem goodT_same {K : PySem.W.Frag} {p : Addr} {H H' : Hp} {v : V} (g : GoodT K p H v) (s : Same H H') : GoodT K p H' v := goodT_x g s.x
theorem goodT_tup {K : PySem.W.Frag} {p a : Addr} {H : Hp} {xs : List V} (h : H a = some (.tup xs)) (st : StAt H p) (hx : ∀ y ∈ xs, PlT K H y ∧ y ≠ .ref p) (nf : isTurnL (some xs) = false) : GoodT K p H (.ref a) := by
  obtain ⟨u, v, e, _⟩ := st
  have nap : a ≠ p := ne_of h e (by intro z; cases z)
  refine ⟨⟨⟨⟨_, .tup h⟩, fun ys e y hy => ?_⟩, ?_⟩, fun z => nap (by cases z; rfl), fun ys e y hy => ?_⟩
  · rw [tupOf_ref h] at e
    cases e
    exact (hx y hy).1
  · rw [tupOf_ref h]
    exact nf
  · rw [tupOf_ref h] at e
    cases e
    exact (hx y hy).2
theorem goodT_none {K : PySem.W.Frag} {p : Addr} {H : Hp} {v : V} (h : tupOf H v = none) (t : PlT K H v) (hn : v ≠ .ref p) : GoodT K p H v := by
  refine ⟨⟨⟨t, fun ys e y hy => ?_⟩, ?_⟩, hn, fun ys e y hy => ?_⟩
  · rw [h] at e; cases e
  · rw [h]; rfl
  · rw [h] at e; cases e
theorem nt_len {xs : List V} (h : xs.length ≠ 3) : isTurnL (some xs) = false := by
  match xs, h with
  | [], _ => rfl
  | [a], _ => rfl
  | [a, b], _ => rfl
  | [a, b, c], h => exact absurd rfl h
  | a :: b :: c :: d :: r, _ => rfl
theorem nt_item {xs : List V} {k : Nat} {v : V} (hl : xs.length = 3) (hk : k < 3) (h : wholeIn v 0 1 = false) : isTurnL (some ((xs.take k ++ [v]) ++ xs.drop (k + 1))) = false := by
  match xs, hl with
  | [a, b, c], _ =>
    rcases (by omega : k = 0 ∨ k = 1 ∨ k = 2) with rfl | rfl | rfl
    · show (wholeIn v 0 1 && (wholeIn b 0 1 && wholeIn c 0 1)) = false
      rw [h, Bool.false_and]
    · show (wholeIn a 0 1 && (wholeIn v 0 1 && wholeIn c 0 1)) = false
      rw [h, Bool.false_and, Bool.and_false]
    · show (wholeIn a 0 1 && (wholeIn b 0 1 && wholeIn v 0 1)) = false
      rw [h, Bool.and_false, Bool.and_false]
section
variable {P : Program} {w : World} {K : PySem.W.Frag} {mg : Str → Option Value} {base : Heap}
abbrev sNoT : Stmt := top 46
def spNoT (K : PySem.W.Frag) : Sp := fun vs H Q _ => ∃ (p t : Addr) (q : Bool × Bool × Bool), vs = [.ref p, .ref t] ∧ StAt H p ∧ H t = some (.tup (tv q)) ∧ ∀ v H', SameX p H H' → StAt H' p → GoodT K p H' v → Q v H'
theorem scNoT : FnScope ["_law_state_here", "_law_turn_here", "_law_at", "_law_odd", "_law_bent"] ["_law_state_here", "_law_turn_here"] (defScope sNoT) := ⟨rfl, rfl, rfl, by decide +kernel, rfl, by decide +kernel, by decide +kernel⟩
theorem ok_noT {f : Addr} {fd : FuncData} (F : Fun K "_law_no_turn" "_law_no_turn" sNoT f fd) (G : Gs mg) (D1 : Def P w K mg base 1 "_law_take" ["_law_state_here", "_law_many"] spTake) : FnOk P w K mg base CX0 2 f fd ["_law_state_here", "_law_turn_here"] (spNoT K) := by
  refine F.ok scNoT (fun vs H Q E h => ?_) (fun cdv A outer s H vs Q E hr h => ?_)
  · obtain ⟨p, t, q, rfl, _⟩ := h
    rfl
  · obtain ⟨p, l, x, rfl, st, hl, q⟩ := h
    refine ⟨_, pss_cons (ps_set (i := 2) scNoT.nd rfl (Or.inl rfl) (pe_callD D1 hr (pa_cons (pv 0) (pa_cons pe_int pa_nil))))
      (pss_cons (ps_set (i := 3) scNoT.nd rfl (Or.inl rfl) (pe_ix ix_list (pe_lst (pa_cons pe_int (pa_cons (pe_un un_neg pe_int) (pa_cons pe_bl (pa_cons pe_non (pa_cons pe_str (pa_cons (pe_tup (pa_cons pe_int pa_nil)) (pa_cons (pe_op op_pow pe_int pe_int) (pa_cons pe_bl (pa_cons (pe_lst (pa_cons pe_int pa_nil)) (pa_cons pe_dnewK pa_nil))))))))))) (pe_callD D1 hr (pa_cons (pv 0) (pa_cons pe_int pa_nil))) (fun _ _ => rfl)))
      (pss_cons (ps_set (i := 4) scNoT.nd rfl (Or.inl rfl) (pe_op op_catA (pe_op op_catA (pe_slice sl_tupA (pv 1) po_none (po_some (pv 2))) (pe_tup (pa_cons (pv 3) pa_nil))) (pe_slice sl_tupA (pv 1) (po_some (pe_op op_add (pv 2) pe_int)) po_none)))
      (pss_one (ps_ret (pe_ix ix_list (pe_lst (pa_cons (pv 4) (pa_cons (pv 4) (pa_cons (pv 4) (pa_cons (pe_slice sl_tupA (pv 1) po_none (po_some pe_int)) (pa_cons (pe_op op_catA (pv 1) (pe_tup (pa_cons pe_int pa_nil))) (pa_cons (pe_callTy call_list_of rfl G.list boot_list (pa_cons (pv 1) pa_nil)) (pa_cons pe_non (pa_cons pe_int (pa_cons pe_str (pa_cons pe_dnewK pa_nil))))))))))) (pe_callD D1 hr (pa_cons (pv 0) (pa_cons pe_int pa_nil))) (fun _ _ => rfl)))))), ?_⟩
    obtain ⟨u0, v0, ep0, _⟩ := id st
    have nlp : l ≠ p := ne_of hl ep0 (by intro z; cases z)
    refine tSeq_i (tAsg_i ⟨_, rfl, p, 3, rfl, st, by decide, by decide, fun a o1 a0 a3 st1 => gName_i ?_⟩)
    dsimp only [List.set]
    have x1 : SameX p H (upd H p o1) := SameX.upd
    have hl1 := x1 _ _ hl nlp
    generalize upd H p o1 = H1 at hl1 x1 st1
    refine tSeq_i (tAsg_i ⟨_, rfl, (by show 1 ≤ sizeLine; decide), fun t ht => ?_⟩)
    have s3 := same_upd (o := .tup [V.int 0]) ht
    have e3 : upd H1 t (.tup [V.int 0]) t = some (.tup [V.int 0]) := upd_same
    generalize upd H1 t (HO.tup [V.int 0]) = H3 at s3 e3
    refine ⟨_, _, rfl, rfl, ⟨by decide, by decide, by decide⟩, (by show 1 ≤ sizeLine; decide), fun m hm => ?_⟩
    have s4 := same_upd (o := .lst [V.int 0]) hm
    have e4 : upd H3 m (.lst [V.int 0]) m = some (.lst [V.int 0]) := upd_same
    generalize upd H3 m (HO.lst [V.int 0]) = H4 at s4 e4
    refine fun d hd => ?_
    have s5 := same_upd (o := .dK []) hd
    have e5 : upd H4 d (.dK []) d = some (.dK []) := upd_same
    generalize upd H4 d (.dK []) = H5 at s5 e5
    refine ⟨(by show 10 ≤ sizeLine; decide), fun L hL => ?_⟩
    generalize hS : [V.int 2, V.int (-1), V.bl true, V.non, V.str "0", V.ref t, V.int (10 ^ (39 : Int).toNat), V.bl false, V.ref m, V.ref d] = S
    have lS : S.length = 10 := by rw [← hS]; rfl
    have s6 := same_upd (o := .lst S) hL
    have e6 : upd H5 L (.lst S) L = some (.lst S) := upd_same
    generalize upd H5 L (HO.lst S) = H6 at s6 e6
    have s16 := s3.trans (s4.trans (s5.trans s6))
    have st6 := st1.same s16
    refine ⟨_, rfl, p, 10, rfl, st6, by decide, by decide, fun r o7 r0 r1 st7 => ?_⟩
    obtain ⟨u6, v6, ep6, _⟩ := id st6
    have nLp : L ≠ p := ne_of e6 ep6 (by intro z; cases z; cases lS)
    have ntp : t ≠ p := ne_of ((s4.trans (s5.trans s6)) _ _ e3) ep6 (by intro z; cases z)
    have nmp : m ≠ p := ne_of ((s5.trans s6) _ _ e4) ep6 (by intro z; cases z)
    have ndp : d ≠ p := ne_of (s6 _ _ e5) ep6 (by intro z; cases z)
    have x7 : SameX p H6 (upd H6 p o7) := SameX.upd
    generalize upd H6 p o7 = H7 at x7 st7
    have hlt : r.toNat < S.length := by omega
    have hat := atI_nat (List.getElem?_eq_getElem hlt)
    rw [Int.toNat_of_nonneg r0] at hat
    refine ⟨L, _, _, _, rfl, rfl, SqL.of (x7 _ _ e6 nLp), hat, gName_i ?_⟩
    dsimp only [List.set]
    have xH7 : SameX p H H7 := x1.trans (s16.x.trans x7)
    have hm' : S[r.toNat] ∈ S := List.getElem_mem hlt
    generalize S[r.toNat] = odd at hm'
    have p39 : (1000 : Int) ≤ 10 ^ (39 : Int).toNat := by decide
    have good : (PlT K H7 odd ∧ odd ≠ .ref p) ∧ wholeIn odd 0 1 = false := by
      rw [← hS] at hm'
      generalize (10 : Int) ^ (39 : Int).toNat = t39 at hm' p39
      simp only [List.mem_cons, List.not_mem_nil, or_false] at hm'
      rcases hm' with rfl | rfl | rfl | rfl | rfl | rfl | rfl | rfl | rfl | rfl
      · exact ⟨⟨⟨_, .int _⟩, fun z => by cases z⟩, wi_no (by omega)⟩
      · exact ⟨⟨⟨_, .int _⟩, fun z => by cases z⟩, wi_no (by omega)⟩
      · exact ⟨⟨⟨_, .bl _⟩, fun z => by cases z⟩, rfl⟩
      · exact ⟨⟨⟨_, .non⟩, fun z => by cases z⟩, rfl⟩
      · exact ⟨⟨⟨_, .str _⟩, fun z => by cases z⟩, rfl⟩
      · exact ⟨⟨⟨_, .tup (x7 _ _ ((s4.trans (s5.trans s6)) _ _ e3) ntp)⟩, fun z => ntp (by cases z; rfl)⟩, rfl⟩
      · exact ⟨⟨⟨_, .int _⟩, fun z => by cases z⟩, wi_no (by omega)⟩
      · exact ⟨⟨⟨_, .bl _⟩, fun z => by cases z⟩, rfl⟩
      · exact ⟨⟨⟨_, .lst (x7 _ _ ((s5.trans s6) _ _ e4) nmp)⟩, fun z => nmp (by cases z; rfl)⟩, rfl⟩
      · exact ⟨⟨⟨_, .dK (x7 _ _ (s6 _ _ e5) ndp)⟩, fun z => ndp (by cases z; rfl)⟩, rfl⟩
    have hl7 := xH7 _ _ hl nlp
    clear x7 e6 s6 s3 s4 s5 hl1 x1 st1 st6 ep6 e3 e4 e5 hat s16 nLp ntp nmp ndp hL ht hm hd
    have it : ∀ {H' : Hp} {y : V}, y ∈ tv x → PlT K H' y ∧ y ≠ .ref p := fun {H' y} h => by
      simp only [List.mem_cons, List.not_mem_nil, or_false] at h
      rcases h with rfl | rfl | rfl <;> exact ⟨⟨_, .int _⟩, fun z => by cases z⟩
    have lt3 : (tv x).length = 3 := rfl
    generalize tv x = ls at hl7 it lt3
    have ea : a = (a.toNat : Int) := by omega
    refine tSeq_i (tAsg_i (cat3n (l := l) (ls := ls) (a := a) (fun ms H' => ms = [odd]) (fun _ h => h) rfl rfl hl7 (by omega) (fun H8 Q8 s8 k8 => ⟨_, rfl, (by show 1 ≤ sizeLine; decide), fun c hc => k8 c _ _ (same_upd hc) upd_same (by show 1 ≤ 12; decide) rfl⟩) fun bt ms H8 s8 e8 _ em => ?_))
    subst em
    refine gName_i ?_
    dsimp only [List.set]
    have cutE : (cutV ls none (some a) ++ [odd]) ++ cutV ls (some (a + 1)) none = (ls.take a.toNat ++ [odd]) ++ ls.drop (a.toNat + 1) := by
      rw [ea, cut_to (by omega), show ((a.toNat : Int) + 1) = ((a.toNat + 1 : Nat) : Int) by omega, cut_from (by omega), Int.toNat_natCast]
    rw [cutE] at e8
    have st8 := st7.same s8
    have gb : GoodT K p H8 (.ref bt) := by
      refine goodT_tup e8 st8 (fun y hy => ?_) (nt_item lt3 (by omega) good.2)
      rcases List.mem_append.mp hy with hy | hy
      · rcases List.mem_append.mp hy with hy | hy
        · exact it (List.mem_of_mem_take hy)
        · cases List.mem_singleton.mp hy
          exact ⟨s8.plT good.1.1, good.1.2⟩
      · exact it (List.mem_of_mem_drop hy)
    have hl8 := s8 _ _ hl7
    refine ⟨_, rfl, _, rfl, _, rfl, _, rfl, _, rfl, l, _, rfl, hl8, fun c9 H9 s9 e9 => ?_⟩
    have z9 : cutV ls none (some 2) = ls.take 2 := cut_to (k := 2) (by omega)
    rw [z9] at e9
    have st9 := st8.same s9
    have g9 : GoodT K p H9 (.ref c9) := goodT_tup e9 st9 (fun y hy => it (List.mem_of_mem_take hy)) (nt_len (by rw [List.length_take]; omega))
    have hl9 := s9 _ _ hl8
    refine ⟨_, rfl, (by show 1 ≤ sizeLine; decide), fun t10 ht10 => ?_⟩
    have s10' := same_upd (o := .tup [V.int 0]) ht10
    refine catA (s10' _ _ hl9) upd_same (by rw [sizeLine_eq]; show ls.length + 1 ≤ _; omega) fun c10 H10 s10 e10 => ?_
    have s910 := s10'.trans s10
    have st10 := st9.same s910
    have hl10 := s910 _ _ hl9
    have g10 : GoodT K p H10 (.ref c10) := goodT_tup e10 st10 (fun y hy => by
      rcases List.mem_append.mp hy with hy | hy
      · exact it hy
      · cases List.mem_singleton.mp hy
        exact ⟨⟨_, .int 0⟩, fun z => by cases z⟩) (nt_len (by rw [List.length_append]; show ls.length + 1 ≠ 3; omega))
    refine ⟨_, rfl, l, _, rfl, .inr (SqT.of hl10), fun m11 hm11 => ?_⟩
    have s11 := same_upd (o := .lst ls) hm11
    have e11 : upd H10 m11 (.lst ls) m11 = some (.lst ls) := upd_same
    generalize upd H10 m11 (.lst ls) = H11 at s11 e11
    have nm11 : m11 ≠ p := fun z => by
      obtain ⟨u, v, e, _⟩ := id st10
      rw [z, e] at hm11
      cases hm11
    have st11 := st10.same s11
    have g11 : GoodT K p H11 (.ref m11) := goodT_none (by rw [tupOf_r, e11]; rfl) ⟨_, .lst e11⟩ (fun z => nm11 (by cases z; rfl))
    refine fun d12 hd12 => ?_
    have s12 := same_upd (o := .dK []) hd12
    have e12 : upd H11 d12 (.dK []) d12 = some (.dK []) := upd_same
    generalize upd H11 d12 (.dK []) = H12 at s12 e12
    have st12 := st11.same s12
    have nd12 : d12 ≠ p := fun z => by
      obtain ⟨u, v, e, _⟩ := id st11
      rw [z, e] at hd12
      cases hd12
    have g12 : GoodT K p H12 (.ref d12) := goodT_none (by rw [tupOf_r, e12]; rfl) ⟨_, .dK e12⟩ (fun z => nd12 (by cases z; rfl))
    have gn : GoodT K p H12 .non := goodT_none rfl ⟨_, .non⟩ (fun z => by cases z)
    have gi : GoodT K p H12 (.int 0) := goodT_none rfl ⟨_, .int 0⟩ (fun z => by cases z)
    have gs : GoodT K p H12 (.str "000") := goodT_none rfl ⟨_, .str _⟩ (fun z => by cases z)
    have g11' := goodT_same g11 s12
    have g10' := goodT_same g10 (s11.trans s12)
    have g9' := goodT_same g9 (s910.trans (s11.trans s12))
    have gb' := goodT_same gb (s9.trans (s910.trans (s11.trans s12)))
    refine ⟨(by show 10 ≤ sizeLine; decide), fun Z hZ => ?_⟩
    have all : ∀ v ∈ [V.ref bt, V.ref bt, V.ref bt, V.ref c9, V.ref c10, V.ref m11, V.non, V.int 0, V.str "000", V.ref d12], GoodT K p H12 v := fun v hv => by
      simp only [List.mem_cons, List.not_mem_nil, or_false] at hv
      rcases hv with rfl | rfl | rfl | rfl | rfl | rfl | rfl | rfl | rfl | rfl
      · exact gb'
      · exact gb'
      · exact gb'
      · exact g9'
      · exact g10'
      · exact g11'
      · exact gn
      · exact gi
      · exact gs
      · exact g12
    have lA : ([V.ref bt, V.ref bt, V.ref bt, V.ref c9, V.ref c10, V.ref m11, V.non, V.int 0, V.str "000", V.ref d12] : List V).length = 10 := rfl
    generalize [V.ref bt, V.ref bt, V.ref bt, V.ref c9, V.ref c10, V.ref m11, V.non, V.int 0, V.str "000", V.ref d12] = zs at all lA
    have s13 := same_upd (o := .lst zs) hZ
    have e13 : upd H12 Z (.lst zs) Z = some (.lst zs) := upd_same
    generalize upd H12 Z (.lst zs) = H13 at s13 e13
    have st13 := st12.same s13
    refine ⟨_, rfl, p, 10, rfl, st13, by decide, by decide, fun r2 o14 r20 r21 st14 => ?_⟩
    have nZp : Z ≠ p := by
      obtain ⟨u, v, e, _⟩ := id st13
      exact ne_of e13 e (by intro z; cases z; cases lA)
    have x14 : SameX p H13 (upd H13 p o14) := SameX.upd
    generalize upd H13 p o14 = H14 at x14 st14
    have hlt2 : r2.toNat < zs.length := by omega
    have hat2 := atI_nat (List.getElem?_eq_getElem hlt2)
    rw [Int.toNat_of_nonneg r20] at hat2
    refine ⟨Z, _, _, _, rfl, rfl, SqL.of (x14 _ _ e13 nZp), hat2, ?_⟩
    refine q _ _ (xH7.trans ((s8.trans (s9.trans (s910.trans (s11.trans (s12.trans s13))))).x.trans x14)) st14 ?_
    exact goodT_x (goodT_same (all _ (List.getElem_mem hlt2)) s13) x14
end
end U
-- part K11q
set_option Elab.async false
set_option linter.all false
set_option maxRecDepth 100000
set_option maxHeartbeats 40000000
namespace L2
open PySem PySem.Spec PyProof.Rows SeqAt
section
variable {X : Cx}
/-! ### == of lists of words that are alike -/
theorem op_eqLS (hu : X.A.units < cLine) : OpR X (compareOp .Eq) (fun x y H Q => ∃ (a b : Addr) (xs : List Str), x = .ref a ∧ y = .ref b ∧ SqL X.K H a (xs.map V.str) ∧ SqL X.K H b (xs.map V.str) ∧ Q (.bl true) H) := by
  intro pins s σ H x y u v Q I rx ry h
  obtain ⟨a, b, xs, rfl, rfl, ha, hb, q⟩ := h
  cases rx
  cases ry
  obtain ⟨us, r1, p1, _⟩ := I.list ha
  obtain ⟨vs, r2, p2, _⟩ := I.list hb
  have l1 := r1.length
  have l2 := r2.length
  rw [List.length_map] at l1 l2
  refine eq_listAt (e := fun _ => true) p1.isList p2.isList (by simp; omega) hu (fun j h1 h2 => ?_) ?_
  · have hj : j < xs.length := by simp at h1; omega
    have e : (xs.map V.str)[j]? = some (V.str xs[j]) := by simp [hj]
    obtain ⟨u, hu', ru⟩ := r1.get e
    obtain ⟨v, hv', rv⟩ := r2.get e
    have e1 : us.toArray[j] = u := by simpa using (List.getElem?_eq_some_iff.mp hu').2
    have e2 : vs.toArray[j] = v := by simpa using (List.getElem?_eq_some_iff.mp hv').2
    rw [e1, e2]
    obtain ⟨t1, rfl⟩ := ru
    obtain ⟨t2, rfl⟩ := rv
    have y := EqAt.str_str (A := X.A.in1) (s := s) xs[j] t1 xs[j] t2
    simpa using y
  · have e : (List.range us.toArray.size).all (fun _ => true) = true := by simp
    rw [e]
    exact ⟨.bl _, H, I, rfl, q⟩
end
end L2
namespace U
open PySem L2 PyProof.Rows
/-! ### lambdas in a list -/
section
variable {Y : Cx} {cS fR : Addr} {kf : Nat}
theorem run_wordY {pins : List (Addr × Obj)} {σ : L2.St} {H : Hp} {s : Shared} {f C : Addr} {iC : Nat} {q : Str} {params : Arguments} {bd : Expr} {scope : Scope} {cl : List (Str × Addr)} {Q : VK} {N : List Str} {ws : List V} {Pre : Hp → Prop}
    (hR : ∀ b', Def Y.prog Y.w Y.K Y.mg b' (kf + 2) "_law_word" ["_law_call"] (spWord Y.prog Y.w Y.K Y.mg b' cS (kf + 1))) (room : Room (kf + 2) Y.A) (mR : Y.mg "_law_word" = some (.ref fR))
    (LS : LScopeN params bd scope N) (I : Inv Y pins σ H s) (hl : LamAt H f q params bd scope cl) (hlen : ws.length = N.length) (hcl : ∀ (i : Nat) x v, N[i]? = some x → ws[i]? = some v → CellAt Y cl x v H s) (hmem : ∀ z c, cl.lookup z = some c → (z, NameKind.free) ∈ scope.names)
    (hinj : ∀ a b c, cl.lookup a = some c → cl.lookup b = some c → a = b) (M : Mk15 Y.K Y.mg cS C iC) (bad : BodyN Y kf C f q bd scope cl N ws Pre) (pre : Pre H) (hq : ∀ H', Same H H' → Q (.str (wordOf iC)) H') :
    wpAny (model Y.prog Y.w) Y.A (call (.ref fR) [.ref f]) (EP Y pins σ Q) Y.xe s := by
  obtain ⟨base', st, e0, cov⟩ := I.rebase
  obtain ⟨pm, cc, ct, hf, hc⟩ := hl
  have T : Cells base' scope cl N ws := ⟨hlen, fun u hu => by
      rcases hu with hu | hu
      · exact absurd rfl (LS.nocell _ (PySem.mem_of_lookup hu))
      · exact LS.only _ (PySem.mem_of_lookup hu) rfl, fun i a v h1 h2 => by
      obtain ⟨ax, ux, lx, ⟨ox, gx, dx⟩, rx, nx, fx⟩ := hcl i a v h1 h2
      exact ⟨LS.free a (List.mem_of_getElem? h1), ax, ux, lx, ⟨ox, cov _ _ gx nx fx, dx⟩, rx⟩, fun u c h => LS.only _ (hmem u c h) rfl, hinj⟩
  have FL : FnOk Y.prog Y.w Y.K Y.mg base' (CXR Y.prog Y.w) (kf + 1) f (PySem.W.kla_fn "<lambda>" q params bd scope cl pm (.ref cc) ct) []
      (fun vs H2 Q2 E2 => (vs = [] ∧ H2 f = some (lamO f q params bd scope cl pm cc ct) ∧ H2 cc = some (codeO cc q)) ∧ Pre H2 ∧ ∀ e H', Same H2 H' → E2 (.ref e) (some C) H') := by
    refine lam_okN (k := kf) T LS.kind LS.co LS.gen LS.nocell (fun vs H2 Q2 E2 h => h.1) fun A outer s2 H2 Q2 E2 hr2 h => ?_
    exact bad base' cc A outer s2 H2 Q2 E2 hr2 h.2.1 h.2.2
  obtain ⟨fR', fdR, FR, hm', hk, hb⟩ := hR base'
  rw [mR] at hm'
  cases hm'
  refine wpAny_call (codeAny_mono (FR.run Y.A Y.stack s H ⟨[.ref f], []⟩ [.ref f] [.ref f] Q E0 room e0 (hb s [.ref f] I.kIn rfl) (.cons rfl .nil)
    ⟨f, _, _, C, iC, rfl, M, fun h hok => ?_, FL, fun s2 => .of_eq (LS.bind q cl pm cc ct), fun Q' E' hE => ⟨⟨rfl, hf, hc⟩, pre, hE⟩, hq⟩) fun r s' h => ?_)
  · have z : h.get? f = some _ := (hok f _ hf).1
    exact ⟨_, _, _, _, z⟩
  · cases r with
    | error e => exact h.elim
    | ok fl =>
      cases fl with
      | ret u => exact I.after h
      | next => exact False.elim h
      | brk => exact False.elim h
      | cont => exact False.elim h
end
section
variable {X : Cx} {cS c P fR : Addr} {kf : Nat}
theorem cell_blk {pins : List (Addr × Obj)} {σ : L2.St} {H : Hp} {s : Shared} {N' : List Str} {scope sc2 : Scope} {C : Addr} {s0 : Shared} {H0 : Hp} {fp : List Addr} {x : Str} {v : V} {p0 : List (Addr × Obj)} {σ0 : L2.St} (I0 : Inv X p0 σ0 H0 s0) (hf : ∀ b ∈ fp, FpOk X p0 H0 b) (c0 : CellAt X (clOf sc2 X.env) x v H0 s0) (hk : X.env.scope.names.lookup x = some .cell)
    (J : Inv (blk X N' scope C s0 H0 fp) pins σ H s) : CellAt (blk X N' scope C s0 H0 fp) (clOf sc2 X.env) x v H s := by
  obtain ⟨c, u, h1, ⟨o, h2, h3⟩, h4, h5, h6⟩ := c0
  have u0 : Un (frs X.stack) fp H0 H s0.heap s.heap := J.base
  have nfp : c ∉ fp := fun hm => by
    obtain ⟨a, ha⟩ := I0.ok.has x (.inl hk)
    have e1 := (clOf_mem h1).1
    rw [ha] at e1
    have z : c = a := e1
    subst z
    obtain ⟨_, _, _, _, f4, _⟩ := hf c hm
    exact f4 x c ha rfl
  exact ⟨c, u, h1, ⟨o, u0.keep c o h2 h5 h6 nfp, h3⟩, h4, u0.free c o h2 h5 nfp, h6⟩
/-- what is known of a lambda of the def: its text, its names and their values, and that it refuses -/
structure AskN (X : Cx) (cS : Addr) (kf : Nat) (σ0 : L2.St) (H : Hp) (f : Addr) (iC : Nat) (params : Arguments) (bd : Expr) (scope : Scope) (N : List Str) (idx : List Nat) (ws : List V) (C : Addr) (Pre : Hp → Prop) : Prop where
  ls : LScopeN params bd scope N
  hN : idx.length = N.length
  ln : ∀ (k : Nat) x i, N[k]? = some x → idx[k]? = some i → LN X x i
  hws : ws.length = idx.length
  hσ : ∀ (k i : Nat) v, idx[k]? = some i → ws[k]? = some v → σ0[i]? = some (some v)
  fr : ∀ z ∈ scope.names, z.2 = .free → X.env.kindOf z.1 = some .cell ∨ X.env.kindOf z.1 = some .free
  lam : LamAt H f (lq X) params bd scope (clOf scope X.env)
  mr : Mk15 X.K X.mg cS C iC
  body : BodyN X kf C f (lq X) bd scope (clOf scope X.env) N ws Pre
  pre : Pre H
def tWordB (X : Cx) (cS : Addr) (kf : Nat) (σ0 : L2.St) : TE := fun σ H Q => ∃ f iC, σ[0]? = some (some (.ref f)) ∧ (∃ params bd scope N idx ws C Pre, AskN X cS kf σ0 H f iC params bd scope N idx ws C Pre) ∧ ∀ H', Same H H' → Q (.str (wordOf iC)) H'
theorem pe_wordB {N' : List Str} {bs : Scope} {B : Addr} {s0 : Shared} {H0 : Hp} {fp : List Addr} {p0 : List (Addr × Obj)} {σ0 : L2.St} {p p' pos : Pos} {cn : Str}
    (hR : ∀ b', Def X.prog X.w X.K X.mg b' (kf + 2) "_law_word" ["_law_call"] (spWord X.prog X.w X.K X.mg b' cS (kf + 1))) (room : Room (kf + 2) X.A) (mR : X.mg "_law_word" = some (.ref fR)) (kR : PySem.W.keepIn X.K (.ref fR) = true) (I0 : Inv X p0 σ0 H0 s0) (hf : ∀ b ∈ fp, FpOk X p0 H0 b)
    (hg : Gl (blk X N' bs B s0 H0 fp) "_law_word") (hv : PE (blk X N' bs B s0 H0 fp) (.Name cn p') (tVar 0)) :
    PE (blk X N' bs B s0 H0 fp) (.Call (.Name "_law_word" p) [.Name cn p'] [] pos) (tWordB X cS kf σ0) := by
  intro pins s σ H Q J h
  obtain ⟨f, iC, hσ, ⟨params, bd, scope, N, idx, ws, C, Pre, ask⟩, q⟩ := h
  refine wpAny_Call_Name_kw (ld_glob J hg mR ?_ (by decide))
  have ha : PA (blk X N' bs B s0 H0 fp) [.Name cn p'] _ := pa_cons hv pa_nil
  refine PySem.W.callWith_K (h₀ := X.base) J.ok.mod.kin kR (thn (ha pos pins s σ H (fun vs H1 => vs = [.ref f] ∧ H1 = H) J ⟨_, hσ, rfl, rfl⟩) fun us s3 ⟨vs, H1, J1, r, ev, eh⟩ => ⟨J1.kIn, ?_⟩) rfl rfl
  subst ev eh
  obtain ⟨u, rfl, ru⟩ := vals1 r
  cases ru
  refine run_wordY (Y := blk X N' bs B s0 H0 fp) (kf := kf) hR room mR ask.ls J1 ask.lam (by rw [ask.hws, ask.hN]) (fun i x v h1 h2 => ?_) (fun z c h => cl_mem h) (fun a b c h1 h2 => ?_) ask.mr ask.body ask.pre q
  · have hi : i < idx.length := by
      have := (List.getElem?_eq_some_iff.mp h1).1
      rw [ask.hN]
      exact this
    have ei := List.getElem?_eq_getElem hi
    have n := ask.ln i x _ h1 ei
    exact cell_blk I0 hf (cell_own I0 n.nx (ask.hσ i _ v ei h2) n.kx n.fx (PySem.mem_of_lookup (ask.ls.free x (List.mem_of_getElem? h1)))) n.kx J1
  obtain ⟨e1, m1⟩ := clOf_mem h1
  obtain ⟨e2, m2⟩ := clOf_mem h2
  obtain ⟨c1, g1⟩ := I0.ok.has a (ask.fr _ m1 rfl)
  obtain ⟨c2, g2⟩ := I0.ok.has b (ask.fr _ m2 rfl)
  rw [g1] at e1
  rw [g2] at e2
  have z1 : c1 = c2 := by
    have y1 : _ = c1 := e1
    have y2 : _ = c2 := e2
    rw [← y1, ← y2]
  subst z1
  exact I0.ok.inj _ _ _ g1 g2
/-! ### the bodies: a call of names alone -/
def cB2 (fn x y : Str) (p1 p2 p3 p4 : Pos) : Expr := .Call (.Name fn p1) [.Name x p2, .Name y p3] [] p4
theorem body3 {k' : Nat} {fn x y z : Str} {ps : List Str} {sp : Sp} {scope : Scope} {C f : Addr} {q : Str} {cl : List (Str × Addr)} {vx vy vz : V} {p1 p2 p3 p4 p5 : Pos} (hk' : k' ≤ kf) (hU : ∀ b', DefR X.prog X.w X.K X.mg b' k' fn ps sp) (gl : scope.names.lookup fn = some .globalImplicit)
    (kx : scope.names.lookup x = some .free) (ky : scope.names.lookup y = some .free) (kz : scope.names.lookup z = some .free) (dx : (x == ("__debug__" : Str)) = false) (dy : (y == ("__debug__" : Str)) = false) (dz : (z == ("__debug__" : Str)) = false)
    (ex : (x == ("__classdict__" : Str)) = false) (ey : (y == ("__classdict__" : Str)) = false) (ez : (z == ("__classdict__" : Str)) = false) (hfd : (fn == ("__debug__" : Str)) = false) :
    BodyN X kf C f q (cB fn x y z p1 p2 p3 p4 p5) scope cl [x, y, z] [vx, vy, vz] (Refuses sp [vx, vy, vz] C) := by
  intro base' cc A outer s2 H2 Q2 E2 hr pre hE
  obtain ⟨g, fd, F, hg, hk, hb⟩ := hU base'
  refine ⟨_, pe_call (X := cxL X.prog X.w X.K X.mg base' [x, y, z] q scope f (.ref cc) cl A outer s2 H2 E2) F (hr.mono hk') gl hg hk hb .nil (E := E2) (passR' (X := cxL X.prog X.w X.K X.mg base' [x, y, z] q scope f (.ref cc) cl A outer s2 H2 E2) (fun e s' z => z) rfl rfl rfl)
    (pa_cons (pe_var (i := 0) rfl (.inr (.inr kx)) dx ex) (pa_cons (pe_var (i := 1) rfl (.inr (.inr ky)) dy ey) (pa_cons (pe_var (i := 2) rfl (.inr (.inr kz)) dz ez) pa_nil))) hfd, ?_⟩
  exact ⟨vx, rfl, vy, rfl, vz, rfl, pre Q2 E2 hE⟩
theorem body2 {k' : Nat} {fn x y : Str} {ps : List Str} {sp : Sp} {scope : Scope} {C f : Addr} {q : Str} {cl : List (Str × Addr)} {vx vy : V} {p1 p2 p3 p4 : Pos} (hk' : k' ≤ kf) (hU : ∀ b', DefR X.prog X.w X.K X.mg b' k' fn ps sp) (gl : scope.names.lookup fn = some .globalImplicit)
    (kx : scope.names.lookup x = some .free) (ky : scope.names.lookup y = some .free) (dx : (x == ("__debug__" : Str)) = false) (dy : (y == ("__debug__" : Str)) = false)
    (ex : (x == ("__classdict__" : Str)) = false) (ey : (y == ("__classdict__" : Str)) = false) (hfd : (fn == ("__debug__" : Str)) = false) :
    BodyN X kf C f q (cB2 fn x y p1 p2 p3 p4) scope cl [x, y] [vx, vy] (Refuses sp [vx, vy] C) := by
  intro base' cc A outer s2 H2 Q2 E2 hr pre hE
  obtain ⟨g, fd, F, hg, hk, hb⟩ := hU base'
  refine ⟨_, pe_call (X := cxL X.prog X.w X.K X.mg base' [x, y] q scope f (.ref cc) cl A outer s2 H2 E2) F (hr.mono hk') gl hg hk hb .nil (E := E2) (passR' (X := cxL X.prog X.w X.K X.mg base' [x, y] q scope f (.ref cc) cl A outer s2 H2 E2) (fun e s' z => z) rfl rfl rfl)
    (pa_cons (pe_var (i := 0) rfl (.inr (.inr kx)) dx ex) (pa_cons (pe_var (i := 1) rfl (.inr (.inr ky)) dy ey) pa_nil)) hfd, ?_⟩
  exact ⟨vx, rfl, vy, rfl, pre Q2 E2 hE⟩
/-! ### the list of the lambdas -/
abbrev noA : Arguments := { posonlyargs := [], args := [], vararg := none, kwonlyargs := [], kw_defaults := [], kwarg := none, defaults := [] }
def LmAt (X : Cx) (H : Hp) (v : V) (b : Expr × Scope) : Prop := ∃ f : Addr, v = .ref f ∧ LamAt H f (lq X) noA b.1 b.2 (clOf b.2 X.env)
theorem LmAt.same {H H' : Hp} {v : V} {b : Expr × Scope} (h : LmAt X H v b) (s : Same H H') : LmAt X H' v b := by
  obtain ⟨f, e, l⟩ := h
  exact ⟨f, e, l.same s⟩
theorem LmAt.x {H H' : Hp} {v : V} {b : Expr × Scope} {p : Addr} {o : HO} (h : LmAt X H v b) (s : SameX p H H') (hp : H p = some o) (ho : ∀ F, o ≠ .ext F) : LmAt X H' v b := by
  obtain ⟨f, e, pm, c, ct, h1, h2⟩ := h
  exact ⟨f, e, pm, c, ct, s _ _ h1 (fun z => by rw [z, hp] at h1; cases h1; exact ho _ rfl), s _ _ h2 (fun z => by rw [z, hp] at h2; cases h2; exact ho _ rfl)⟩
/-- the lambdas so far, in their list; all else stands -/
structure Lms (X : Cx) (P L : Addr) (H0 H : Hp) (bs : List (Expr × Scope)) : Prop where
  sx : SameX P H0 H
  fr : H0 L = none
  tb : TabAt H P (lq X)
  ls : ∃ vs, H L = some (.lst vs) ∧ Paired (LmAt X H) vs bs
theorem Lms.lst {L : Addr} {H0 H : Hp} {bs : List (Expr × Scope)} (h : Lms X P L H0 H bs) : ∃ vs, H L = some (.lst vs) ∧ vs.length = bs.length := by
  obtain ⟨vs, hL, pr⟩ := h.ls
  exact ⟨vs, hL, Paired.length pr⟩
theorem Lms.at1 {L : Addr} {H0 H H1 : Hp} {bs : List (Expr × Scope)} {vs : List V} (h : Lms X P L H0 H bs) (hv : H L = some (.lst vs)) (s1 : SameX P H H1) : H1 L = some (.lst vs) := by
  obtain ⟨tp, etp, _⟩ := h.tb
  exact s1 _ _ hv fun z => by rw [z, etp] at hv; cases hv
theorem Lms.app {L f : Addr} {H0 H H1 : Hp} {bs : List (Expr × Scope)} {bd : Expr} {sc : Scope} {vs : List V} (h : Lms X P L H0 H bs) (hv : H L = some (.lst vs)) (s1 : SameX P H H1) (t1 : TabAt H1 P (lq X)) (l1 : LamAt H1 f (lq X) noA bd sc (clOf sc X.env)) : Lms X P L H0 (upd H1 L (.lst (vs ++ [.ref f]))) (bs ++ [(bd, sc)]) := by
  have hL1 := h.at1 hv s1
  obtain ⟨sx, fr, tb, vs', hL, pr⟩ := h
  rw [hv] at hL
  cases hL
  obtain ⟨tp, etp, _⟩ := id tb
  have x2 : SameX L H1 (upd H1 L (.lst (vs ++ [.ref f]))) := SameX.upd
  have p1 : Paired (LmAt X (upd H1 L (.lst (vs ++ [.ref f])))) vs bs := Paired.mapP pr fun v b h => (h.x s1 etp (fun _ z => by cases z)).x x2 hL1 (fun _ z => by cases z)
  exact ⟨sameX_updN (sx.trans s1) fr, fr, tab_x t1 x2 hL1 (fun _ z => by cases z) (fun _ z => by cases z), _, upd_same, Paired.snoc p1 (LmAt.x (b := (bd, sc)) ⟨f, rfl, l1⟩ x2 hL1 (fun _ z => by cases z))⟩
theorem lms_one {H0 H1 : Hp} {L f : Addr} {bd : Expr} {sc : Scope} (tb : TabAt H0 P (lq X)) (s1 : SameX P H0 H1) (t1 : TabAt H1 P (lq X)) (l1 : LamAt H1 f (lq X) noA bd sc (clOf sc X.env)) (hL : H1 L = none) : Lms X P L H0 (upd H1 L (.lst [.ref f])) [(bd, sc)] := by
  obtain ⟨tp1, etp1, _⟩ := id t1
  have s2 := same_upd (o := .lst [V.ref f]) hL
  have nLP : L ≠ P := fun z => by rw [z, etp1] at hL; cases hL
  have fr : H0 L = none := by
    cases h : H0 L with
    | none => rfl
    | some u => rw [s1 _ _ h nLP] at hL; cases hL
  exact ⟨s1.trans s2.x, fr, tab_same t1 s2, _, upd_same, .cons ⟨f, rfl, l1.same s2⟩ .nil⟩
end
end U
-- part K11s
set_option Elab.async false
set_option linter.all false
set_option maxRecDepth 100000
set_option maxHeartbeats 40000000
namespace U
open PySem L2 PyProof.Rows
/-- the same but at the places of ps -/
def SameXs (ps : List Addr) (H H' : Hp) : Prop := ∀ b o, H b = some o → b ∉ ps → H' b = some o
theorem SameXs.trans {ps : List Addr} {H H1 H2 : Hp} (a : SameXs ps H H1) (b : SameXs ps H1 H2) : SameXs ps H H2 := fun c o h n => b c o (a c o h n) n
theorem Same.xs {ps : List Addr} {H H1 : Hp} (a : Same H H1) : SameXs ps H H1 := fun c o h _ => a c o h
theorem SameX.xs {p : Addr} {ps : List Addr} {H H1 : Hp} (a : SameX p H H1) (h : p ∈ ps) : SameXs ps H H1 := fun c o e n => a c o e fun z => n (by rw [z]; exact h)
theorem noRef_tbl {K : PySem.W.Frag} {H : Hp} {Pt : Addr} {ps : Array Value} {v : V} (t : Pl1 K H v) (h : H Pt = some (.tbl ps)) : NoRef Pt H v := ⟨plT_tbl t.1 h, fun xs e y hy => plT_tbl (t.2 xs e y hy) h⟩
theorem BoardAt.x {H H' : Hp} {p : Addr} {x : V} {wd hg : Int} (b : BoardAt H x wd hg) (s : SameX p H H') (hn : x ≠ .ref p) : BoardAt H' x wd hg := by
  obtain ⟨a, e, h⟩ := tupOf_some b.1
  subst e
  exact ⟨tupOf_ref (s _ _ h fun z => hn (by rw [z])), b.2⟩
theorem BoardAt.tbl {H : Hp} {Pt : Addr} {ps : Array Value} {x : V} {wd hg : Int} (b : BoardAt H x wd hg) (h : H Pt = some (.tbl ps)) : x ≠ .ref Pt := by
  obtain ⟨a, e, h'⟩ := tupOf_some b.1
  subst e
  intro z
  cases z
  rw [h] at h'
  cases h'
theorem LayAt.xt {K : PySem.W.Frag} {H H' : Hp} {Pt : Addr} {ps : Array Value} {x : V} {l : Addr} {xs : List V} {wd hg : Int} (a : LayAt K H x l xs wd hg) (s : SameX Pt H H') (hp : H Pt = some (.tbl ps)) : LayAt K H' x l xs wd hg :=
  ⟨a.bd.x s (a.bd.tbl hp), s _ _ a.at_ (fun z => by have h := a.at_; rw [z, hp] at h; cases h), a.ly⟩
theorem BadTr.xt {K : PySem.W.Frag} {H H' : Hp} {Pt : Addr} {ps : Array Value} {x : V} (b : BadTr K H x) (s : SameX Pt H H') (hp : H Pt = some (.tbl ps)) : BadTr K H' x :=
  ⟨pl1_x b.1 s (noRef_tbl b.1 hp), by rw [tupOf_x b.1.1 s (plT_tbl b.1.1 hp)]; exact b.2⟩
section
variable {P : Program} {w : World} {K : PySem.W.Frag} {mg : Str → Option Value} {base : Heap}
/-- all that the lambdas speak of -/
structure Facts (K : PySem.W.Frag) (H : Hp) (b l t : Addr) (xs : List V) (wd hg : Int) (q : Bool × Bool × Bool) (vn vb vo : V) : Prop where
  la : LayAt K H (.ref b) l xs wd hg
  ht : H t = some (.tup (tv q))
  bn : BadBoard K H vn
  bl1 : Pl1 K H vb
  bl2 : isLayV wd hg (tupOf H vb) = false
  bo : BadTr K H vo
theorem Facts.xt {H H' : Hp} {b l t Pt : Addr} {ps : Array Value} {xs : List V} {wd hg : Int} {q : Bool × Bool × Bool} {vn vb vo : V} (f : Facts K H b l t xs wd hg q vn vb vo) (s : SameX Pt H H') (hp : H Pt = some (.tbl ps)) : Facts K H' b l t xs wd hg q vn vb vo :=
  ⟨f.la.xt s hp, s _ _ f.ht (fun z => by have h := f.ht; rw [z, hp] at h; cases h), badB_x f.bn s (noRef_tbl f.bn.1 hp), pl1_x f.bl1 s (noRef_tbl f.bl1 hp), by rw [tupOf_x f.bl1.1 s (plT_tbl f.bl1.1 hp)]; exact f.bl2, f.bo.xt s hp⟩
abbrev sRR : Stmt := top 52
abbrev nRR : List Str := ["_law_state_here", "_law_board", "_law_lay_here", "_law_turn_here", "_law_calls", "_law_bad", "_law_none", "_law_odd"]
theorem scRR : FnScope nRR ["_law_state_here", "_law_board", "_law_lay_here", "_law_turn_here"] (defScope sRR) := ⟨rfl, rfl, rfl, by decide +kernel, rfl, by decide +kernel, by decide +kernel⟩
abbrev qRR : Str := "_law_refused_right.<locals>.<lambda>"
abbrev fnS (ns : List (Str × NameKind)) : Scope := { kind := .function, names := ns, isGenerator := false, isCoroutine := false }
abbrev s1' : Scope := fnS [("_law_bad", .free), ("_law_none", .free), ("_law_odd", .free), ("turned", .globalImplicit)]
abbrev s2' : Scope := fnS [("_law_none", .free), ("_law_odd", .free), ("turned_board", .globalImplicit)]
abbrev s3' : Scope := fnS [("_law_bad", .free), ("_law_board", .free), ("_law_odd", .free), ("turned", .globalImplicit)]
abbrev s4' : Scope := fnS [("_law_board", .free), ("_law_lay_here", .free), ("_law_odd", .free), ("turned", .globalImplicit)]
abbrev s5' : Scope := fnS [("_law_board", .free), ("_law_odd", .free), ("turned_board", .globalImplicit)]
abbrev s6' : Scope := fnS [("_law_odd", .free), ("_law_turn_here", .free), ("turns_together", .globalImplicit)]
theorem ls3 {fn x y z : Str} {p1 p2 p3 p4 p5 : Pos} {scope : Scope} (h : (decide (scope.kind = .function) && !scope.isCoroutine && !scope.isGenerator && scope.names.all (fun z => z.2 != .cell) && scope.names.all (fun u => u.2 != .free || (u.1 == x || (u.1 == y || u.1 == z))) && (scope.names.lookup x == some .free) && (scope.names.lookup y == some .free) && (scope.names.lookup z == some .free)) = true) : LScopeN noA (cB fn x y z p1 p2 p3 p4 p5) scope [x, y, z] := by
  simp only [Bool.and_eq_true, Bool.not_eq_true', decide_eq_true_eq, beq_iff_eq, List.all_eq_true, bne_iff_ne, ne_eq, Bool.or_eq_true] at h
  obtain ⟨⟨⟨⟨⟨⟨⟨h1, h2⟩, h3⟩, h4⟩, h5⟩, h6⟩, h7⟩, h8⟩ := h
  refine ⟨h1, h2, h3, h4, fun u hu e => ?_, fun u hu => ?_, fun _ _ _ _ _ => rfl⟩
  · rcases h5 u hu with z | z
    · exact absurd e z
    · simpa using z
  · simp only [List.mem_cons, List.not_mem_nil, or_false] at hu
    rcases hu with rfl | rfl | rfl
    · exact h6
    · exact h7
    · exact h8
theorem ls2 {fn x y : Str} {p1 p2 p3 p4 : Pos} {scope : Scope} (h : (decide (scope.kind = .function) && !scope.isCoroutine && !scope.isGenerator && scope.names.all (fun z => z.2 != .cell) && scope.names.all (fun u => u.2 != .free || (u.1 == x || u.1 == y)) && (scope.names.lookup x == some .free) && (scope.names.lookup y == some .free)) = true) : LScopeN noA (cB2 fn x y p1 p2 p3 p4) scope [x, y] := by
  simp only [Bool.and_eq_true, Bool.not_eq_true', decide_eq_true_eq, beq_iff_eq, List.all_eq_true, bne_iff_ne, ne_eq, Bool.or_eq_true] at h
  obtain ⟨⟨⟨⟨⟨⟨h1, h2⟩, h3⟩, h4⟩, h5⟩, h6⟩, h7⟩ := h
  refine ⟨h1, h2, h3, h4, fun u hu e => ?_, fun u hu => ?_, fun _ _ _ _ _ => rfl⟩
  · rcases h5 u hu with z | z
    · exact absurd e z
    · simpa using z
  · simp only [List.mem_cons, List.not_mem_nil, or_false] at hu
    rcases hu with rfl | rfl
    · exact h6
    · exact h7
theorem lns3 {X : Cx} {x y z : Str} {i j l : Nat} (a : LN X x i) (b : LN X y j) (c : LN X z l) : ∀ (k : Nat) u m, ([x, y, z] : List Str)[k]? = some u → ([i, j, l] : List Nat)[k]? = some m → LN X u m
  | 0, _, _, h1, h2 => by cases h1; cases h2; exact a
  | 1, _, _, h1, h2 => by cases h1; cases h2; exact b
  | 2, _, _, h1, h2 => by cases h1; cases h2; exact c
theorem lns2 {X : Cx} {x y : Str} {i j : Nat} (a : LN X x i) (b : LN X y j) : ∀ (k : Nat) u m, ([x, y] : List Str)[k]? = some u → ([i, j] : List Nat)[k]? = some m → LN X u m
  | 0, _, _, h1, h2 => by cases h1; cases h2; exact a
  | 1, _, _, h1, h2 => by cases h1; cases h2; exact b
theorem at3 {σ : L2.St} {x y z : V} {i j l : Nat} (a : σ[i]? = some (some x)) (b : σ[j]? = some (some y)) (c : σ[l]? = some (some z)) : ∀ (k m : Nat) (v : V), ([i, j, l] : List Nat)[k]? = some m → ([x, y, z] : List V)[k]? = some v → σ[m]? = some (some v)
  | 0, _, _, h1, h2 => by cases h1; cases h2; exact a
  | 1, _, _, h1, h2 => by cases h1; cases h2; exact b
  | 2, _, _, h1, h2 => by cases h1; cases h2; exact c
theorem at2 {σ : L2.St} {x y : V} {i j : Nat} (a : σ[i]? = some (some x)) (b : σ[j]? = some (some y)) : ∀ (k m : Nat) (v : V), ([i, j] : List Nat)[k]? = some m → ([x, y] : List V)[k]? = some v → σ[m]? = some (some v)
  | 0, _, _, h1, h2 => by cases h1; cases h2; exact a
  | 1, _, _, h1, h2 => by cases h1; cases h2; exact b
def wordsRR : List Str := ["board", "board", "lay", "turn", "turn", "turn", "turn"]
def spRR (K : PySem.W.Frag) (Pr : Addr) : Sp := fun vs H Q _ => ∃ (p b l t : Addr) (xs : List V) (wd hg : Int) (q : Bool × Bool × Bool), vs = [.ref p, .ref b, .ref l, .ref t] ∧ StAt H p ∧ LayAt K H (.ref b) l xs wd hg ∧ H t = some (.tup (tv q)) ∧ TabAt H Pr qRR ∧ ∀ H', SameXs [p, Pr] H H' → StAt H' p → TabAt H' Pr qRR → Q (.bl true) H'
theorem ok_rr {f c Pr fR cS aB aL aT : Addr} {oc : Value} {od an : Option Addr} {kV doc pm ct : Value} {osl : Array (Option Value)}
    (lk : K.lookup f = some ⟨oc, od, .func (PySem.W.fnOf "_law_refused_right" "_law_refused_right" (defArgs sRR) (defBody sRR) (defScope sRR) .none kV doc pm an (.ref c) ct), osl⟩) (hcd : PySem.W.codeIn K (.ref c) "_law_refused_right" = true)
    (Dnb : Def P w K mg base 2 "_law_no_board" ["_law_state_here"] (spNoB K)) (Dnl : Def P w K mg base 2 "_law_no_lay" ["_law_state_here", "_law_board", "_law_lay_here"] (spNL K)) (Dnt : Def P w K mg base 2 "_law_no_turn" ["_law_state_here", "_law_turn_here"] (spNoT K))
    (hR : ∀ b', Def P w K mg b' 10 "_law_word" ["_law_call"] (spWord P w K mg b' cS 9)) (hU : ∀ b', DefR P w K mg b' 8 "turned" ["board", "lay", "turn"] (spTux K aB aL aT)) (hV : ∀ b', DefR P w K mg b' 5 "turned_board" ["board", "turn"] (spTBx K aB aT)) (hW : ∀ b', DefR P w K mg b' 5 "turns_together" ["turn", "other"] (spTTx K aT)) (mR : mg "_law_word" = some (.ref fR)) (kR : PySem.W.keepIn K (.ref fR) = true)
    (MB : Mk15 K mg cS aB 0) (ML : Mk15 K mg cS aL 1) (MT : Mk15 K mg cS aT 9) (hC : PySem.W.CodeHd base c Pr)
    (hbm : ∃ bm ob, mg "__builtins__" = some (.ref bm) ∧ bm ≠ builtinsNs ∧ base.get? bm = some ob ∧ ob.cls = .type "module" ∧ ob.dict = some builtinsNs ∧ ob.data = .plain) :
    FnOk P w K mg base CX0 12 f (PySem.W.fnOf "_law_refused_right" "_law_refused_right" (defArgs sRR) (defBody sRR) (defScope sRR) .none kV doc pm an (.ref c) ct) ["_law_state_here", "_law_board", "_law_lay_here", "_law_turn_here"] (spRR K Pr) := by
  refine fn_of lk hcd scRR (fun vs H Q E h => ?_) (fun A outer s H vs Q E hr h => ?_)
  · obtain ⟨p, b, l, t, xs, wd, hg, q, rfl, _⟩ := h
    rfl
  · obtain ⟨p, b, l, t, xs, wd, hg, x, rfl, st, la, ht, tab, q⟩ := h
    have lam : LamX (cxOf CX0 P w K mg base nRR "_law_refused_right" (defScope sRR) f (.ref c) A outer s H E).nox c Pr := ⟨rfl, hC, hbm⟩
    have n1 : LN (cxOf CX0 P w K mg base nRR "_law_refused_right" (defScope sRR) f (.ref c) A outer s H E).nox "_law_board" 1 := ⟨rfl, rfl, rfl⟩
    have n2 : LN (cxOf CX0 P w K mg base nRR "_law_refused_right" (defScope sRR) f (.ref c) A outer s H E).nox "_law_lay_here" 2 := ⟨rfl, rfl, rfl⟩
    have n3 : LN (cxOf CX0 P w K mg base nRR "_law_refused_right" (defScope sRR) f (.ref c) A outer s H E).nox "_law_turn_here" 3 := ⟨rfl, rfl, rfl⟩
    have n5 : LN (cxOf CX0 P w K mg base nRR "_law_refused_right" (defScope sRR) f (.ref c) A outer s H E).nox "_law_bad" 5 := ⟨rfl, rfl, rfl⟩
    have n6 : LN (cxOf CX0 P w K mg base nRR "_law_refused_right" (defScope sRR) f (.ref c) A outer s H E).nox "_law_none" 6 := ⟨rfl, rfl, rfl⟩
    have n7 : LN (cxOf CX0 P w K mg base nRR "_law_refused_right" (defScope sRR) f (.ref c) A outer s H E).nox "_law_odd" 7 := ⟨rfl, rfl, rfl⟩
    have room : Room 10 (cxOf CX0 P w K mg base nRR "_law_refused_right" (defScope sRR) f (.ref c) A outer s H E).nox.A := hr.mono (by decide)
    have hu := Nat.lt_of_succ_lt (hu_of hr)
    have main : ∃ tt, PSs (cxOf CX0 P w K mg base nRR "_law_refused_right" (defScope sRR) f (.ref c) A outer s H E).nox (defBody sRR) tt ∧ tt { nx := fun _ H' => Q .non H', rt := Q } (start nRR [.ref p, .ref b, .ref l, .ref t]) H := by
      refine ⟨_, pss_cons (ps_asg (pe_tup (pa_cons (pe_callD Dnb (hr.mono (by decide)) (pa_cons (pv 0) pa_nil)) (pa_cons (pe_callD Dnl (hr.mono (by decide)) (pa_cons (pv 0) (pa_cons (pv 1) (pa_cons (pv 2) pa_nil)))) (pa_cons (pe_callD Dnt (hr.mono (by decide)) (pa_cons (pv 0) (pa_cons (pv 3) pa_nil))) pa_nil)))) (pg_tup rfl (pgs_cons (pg_name (i := 6) scRR.nd rfl (Or.inr rfl)) (pgs_cons (pg_name (i := 5) scRR.nd rfl (Or.inr rfl)) (pgs_cons (pg_name (i := 7) scRR.nd rfl (Or.inr rfl)) pgs_nil)))))
        (pss_cons (ps_set (i := 4) scRR.nd rfl (Or.inl rfl) (pe_lst (pa_cons (pe_lam (params := noA) (body := cB "turned" "_law_none" "_law_bad" "_law_odd" _ _ _ _ _) (scope := s1') lam rfl (lf_of (by kernel_rfl))) pa_nil)))
        (pss_cons (ps_expr (pe_bm PySem.F.plainAttrs_list PySem.F.slot_list_append PySem.F.type_list_append mt_append (pv 4) (pa_cons (pe_lam (params := noA) (body := cB2 "turned_board" "_law_none" "_law_odd" _ _ _ _) (scope := s2') lam rfl (lf_of (by kernel_rfl))) pa_nil)))
        (pss_cons (ps_expr (pe_bm PySem.F.plainAttrs_list PySem.F.slot_list_append PySem.F.type_list_append mt_append (pv 4) (pa_cons (pe_lam (params := noA) (body := cB "turned" "_law_board" "_law_bad" "_law_odd" _ _ _ _ _) (scope := s3') lam rfl (lf_of (by kernel_rfl))) pa_nil)))
        (pss_cons (ps_expr (pe_bm PySem.F.plainAttrs_list PySem.F.slot_list_append PySem.F.type_list_append mt_append (pv 4) (pa_cons (pe_lam (params := noA) (body := cB "turned" "_law_board" "_law_lay_here" "_law_odd" _ _ _ _ _) (scope := s4') lam rfl (lf_of (by kernel_rfl))) pa_nil)))
        (pss_cons (ps_expr (pe_bm PySem.F.plainAttrs_list PySem.F.slot_list_append PySem.F.type_list_append mt_append (pv 4) (pa_cons (pe_lam (params := noA) (body := cB2 "turned_board" "_law_board" "_law_odd" _ _ _ _) (scope := s5') lam rfl (lf_of (by kernel_rfl))) pa_nil)))
        (pss_cons (ps_expr (pe_bm PySem.F.plainAttrs_list PySem.F.slot_list_append PySem.F.type_list_append mt_append (pv 4) (pa_cons (pe_lam (params := noA) (body := cB2 "turns_together" "_law_odd" "_law_turn_here" _ _ _ _) (scope := s6') lam rfl (lf_of (by kernel_rfl))) pa_nil)))
        (pss_cons (ps_expr (pe_bm PySem.F.plainAttrs_list PySem.F.slot_list_append PySem.F.type_list_append mt_append (pv 4) (pa_cons (pe_lam (params := noA) (body := cB2 "turns_together" "_law_turn_here" "_law_odd" _ _ _ _) (scope := s6') lam rfl (lf_of (by kernel_rfl))) pa_nil)))
        (pss_one (ps_ret (pe_cmpR (op_eqLS hu) (pe_compI ["_law_call"] 1 [] (pi_list (pv 4)) (fun C s H fp => pb 0) (fun C s H fp => pts_nil) (fun pins σ B s H fp D I0 hf => pin_emit rfl (pe_wordB (kf := 8) hR room mR kR I0 hf rfl (pv 0))))
          (pe_op op_cat (pe_op op_cat (pe_op op_rep (pe_lst (pa_cons pe_str pa_nil)) pe_int) (pe_lst (pa_cons pe_str pa_nil))) (pe_op op_rep (pe_lst (pa_cons pe_str pa_nil)) pe_int)) (nomark _))))))))))), ?_⟩
      obtain ⟨u0, v0, ep0, _⟩ := id st
      obtain ⟨b', eb, hb⟩ := tupOf_some la.bd.1
      cases eb
      have nbp : b ≠ p := ne_of hb ep0 (by intro z; cases z)
      have nlp : l ≠ p := ne_of la.at_ ep0 (by intro z; cases z)
      have ntp : t ≠ p := ne_of ht ep0 (by intro z; cases z)
      -- what is none
      refine tSeq_i (tAsg_i ⟨_, rfl, p, rfl, st, fun vn Ha xa sta bn nn => ?_⟩)
      have laA : LayAt K Ha (.ref b) l xs wd hg := ⟨la.bd.x xa (fun z => nbp (by cases z; rfl)), xa _ _ la.at_ nlp, la.ly⟩
      have hta := xa _ _ ht ntp
      refine ⟨_, rfl, _, rfl, _, rfl, p, b, l, xs, wd, hg, rfl, sta, laA, fun vb Hb xb stb gb => ?_⟩
      have laB : LayAt K Hb (.ref b) l xs wd hg := ⟨laA.bd.x xb (fun z => nbp (by cases z; rfl)), xb _ _ laA.at_ nlp, la.ly⟩
      have htb := xb _ _ hta ntp
      have bnb := badB_x bn xb nn
      have nnb := noRef_x bn.1.1 xb nn.1 nn
      refine ⟨_, rfl, _, rfl, p, t, x, rfl, stb, htb, fun vo Hc xc stc go => ?_⟩
      have laC : LayAt K Hc (.ref b) l xs wd hg := ⟨laB.bd.x xc (fun z => nbp (by cases z; rfl)), xc _ _ laB.at_ nlp, la.ly⟩
      have htc := xc _ _ htb ntp
      have bnc := badB_x bnb xc nnb
      have gc := goodL_x gb xc
      refine ⟨(by show 3 ≤ sizeLine; decide), fun tq htq => ?_⟩
      have sd := same_upd (o := .tup [vn, vb, vo]) htq
      have ed : upd Hc tq (.tup [vn, vb, vo]) tq = some (.tup [vn, vb, vo]) := upd_same
      generalize upd Hc tq (HO.tup [vn, vb, vo]) = Hd at sd ed
      refine ⟨tq, _, rfl, SqT.of ed, rfl, _, _, rfl, _, _, rfl, _, _, rfl, rfl, ?_⟩
      dsimp only [List.set]
      have gd := goodL_same gc sd
      have xAll : SameX p H Hd := xa.trans (xb.trans (xc.trans sd.x))
      have std := stc.same sd
      have tabd : TabAt Hd Pr qRR := tab_x tab xAll ep0 (fun _ z => by cases z) (fun _ z => by cases z)
      have F0 : Facts K Hd b l t xs wd hg x vn vb vo := ⟨laC.same sd, sd _ _ htc, bnc.same sd, gd.1.1, gd.1.2, go.1.same sd⟩
      obtain ⟨tp, etp, _⟩ := id tabd
      have npP : p ≠ Pr := fun z => by
        obtain ⟨u, v, e, _⟩ := id std
        rw [z, etp] at e; cases e
      -- the lambdas
      refine tSeq_i (tAsg_i ⟨tabd, fun g1 H1 s1 _ t1 l1 => ⟨(by show 1 ≤ sizeLine; decide), fun L hL => gName_i ?_⟩⟩)
      have m1 := lms_one tabd s1 t1 l1 hL
      generalize upd H1 L (.lst [V.ref g1]) = H1' at m1
      dsimp only [List.set]
      obtain ⟨vs1, hL1, k1⟩ := m1.lst
      refine tSeq_i ⟨_, rfl, .inl ⟨rfl, _, SqL.of hL1⟩, m1.tb, fun g2 H2 s2 _ t2 l2 => ⟨L, vs1, .ref g2, rfl, rfl, m1.at1 hL1 s2, (by rw [k1, sizeLine_eq]; decide), ?_⟩⟩
      have m2 := m1.app hL1 s2 t2 l2
      generalize upd H2 L (.lst (vs1 ++ [V.ref g2])) = H2' at m2
      dsimp only
      obtain ⟨vs2, hL2, k2⟩ := m2.lst
      refine tSeq_i ⟨_, rfl, .inl ⟨rfl, _, SqL.of hL2⟩, m2.tb, fun g3 H3 s3 _ t3 l3 => ⟨L, vs2, .ref g3, rfl, rfl, m2.at1 hL2 s3, (by rw [k2, sizeLine_eq]; decide), ?_⟩⟩
      have m3 := m2.app hL2 s3 t3 l3
      generalize upd H3 L (.lst (vs2 ++ [V.ref g3])) = H3' at m3
      dsimp only
      obtain ⟨vs3, hL3, k3⟩ := m3.lst
      refine tSeq_i ⟨_, rfl, .inl ⟨rfl, _, SqL.of hL3⟩, m3.tb, fun g4 H4 s4 _ t4 l4 => ⟨L, vs3, .ref g4, rfl, rfl, m3.at1 hL3 s4, (by rw [k3, sizeLine_eq]; decide), ?_⟩⟩
      have m4 := m3.app hL3 s4 t4 l4
      generalize upd H4 L (.lst (vs3 ++ [V.ref g4])) = H4' at m4
      dsimp only
      obtain ⟨vs4, hL4, k4⟩ := m4.lst
      refine tSeq_i ⟨_, rfl, .inl ⟨rfl, _, SqL.of hL4⟩, m4.tb, fun g5 H5 s5 _ t5 l5 => ⟨L, vs4, .ref g5, rfl, rfl, m4.at1 hL4 s5, (by rw [k4, sizeLine_eq]; decide), ?_⟩⟩
      have m5 := m4.app hL4 s5 t5 l5
      generalize upd H5 L (.lst (vs4 ++ [V.ref g5])) = H5' at m5
      dsimp only
      obtain ⟨vs5, hL5, k5⟩ := m5.lst
      refine tSeq_i ⟨_, rfl, .inl ⟨rfl, _, SqL.of hL5⟩, m5.tb, fun g6 H6 s6 _ t6 l6 => ⟨L, vs5, .ref g6, rfl, rfl, m5.at1 hL5 s6, (by rw [k5, sizeLine_eq]; decide), ?_⟩⟩
      have m6 := m5.app hL5 s6 t6 l6
      generalize upd H6 L (.lst (vs5 ++ [V.ref g6])) = H6' at m6
      dsimp only
      obtain ⟨vs6, hL6, k6⟩ := m6.lst
      refine tSeq_i ⟨_, rfl, .inl ⟨rfl, _, SqL.of hL6⟩, m6.tb, fun g7 H7 s7 _ t7 l7 => ⟨L, vs6, .ref g7, rfl, rfl, m6.at1 hL6 s7, (by rw [k6, sizeLine_eq]; decide), ?_⟩⟩
      have m7 := m6.app hL6 s7 t7 l7
      generalize upd H7 L (.lst (vs6 ++ [V.ref g7])) = H7' at m7
      dsimp only
      obtain ⟨vs7, hL7, k7⟩ := m7.lst
      clear hL1 k1 hL2 k2 hL3 k3 hL4 k4 hL5 k5 hL6 k6 hL7 k7 vs7
      obtain ⟨sx7, fr7, tb7, vs7, hL7, pr7⟩ := m7
      have l7 : vs7.length = 7 := Paired.length pr7
      -- their words
      refine ⟨_, rfl, L, rfl, ⟨vs7, SqL.of hL7⟩, ?_⟩
      refine nest_list (xs := vs7) (fun i zs σ H8 => ∃ v0, σ = [v0] ∧ Same H7' H8 ∧ zs = (wordsRR.take i).map V.str) ⟨_, rfl, Same.refl _, rfl⟩ (fun i zs σ H8 _ ⟨_, _, s8, _⟩ => SqL.of (s8 _ _ hL7)) ?_ ?_
      · rintro i v zs σ H8 hv ⟨v0, rfl, s8, rfl⟩
        obtain ⟨bb, hbb, lm⟩ := pr_at pr7 hv
        obtain ⟨g, rfl, lmg⟩ := lm.same s8
        have hi : i < vs7.length := (List.getElem?_eq_some_iff.mp hv).1
        have F8 : Facts K H8 b l t xs wd hg x vn vb vo := F0.xt (sx7.trans s8.x) etp
        suffices h : ∃ iC, (∃ params bd scope N idx ws C Pre, AskN (cxOf CX0 P w K mg base nRR "_law_refused_right" (defScope sRR) f (.ref c) A outer s H E).nox cS 8 [some (.ref p), some (.ref b), some (.ref l), some (.ref t), some (.ref L), some vb, some vn, some vo] H8 g iC params bd scope N idx ws C Pre) ∧ wordsRR[i]? = some (wordOf iC) by
          obtain ⟨iC, ask, hw⟩ := h
          refine ⟨g, iC, rfl, ask, fun H9 s9 => ⟨by rw [List.length_map, List.length_take, sizeLine_eq]; omega, _, rfl, s8.trans s9, ?_⟩⟩
          rw [List.take_add_one, hw, List.map_append]
          rfl
        match i, hbb, hi with
        | 0, hbb, _ =>
          cases hbb
          exact ⟨0, ⟨noA, _, s1', _, [6, 5, 7], [vn, vb, vo], aB, _, ⟨ls3 (by kernel_rfl), rfl, lns3 n6 n5 n7, rfl, at3 rfl rfl rfl, lf_of (by kernel_rfl), lmg, MB, body3 (Nat.le_refl _) hU rfl rfl rfl rfl (by decide) (by decide) (by decide) (by decide) (by decide) (by decide) (by decide), fun Q' E' hE => ⟨vn, vb, vo, aB, rfl, .inl (.inl ⟨rfl, F8.bn⟩), hE⟩⟩⟩, rfl⟩
        | 1, hbb, _ =>
          cases hbb
          exact ⟨0, ⟨noA, _, s2', _, [6, 7], [vn, vo], aB, _, ⟨ls2 (by kernel_rfl), rfl, lns2 n6 n7, rfl, at2 rfl rfl, lf_of (by kernel_rfl), lmg, MB, body2 (by decide) hV rfl rfl rfl (by decide) (by decide) (by decide) (by decide) (by decide), fun Q' E' hE => ⟨vn, vo, aB, rfl, .inl ⟨rfl, F8.bn⟩, hE⟩⟩⟩, rfl⟩
        | 2, hbb, _ =>
          cases hbb
          exact ⟨1, ⟨noA, _, s3', _, [1, 5, 7], [.ref b, vb, vo], aL, _, ⟨ls3 (by kernel_rfl), rfl, lns3 n1 n5 n7, rfl, at3 rfl rfl rfl, lf_of (by kernel_rfl), lmg, ML, body3 (Nat.le_refl _) hU rfl rfl rfl rfl (by decide) (by decide) (by decide) (by decide) (by decide) (by decide) (by decide), fun Q' E' hE => ⟨.ref b, vb, vo, aL, rfl, .inl (.inr ⟨rfl, wd, hg, F8.la.bd, F8.bl1, F8.bl2⟩), hE⟩⟩⟩, rfl⟩
        | 3, hbb, _ =>
          cases hbb
          exact ⟨9, ⟨noA, _, s4', _, [1, 2, 7], [.ref b, .ref l, vo], aT, _, ⟨ls3 (by kernel_rfl), rfl, lns3 n1 n2 n7, rfl, at3 rfl rfl rfl, lf_of (by kernel_rfl), lmg, MT, body3 (Nat.le_refl _) hU rfl rfl rfl rfl (by decide) (by decide) (by decide) (by decide) (by decide) (by decide) (by decide), fun Q' E' hE => ⟨.ref b, .ref l, vo, aT, rfl, .inr ⟨rfl, ⟨l, xs, wd, hg, rfl, F8.la⟩, F8.bo⟩, hE⟩⟩⟩, rfl⟩
        | 4, hbb, _ =>
          cases hbb
          exact ⟨9, ⟨noA, _, s5', _, [1, 7], [.ref b, vo], aT, _, ⟨ls2 (by kernel_rfl), rfl, lns2 n1 n7, rfl, at2 rfl rfl, lf_of (by kernel_rfl), lmg, MT, body2 (by decide) hV rfl rfl rfl (by decide) (by decide) (by decide) (by decide) (by decide), fun Q' E' hE => ⟨.ref b, vo, aT, rfl, .inr ⟨rfl, ⟨wd, hg, F8.la.bd⟩, F8.bo⟩, hE⟩⟩⟩, rfl⟩
        | 5, hbb, _ =>
          cases hbb
          exact ⟨9, ⟨noA, _, s6', _, [7, 3], [vo, .ref t], aT, _, ⟨ls2 (by kernel_rfl), rfl, lns2 n7 n3, rfl, at2 rfl rfl, lf_of (by kernel_rfl), lmg, MT, body2 (by decide) hW rfl rfl rfl (by decide) (by decide) (by decide) (by decide) (by decide), fun Q' E' hE => ⟨vo, .ref t, rfl, .inl F8.bo, hE⟩⟩⟩, rfl⟩
        | 6, hbb, _ =>
          cases hbb
          exact ⟨9, ⟨noA, _, s6', _, [3, 7], [.ref t, vo], aT, _, ⟨ls2 (by kernel_rfl), rfl, lns2 n3 n7, rfl, at2 rfl rfl, lf_of (by kernel_rfl), lmg, MT, body2 (by decide) hW rfl rfl rfl (by decide) (by decide) (by decide) (by decide) (by decide), fun Q' E' hE => ⟨.ref t, vo, rfl, .inr ⟨⟨t, x, rfl, F8.ht⟩, F8.bo⟩, hE⟩⟩⟩, rfl⟩
        | i + 7, _, h => omega
      · rintro zs σ H8 ⟨v0, rfl, s8, rfl⟩ Z hZ
        rw [l7]
        have sZ := same_upd (o := .lst ((wordsRR.take 7).map V.str)) hZ
        have eZ : upd H8 Z (.lst ((wordsRR.take 7).map V.str)) Z = some (.lst ((wordsRR.take 7).map V.str)) := upd_same
        generalize upd H8 Z (.lst ((wordsRR.take 7).map V.str)) = H9 at sZ eZ
        have lst1 : ∀ {H : Hp} {t : Addr} (x : Str), H t = none → Same H (upd H t (.lst [.str x])) ∧ upd H t (.lst [.str x]) t = some (.lst [.str x]) := fun x h => ⟨same_upd h, upd_same⟩
        refine ⟨(by show 1 ≤ sizeLine; decide), fun a1 h1 => ?_⟩
        obtain ⟨y1, e1⟩ := lst1 "board" h1
        generalize upd H9 a1 (HO.lst [V.str "board"]) = G1 at y1 e1
        refine ⟨a1, 2, _, rfl, rfl, e1, by decide, by decide, (by show 1 * 2 ≤ sizeLine; decide), fun a2 h2 => ?_⟩
        have y2 := same_upd (o := .lst [V.str "board", V.str "board"]) h2
        have e2 : upd G1 a2 (.lst [V.str "board", V.str "board"]) a2 = some (.lst [V.str "board", V.str "board"]) := upd_same
        change tLst _ _ (upd G1 a2 (.lst [V.str "board", V.str "board"])) _
        generalize upd G1 a2 (HO.lst [V.str "board", V.str "board"]) = G2 at y2 e2
        refine ⟨(by show 1 ≤ sizeLine; decide), fun a3 h3 => ?_⟩
        obtain ⟨y3, e3⟩ := lst1 "lay" h3
        generalize upd G2 a3 (HO.lst [V.str "lay"]) = G3 at y3 e3
        refine ⟨a2, a3, _, _, rfl, rfl, y3 _ _ e2, e3, (by show 2 + 1 ≤ sizeLine; decide), fun a4 h4 => ?_⟩
        have y4 := same_upd (o := .lst [V.str "board", V.str "board", V.str "lay"]) h4
        have e4 : upd G3 a4 (.lst [V.str "board", V.str "board", V.str "lay"]) a4 = some (.lst [V.str "board", V.str "board", V.str "lay"]) := upd_same
        change tOp _ _ _ _ (upd G3 a4 (.lst [V.str "board", V.str "board", V.str "lay"])) _
        generalize upd G3 a4 (HO.lst [V.str "board", V.str "board", V.str "lay"]) = G4 at y4 e4
        refine ⟨(by show 1 ≤ sizeLine; decide), fun a5 h5 => ?_⟩
        obtain ⟨y5, e5⟩ := lst1 "turn" h5
        generalize upd G4 a5 (HO.lst [V.str "turn"]) = G5 at y5 e5
        refine ⟨a5, 4, _, rfl, rfl, e5, by decide, by decide, (by show 1 * 4 ≤ sizeLine; decide), fun a6 h6 => ?_⟩
        have y6 := same_upd (o := .lst [V.str "turn", V.str "turn", V.str "turn", V.str "turn"]) h6
        refine ⟨a4, a6, [V.str "board", V.str "board", V.str "lay"], [V.str "turn", V.str "turn", V.str "turn", V.str "turn"], rfl, rfl, (y5.trans y6) _ _ e4, upd_same, (by show 3 + 4 ≤ sizeLine; decide), fun a7 h7 => ?_⟩
        have y7 := same_upd (o := .lst [V.str "board", V.str "board", V.str "lay", V.str "turn", V.str "turn", V.str "turn", V.str "turn"]) h7
        have y17 := y1.trans (y2.trans (y3.trans (y4.trans (y5.trans (y6.trans y7)))))
        refine ⟨Z, a7, wordsRR, rfl, rfl, SqL.of (y17 _ _ eZ), SqL.of upd_same, ?_⟩
        have sE : Same H7' _ := s8.trans (sZ.trans y17)
        refine q _ (SameXs.trans (U.SameX.xs xAll (by simp)) (SameXs.trans (U.SameX.xs sx7 (by simp)) (U.Same.xs sE))) ?_ (tab_same tb7 sE)
        obtain ⟨u, v, e, r⟩ := std
        exact ⟨u, v, sE _ _ (sx7 _ _ e npP), r⟩
    obtain ⟨t, ht, hq⟩ := main
    exact ⟨t, ht.nox, hq⟩
end
end U
-- part K11t
set_option Elab.async false
set_option linter.all false
set_option maxRecDepth 100000
set_option maxHeartbeats 40000000
namespace U
open PySem L2 PyProof.Rows
theorem paired_refl {α : Type} {R : α → α → Prop} : ∀ {xs : List α}, (∀ x ∈ xs, R x x) → Paired R xs xs
  | [], _ => .nil
  | _ :: _, h => .cons (h _ List.mem_cons_self) (paired_refl fun x hx => h x (List.mem_cons_of_mem _ hx))
theorem scr_xs {K : PySem.W.Frag} {H H' : Hp} {a : Addr} {ps : List Addr} {ns : List Int} (h : ScrAt K H a ns) (s : SameXs ps H H') (hp : ∀ x ∈ ps, ∃ o, H x = some o ∧ ∀ ob u, o ≠ .frz ob u) : ScrAt K H' a ns := by
  rcases h with ⟨ob, h⟩ | h
  · refine .inl ⟨ob, s _ _ h fun z => ?_⟩
    obtain ⟨o, ho, n⟩ := hp _ z
    rw [ho] at h
    exact n _ _ (Option.some.inj h)
  · exact .inr h
/-! ### the script, the table of the code and the turns -/
structure Wk (K : PySem.W.Frag) (a Pr L : Addr) (ns : List Int) (ts : List V) (H : Hp) : Prop where
  sc : ScrAt K H a ns
  tr : TabAt H Pr qRR
  hL : H L = some (.lst ts)
  pr : Paired (TrAt H) ts allT
section
variable {K : PySem.W.Frag} {a Pr L : Addr} {ns : List Int} {ts : List V} {H H' : Hp}
theorem Wk.same (W : Wk K a Pr L ns ts H) (s : Same H H') : Wk K a Pr L ns ts H' := ⟨W.sc.same s, tab_same W.tr s, s _ _ W.hL, Paired.mapP W.pr fun v q h => h.same s⟩
theorem Wk.x {p : Addr} (W : Wk K a Pr L ns ts H) (s : SameX p H H') (st : StAt H p) (n : L ≠ p) : Wk K a Pr L ns ts H' := by
  obtain ⟨u, v, e, _⟩ := st
  exact ⟨W.sc.x s e (fun _ _ z => by cases z), tab_x W.tr s e (fun _ z => by cases z) (fun _ z => by cases z), s _ _ W.hL n, Paired.mapP W.pr fun v q ⟨t, e1, h⟩ => ⟨t, e1, s _ _ h (fun z => by rw [z, e] at h; cases h)⟩⟩
theorem Wk.rt {p : Addr} (W : Wk K a Pr L ns ts H) (st : StAt H p) (s : SameXs [p, Pr] H H') (t : TabAt H' Pr qRR) (n : L ≠ p) : Wk K a Pr L ns ts H' := by
  obtain ⟨u, v, e, _⟩ := st
  obtain ⟨tp, er, _⟩ := id W.tr
  have keep : ∀ {b : Addr} {o : HO}, H b = some o → (b = p → False) → (∀ tp, o ≠ .tbl tp) → H' b = some o := fun {b o} h n1 n2 => s _ _ h (by
    simp only [List.mem_cons, List.not_mem_nil, or_false]
    rintro (z | z)
    · exact n1 z
    · rw [z, er] at h; cases h; exact n2 _ rfl)
  refine ⟨scr_xs W.sc s fun x hx => ?_, t, keep W.hL n (fun _ z => by cases z), Paired.mapP W.pr fun v q ⟨t, e1, h⟩ => ⟨t, e1, keep h (fun z => by rw [z, e] at h; cases h) (fun _ z => by cases z)⟩⟩
  simp only [List.mem_cons, List.not_mem_nil, or_false] at hx
  rcases hx with rfl | rfl
  · exact ⟨_, e, fun _ _ z => by cases z⟩
  · exact ⟨_, er, fun _ _ z => by cases z⟩
theorem Wk.turn (W : Wk K a Pr L ns ts H) {i : Nat} {v : V} (h : ts[i]? = some v) : ∃ (t : Addr) (q : Bool × Bool × Bool), v = .ref t ∧ H t = some (.tup (tv q)) := by
  obtain ⟨q, _, t, e, h1⟩ := pr_at W.pr h
  exact ⟨t, q, e, h1⟩
end
section
variable {P : Program} {w : World} {K : PySem.W.Frag} {mg : Str → Option Value} {base : Heap}
abbrev sLaw : Stmt := top 53
def spLaw (K : PySem.W.Frag) (Pr : Addr) : Sp := fun vs H Q _ => ∃ (a : Addr) (ns : List Int), vs = [.ref a] ∧ ScrAt K H a ns ∧ ns.length ≤ 63 ∧ H Pr = some (.tbl #[]) ∧ ∀ H', Q (.bl true) H'
abbrev nLaw : List Str := ["_law_script", "_law_every", "_law_one", "_law_other", "_law_k", "_law_state_here", "_law_turn_here", "_law_board", "_law_lay_here"]
theorem scLaw : FnScope nLaw ["_law_script"] (defScope sLaw) := ⟨rfl, rfl, rfl, by decide +kernel, rfl, by decide +kernel, by decide +kernel⟩
theorem turned_item {xs : List V} {wd hg : Int} {q : Bool × Bool × Bool} {v : V} (h : v ∈ turnedL wd hg q xs) : R1 H v v := by
  rcases layOf_mem h with rfl | ⟨p, _, rfl⟩
  · exact .inr ⟨rfl, rfl⟩
  · exact .inl ⟨_, rfl, rfl⟩
theorem ok_law {f : Addr} {fd : FuncData} {Pr : Addr} (F : Fun K "law" "law" sLaw f fd) (G : Gs mg)
    (Dat : Def P w K mg base 1 "_law_all_turns" [] spAT) (Ds : Def P w K mg base 2 "_law_same" ["_law_found", "_law_due"] (spSame (RTu R1))) (Dtt : Def P w K mg base 5 "turns_together" ["turn", "other"] (spTT K)) (Dtg : Def P w K mg base 2 "_law_together" ["_law_turn_here", "_law_other"] spTg)
    (Dst : Def P w K mg base 2 "_law_state" ["_law_script", "_law_k"] (spState K)) (Dlt : Def P w K mg base 2 "_law_turn" ["_law_state_here"] spLT) (Dtk : Def P w K mg base 1 "_law_take" ["_law_state_here", "_law_many"] spTake) (Dll : Def P w K mg base 2 "_law_lay" ["_law_state_here", "_law_board"] (spLL K))
    (Dtb : Def P w K mg base 5 "turned_board" ["board", "turn"] spTB) (Dbb : Def P w K mg base 1 "_law_board_by" ["_law_board", "_law_turn_here"] spBB) (Dtu : Def P w K mg base 8 "turned" ["board", "lay", "turn"] (spTu K)) (Dlu : Def P w K mg base 2 "_law_turned" ["_law_board", "_law_lay_here", "_law_turn_here"] (spLTu K)) (Drr : Def P w K mg base 12 "_law_refused_right" ["_law_state_here", "_law_board", "_law_lay_here", "_law_turn_here"] (spRR K Pr)) :
    FnOk P w K mg base CX0 13 f fd ["_law_script"] (spLaw K Pr) := by
  refine F.ok scLaw (fun vs H Q E h => ?_) (fun cdv A outer s H vs Q E hr h => ?_)
  · obtain ⟨a, ns, rfl, _⟩ := h
    rfl
  · obtain ⟨a, ns, rfl, scr, hns, htab, q⟩ := h
    have hu := Nat.lt_of_succ_lt (hu_of hr)
    refine ⟨_, pss_cons (ps_set (i := 1) scLaw.nd rfl (Or.inl rfl) (pe_callD0 Dat (hr.mono (by decide))))
      (pss_cons (ps_for PassesOwn.never rfl (pi_list (pv 1)) (pg_name (i := 2) scLaw.nd rfl (Or.inl rfl))
        (pss_one (ps_for PassesOwn.never rfl (pi_list (pv 1)) (pg_name (i := 3) scLaw.nd rfl (Or.inl rfl))
          (pss_one (ps_if (pt_not (pt_val (pe_callD Ds (hr.mono (by decide)) (pa_cons (pe_callD Dtt (hr.mono (by decide)) (pa_cons (pv 2) (pa_cons (pv 3) pa_nil))) (pa_cons (pe_callD Dtg (hr.mono (by decide)) (pa_cons (pv 2) (pa_cons (pv 3) pa_nil))) pa_nil))))) pss_never pss_nil)))))
      (pss_cons (ps_for PassesOwn.never rfl (pi_range1 rfl G.range (pa_cons (pe_callB (call_max2 rfl) rfl G.max boot_max (pa_cons pe_int (pa_cons (pe_callB (call_min2 rfl) rfl G.min boot_min (pa_cons (pe_callB call_len_seq rfl G.len boot_len (pa_cons (pv 0) pa_nil)) (pa_cons pe_int pa_nil))) pa_nil))) pa_nil)) (pg_name (i := 4) scLaw.nd rfl (Or.inl rfl))
        (pss_cons (ps_set (i := 5) scLaw.nd rfl (Or.inl rfl) (pe_callD Dst (hr.mono (by decide)) (pa_cons (pv 0) (pa_cons (pv 4) pa_nil))))
        (pss_cons (ps_set (i := 6) scLaw.nd rfl (Or.inl rfl) (pe_callD Dlt (hr.mono (by decide)) (pa_cons (pv 5) pa_nil)))
        (pss_cons (ps_set (i := 7) scLaw.nd rfl (Or.inl rfl) (pe_tup (pa_cons (pe_op op_add pe_int (pe_callD Dtk (hr.mono (by decide)) (pa_cons (pv 5) (pa_cons pe_int pa_nil)))) (pa_cons (pe_op op_add pe_int (pe_callD Dtk (hr.mono (by decide)) (pa_cons (pv 5) (pa_cons pe_int pa_nil)))) pa_nil))))
        (pss_cons (ps_set (i := 8) scLaw.nd rfl (Or.inl rfl) (pe_callD Dll (hr.mono (by decide)) (pa_cons (pv 5) (pa_cons (pv 7) pa_nil))))
        (pss_cons (ps_for PassesOwn.never rfl (pi_list (pv 1)) (pg_name (i := 2) scLaw.nd rfl (Or.inl rfl))
          (pss_cons (ps_if (pt_not (pt_val (pe_callD Ds (hr.mono (by decide)) (pa_cons (pe_callD Dtb (hr.mono (by decide)) (pa_cons (pv 7) (pa_cons (pv 2) pa_nil))) (pa_cons (pe_callD Dbb (hr.mono (by decide)) (pa_cons (pv 7) (pa_cons (pv 2) pa_nil))) pa_nil))))) pss_never pss_nil)
          (pss_one (ps_if (pt_not (pt_val (pe_callD Ds (hr.mono (by decide)) (pa_cons (pe_callD Dtu (hr.mono (by decide)) (pa_cons (pv 7) (pa_cons (pv 8) (pa_cons (pv 2) pa_nil)))) (pa_cons (pe_callD Dlu (hr.mono (by decide)) (pa_cons (pv 7) (pa_cons (pv 8) (pa_cons (pv 2) pa_nil)))) pa_nil))))) pss_never pss_nil))))
        (pss_one (ps_if (pt_not (pt_val (pe_callD Drr hr (pa_cons (pv 5) (pa_cons (pv 7) (pa_cons (pv 8) (pa_cons (pv 6) pa_nil))))))) pss_never pss_nil))))))))
      (pss_one (ps_ret (pe_cmpR (op_eqTu hu) (pe_callD Dtu (hr.mono (by decide)) (pa_cons (pe_tup (pa_cons pe_int (pa_cons pe_int pa_nil))) (pa_cons (pe_tup (pa_cons pe_int (pa_cons pe_non (pa_cons pe_int pa_nil)))) (pa_cons (pe_tup (pa_cons pe_int (pa_cons pe_int (pa_cons pe_int pa_nil)))) pa_nil)))) (pe_tup (pa_cons pe_int (pa_cons pe_int pa_nil))) (nomark _)))))), ?_⟩
    have tab0 : TabAt H Pr qRR := ⟨#[], htab, trivial, fun pos cv z => by cases z⟩
    refine tSeq_i (tAsg_i ⟨rfl, fun L H1 ts s1 e1 pr1 => gName_i ?_⟩)
    dsimp only [List.set]
    have W1 : Wk K a Pr L ns ts H1 := ⟨scr.same s1, tab_same tab0 s1, e1, pr1⟩
    have lt : ts.length = 8 := Paired.length pr1
    -- two turns together
    refine tSeq_i ⟨_, rfl, L, rfl, ⟨ts, SqL.of W1.hL⟩, ?_⟩
    refine for_list (xs := ts) (fun i σ H2 => ∃ v2 v3, σ = [some (.ref a), some (.ref L), v2, v3, none, none, none, none, none] ∧ Wk K a Pr L ns ts H2) ⟨_, _, rfl, W1⟩ (fun i σ H2 _ ⟨_, _, _, W⟩ => SqL.of W.hL) ?_ ?_
    · rintro i v σ H2 hv ⟨v2, v3, rfl, W2⟩
      refine gName_i ?_
      dsimp only [List.set]
      refine ⟨_, rfl, L, rfl, ⟨ts, SqL.of W2.hL⟩, ?_⟩
      refine for_list (xs := ts) (fun j σ H3 => ∃ v3, σ = [some (.ref a), some (.ref L), some v, v3, none, none, none, none, none] ∧ Wk K a Pr L ns ts H3) ⟨_, rfl, W2⟩ (fun j σ H3 _ ⟨_, _, W⟩ => SqL.of W.hL) ?_ ?_
      · rintro j u σ H3 hu' ⟨v3, rfl, W3⟩
        refine gName_i ?_
        dsimp only [List.set]
        obtain ⟨t, x, rfl, ht⟩ := W3.turn hv
        obtain ⟨t', y, rfl, ht'⟩ := W3.turn hu'
        refine ⟨_, rfl, _, rfl, t, t', x, y, rfl, ht, ht', fun r4 H4 s4 e4 => ?_⟩
        refine ⟨_, rfl, _, rfl, t, t', x, y, rfl, s4 _ _ ht, s4 _ _ ht', fun r5 H5 s5 e5 => ?_⟩
        refine ⟨_, _, rfl, ⟨r4, r5, _, _, rfl, rfl, s5 _ _ e4, e5, paired_refl fun v hv => ?_, (by show 3 ≤ _; decide)⟩, fun H6 s6 => ⟨true, rfl, iteF (tNext_i ⟨_, rfl, W3.same (s4.trans (s5.trans s6))⟩)⟩⟩
        simp only [List.mem_cons, List.not_mem_nil, or_false] at hv
        rcases hv with rfl | rfl | rfl <;> exact .inl ⟨_, rfl, rfl⟩
      · rintro σ H3 ⟨v3, rfl, W3⟩
        exact ⟨_, _, rfl, W3⟩
    rintro σ H2 ⟨v2, v3, rfl, W2⟩
    dsimp only
    refine tSeq_i ?_
    refine ⟨_, rfl, a, _, rfl, .inl W2.sc.sq, _, _, rfl, _, _, rfl, _, rfl, (by rw [List.length_map]; split <;> split <;> omega), (by rw [List.length_map]; split <;> split <;> omega), ?_⟩
    refine for_range (fun i σ H' => ∃ s2 s3 s4 s5 s6 s7 s8, σ = [some (.ref a), some (.ref L), s2, s3, s4, s5, s6, s7, s8] ∧ Wk K a Pr L ns ts H') ⟨_, _, _, _, _, _, _, rfl, W2⟩ ?_ ?_
    · rintro i σ H0 hi ⟨q2, q3, q4, q5, q6, q7, q8, rfl, W⟩
      rw [Int.zero_add]
      refine gName_i ?_
      dsimp only [List.set]
      refine tSeq_i (tAsg_i ⟨_, rfl, _, rfl, a, ns, i, rfl, W.sc.sq, fun p H1 np k1 st1 => gName_i ?_⟩)
      dsimp only [List.set]
      have nL : L ≠ p := fun z => by have h := W.hL; rw [z, np] at h; cases h
      have W1 := W.same k1
      -- the turn
      refine tSeq_i (tAsg_i ⟨_, rfl, p, rfl, st1, fun t H2 x x2 st2 ht2 => gName_i ?_⟩)
      dsimp only [List.set]
      have W2 := W1.x x2 st1 nL
      have ntp : t ≠ p := by
        obtain ⟨u, v, e, _⟩ := id st2
        exact ne_of ht2 e (by intro z; cases z)
      -- the board
      refine tSeq_i (tAsg_i ⟨_, rfl, p, 12, rfl, st2, by decide, by decide, fun r1 o1 r10 r11 st3 => ⟨_, _, rfl, rfl, ?_⟩⟩)
      have x3 : SameX p H2 (upd H2 p o1) := SameX.upd
      generalize upd H2 p o1 = H3 at st3 x3
      have W3 := W2.x x3 st2 nL
      have ht3 := x3 _ _ ht2 ntp
      refine ⟨_, rfl, p, 12, rfl, st3, by decide, by decide, fun r2 o2 r20 r21 st4 => ⟨_, _, rfl, rfl, ?_⟩⟩
      have x4 : SameX p H3 (upd H3 p o2) := SameX.upd
      generalize upd H3 p o2 = H4 at st4 x4
      have W4 := W3.x x4 st3 nL
      have ht4 := x4 _ _ ht3 ntp
      refine ⟨(by show 2 ≤ sizeLine; decide), fun b hb => gName_i ?_⟩
      dsimp only [List.set]
      generalize hw : 1 + r1 = wd
      generalize hh : 1 + r2 = hg
      have wd1 : 1 ≤ wd := by omega
      have wd12 : wd ≤ 12 := by omega
      have hg1 : 1 ≤ hg := by omega
      have hg12 : hg ≤ 12 := by omega
      have s5' := same_upd (o := .tup [V.int wd, V.int hg]) hb
      have e5 : upd H4 b (.tup [V.int wd, V.int hg]) b = some (.tup [V.int wd, V.int hg]) := upd_same
      generalize upd H4 b (HO.tup [V.int wd, V.int hg]) = H5 at s5' e5
      have W5 := W4.same s5'
      have st5 := st4.same s5'
      have ht5 := s5' _ _ ht4
      have bdA : ∀ {H' : Hp}, H' b = some (.tup [V.int wd, V.int hg]) → BoardAt H' (.ref b) wd hg := fun h => ⟨tupOf_ref h, wd1, wd12, hg1, hg12⟩
      have nbp : b ≠ p := by
        obtain ⟨u, v, e, _⟩ := id st5
        exact ne_of e5 e (by intro z; cases z)
      -- the lay
      refine tSeq_i (tAsg_i ⟨_, rfl, _, rfl, p, b, wd, hg, rfl, st5, bdA e5, fun l H6 xs x6 st6 el6 ly => gName_i ?_⟩)
      dsimp only [List.set]
      have W6 := W5.x x6 st5 nL
      have e6 := x6 _ _ e5 nbp
      have ht6 := x6 _ _ ht5 ntp
      have ll := lay_len ly
      -- each turn of it
      refine tSeq_i ⟨_, rfl, L, rfl, ⟨ts, SqL.of W6.hL⟩, ?_⟩
      refine for_list (xs := ts) (fun j σ H7 => ∃ v2, σ = [some (.ref a), some (.ref L), v2, q3, some (.int (i : Int)), some (.ref p), some (.ref t), some (.ref b), some (.ref l)] ∧ Same H6 H7) ⟨_, rfl, Same.refl _⟩ (fun j σ H7 _ ⟨_, _, s7⟩ => SqL.of (s7 _ _ W6.hL)) ?_ ?_
      · rintro j v σ H7 hv ⟨v2, rfl, s7⟩
        refine gName_i ?_
        dsimp only [List.set]
        obtain ⟨t', y, rfl, ht'⟩ := (W6.same s7).turn hv
        have e7 := s7 _ _ e6
        refine tSeq_i ⟨_, rfl, _, rfl, b, t', wd, hg, y, rfl, bdA e7, ht', fun c8 H8 s8 bd8 => ?_⟩
        obtain ⟨c8', ec8, e8⟩ := tupOf_some bd8.1
        cases ec8
        refine ⟨_, rfl, _, rfl, b, t', wd, hg, y, rfl, s8 _ _ e7, s8 _ _ ht', fun c9 H9 s9 e9 => ?_⟩
        refine ⟨_, _, rfl, ⟨c8, c9, _, _, rfl, rfl, s9 _ _ e8, e9, paired_refl fun v hv => ?_, (by show 2 ≤ _; decide)⟩, fun H10 s10 => ⟨true, rfl, iteF (tNext_i ?_)⟩⟩
        · simp only [List.mem_cons, List.not_mem_nil, or_false] at hv
          rcases hv with rfl | rfl <;> exact .inl ⟨_, rfl, rfl⟩
        dsimp only
        have s710 := s8.trans (s9.trans s10)
        have laT : ∀ {H' : Hp}, Same H6 H' → LayAt K H' (.ref b) l xs wd hg := fun s => ⟨bdA (s _ _ e6), s _ _ el6, ly⟩
        refine ⟨_, rfl, _, rfl, _, rfl, b, l, t', xs, wd, hg, y, rfl, laT (s7.trans s710), s710 _ _ ht', fun u11 H11 s11 e11 => ?_⟩
        refine ⟨_, rfl, _, rfl, _, rfl, b, l, t', xs, wd, hg, y, rfl, laT (s7.trans (s710.trans s11)), (s710.trans s11) _ _ ht', fun u12 H12 s12 e12 => ?_⟩
        refine ⟨_, _, rfl, ⟨u11, u12, _, _, rfl, rfl, s12 _ _ e11, e12, paired_refl fun v hv => turned_item hv, ?_⟩, fun H13 s13 => ⟨true, rfl, iteF (tNext_i ⟨_, rfl, s7.trans (s710.trans (s11.trans (s12.trans s13)))⟩)⟩⟩
        rw [layOf_len]
        unfold tW
        split <;> omega
      rintro σ H7 ⟨v2, rfl, s7⟩
      dsimp only
      have W7 := W6.same s7
      have st7 := st6.same s7
      -- what is refused
      refine ⟨_, rfl, _, rfl, _, rfl, _, rfl, p, b, l, t, xs, wd, hg, x, rfl, st7, ⟨bdA (s7 _ _ e6), s7 _ _ el6, ly⟩, s7 _ _ ht6, W7.tr, fun H8 x8 st8 tr8 => ⟨true, rfl, iteF (tNext_i ?_)⟩⟩
      exact ⟨_, _, _, _, _, _, _, rfl, W7.rt st7 x8 tr8 nL⟩
    · rintro σ H1 _
      refine ⟨(by show 2 ≤ sizeLine; decide), fun t1 h1 => ?_⟩
      have k1 := same_upd (o := .tup [V.int 3, V.int 2]) h1
      have e1 : upd H1 t1 (.tup [V.int 3, V.int 2]) t1 = some (.tup [V.int 3, V.int 2]) := upd_same
      generalize upd H1 t1 (HO.tup [V.int 3, V.int 2]) = H2 at k1 e1
      refine ⟨(by show 3 ≤ sizeLine; decide), fun t2 h2 => ?_⟩
      have k2 := same_upd (o := .tup [V.int 0, V.non, V.int 1]) h2
      have e2 : upd H2 t2 (.tup [V.int 0, V.non, V.int 1]) t2 = some (.tup [V.int 0, V.non, V.int 1]) := upd_same
      generalize upd H2 t2 (HO.tup [V.int 0, V.non, V.int 1]) = H3 at k2 e2
      refine ⟨(by show 3 ≤ sizeLine; decide), fun t3 h3 => ?_⟩
      have k3 := same_upd (o := .tup [V.int 1, V.int 1, V.int 0]) h3
      have e3 : upd H3 t3 (.tup [V.int 1, V.int 1, V.int 0]) t3 = some (.tup [V.int 1, V.int 1, V.int 0]) := upd_same
      generalize upd H3 t3 (HO.tup [V.int 1, V.int 1, V.int 0]) = H4 at k3 e3
      refine ⟨t1, t2, t3, [V.int 0, V.non, V.int 1], 3, 2, (true, true, false), rfl, ⟨⟨tupOf_ref ((k2.trans k3) _ _ e1), by decide, by decide, by decide, by decide⟩, k3 _ _ e2, by decide +kernel⟩, e3, fun u H5 k5 e5 => ?_⟩
      have z5 : turnedL 3 2 (true, true, false) [V.int 0, V.non, V.int 1] = ([2, 0] : List Int).map V.int := by kernel_rfl
      rw [z5] at e5
      refine ⟨(by show 2 ≤ sizeLine; decide), fun t6 h6 => ⟨u, t6, [2, 0], [2, 0], rfl, rfl, SqT.of (same_upd h6 _ _ e5), SqT.of upd_same, ?_⟩⟩
      rw [decide_eq_true rfl]
      exact q _
end
end U
-- part PTab
set_option Elab.async false
set_option linter.all false
set_option maxRecDepth 100000
namespace U
open PySem L2 PyProof.Rows PySem.Spec
/-! ### the head, with the law's code table -/
def BmAt (mg : Str → Option Value) (h : Heap) : Prop := ∃ bm ob, mg "__builtins__" = some (.ref bm) ∧ bm ≠ builtinsNs ∧ h.get? bm = some ob ∧ ob.cls = .type "module" ∧ ob.dict = some builtinsNs ∧ ob.data = .plain
theorem law_callTs {P : Program} {w : World} {K : PySem.W.Frag} {mg mb : Str → Option Value} {k : Nat} {fa a : Addr} {Pts : List Addr} {fd : FuncData} {x : Str} {sp : Sp} {s₁ : Shared} {vs : List Value} {ns : List Int}
    (KX : K.In s₁.heap) (hns : s₁.heap.Ns mainGlobals mg) (hb : s₁.heap.Ns builtinsNs mb) (hbb : ∀ x : Str, x ≠ "__name__" → mb x = bootBuiltins x) (hlim : s₁.heap.NoLimit) (hg : s₁.gens = #[])
    (ha : s₁.heap.get? a = some { cls := .type "list", data := .seq vs.toArray }) (hi : IntsAre vs ns) (hl : ns.length ≤ sizeLine) (hr : Room k callerA)
    (hTs : ∀ Pt ∈ Pts, s₁.heap.get? Pt = some (PySem.W.tabObj #[])) (hCs : ∀ Pt ∈ Pts, ∃ c, PySem.W.CodeHd s₁.heap c Pt) (hKPs : ∀ Pt ∈ Pts, K.lookup Pt = none) (hbm : BmAt mg s₁.heap)
    (F : ∀ base : Heap, K.In base → base.Ns mainGlobals mg → BmAt mg base → FnOk P w K mg base CX0 k fa fd [x] sp) (hbind : ∀ (s : Shared) (u : Value), BindsTo s fd ⟨[u], []⟩ [(x, u)])
    (hsp : ∀ H : Hp, ScrAt K H a ns → (∀ Pt ∈ Pts, H Pt = some (.tbl #[])) → sp [.ref a] H (fun v _ => v = .bl true) fun _ _ _ => False) :
    codeAny (model P w) callerA (.call (.ref fa) ⟨[.ref a], []⟩) (fun r s' => r = .ok (.ret (.bool true)) ∧ OldK s₁.heap s'.heap ∧ s'.os = s₁.os ∧ AllBare s'.gens) s₁ := by
  have rv := vals_ints hi
  have lenV := hi.length
  have hT' : ∀ {Pt : Addr}, Pt ∈ Pts → s₁.heap.get? Pt = some { cls := .none, data := .fields #[] } := fun h => hTs _ h
  have hPa : a ∉ Pts := fun z => by have h := hT' z; rw [ha] at h; cases h
  have core : ∀ H : Hp, (∀ b, b ∉ Pts → H b = none ∨ ∃ o xs, H b = some (.frz o (.lst xs))) → ScrAt K H a ns → (∀ Pt ∈ Pts, H Pt = some (.tbl #[])) → HOk P w H s₁.heap → (∀ b, H b ≠ none → b = a ∨ b ∈ Pts) → (H a ≠ none → K.lookup a = none) →
      codeAny (model P w) callerA (.call (.ref fa) ⟨[.ref a], []⟩) (fun r s' => r = .ok (.ret (.bool true)) ∧ OldK s₁.heap s'.heap ∧ s'.os = s₁.os ∧ AllBare s'.gens) s₁ := by
    intro H hO hS hP hok hA hK
    have base_of : ∀ {b : Addr} {o : Obj}, s₁.heap.get? b = some o → H b = none → (hidT s₁.heap H).get? b = some o := fun e n => hidT_get e n
    have noA : ∀ {b : Addr} {o : Obj}, s₁.heap.get? b = some o → (∀ vs n, o.data ≠ .seq vs n) → (∀ ps, o.data ≠ .fields ps) → H b = none := fun {b o} e d1 d2 => by
      cases q : H b with
      | none => rfl
      | some u =>
        rcases hA b (by rw [q]; simp) with e' | e'
        · subst e'
          rw [ha] at e; cases e
          exact absurd rfl (d1 _ _)
        · rw [hT' e'] at e; cases e
          exact absurd rfl (d2 _)
    have nsK : ∀ {b : Addr} {m : Str → Option Value}, s₁.heap.Ns b m → (hidT s₁.heap H).Ns b m := fun {b m} ⟨o, es, ep, e, d, r⟩ => ⟨o, es, ep, base_of e (noA e (fun _ _ z => by rw [d] at z; cases z) fun _ z => by rw [d] at z; cases z), d, r⟩
    have hKb : K.In (hidT s₁.heap H) := fun b o e => base_of (KX b o e) (by
      cases q : H b with
      | none => rfl
      | some u =>
        rcases hA b (by rw [q]; simp) with e' | e'
        · subst e'
          rw [hK (by rw [q]; simp)] at e; cases e
        · rw [hKPs _ e'] at e; cases e)
    have hM : Mod K mg (hidT s₁.heap H) := ⟨hKb, nsK hns, ⟨mb, nsK hb, hbb⟩, let ⟨mc, h1, h2⟩ := hlim; ⟨mc, nsK h1, h2⟩⟩
    have hbm' : BmAt mg (hidT s₁.heap H) := let ⟨bm, ob, b1, b2, b3, b4, b5, b6⟩ := hbm; ⟨bm, ob, b1, b2, base_of b3 (noA b3 (fun _ _ z => by rw [b6] at z; cases z) fun _ z => by rw [b6] at z; cases z), b4, b5, b6⟩
    have e0 : Env0 P w K mg (hidT s₁.heap H) callerA [] s₁ H := ⟨rfl, hM, fun b o e => of_hidT e, Nat.le_of_eq (hidT_size _ _), trivial, fun b hb => absurd (show b ∈ ([] : List Addr) from hb) (by simp), hok, .of_eq hg⟩
    refine codeAny_mono ((F _ hKb (nsK hns) hbm').run callerA [] s₁ H ⟨[.ref a], []⟩ [.ref a] [.ref a] _ _ hr e0 (hbind s₁ (.ref a)) (.cons rfl .nil) (hsp H hS hP)) fun r s' h => ?_
    cases r with
    | error e => exact False.elim h
    | ok fl =>
      cases fl with
      | next => exact False.elim h
      | brk => exact False.elim h
      | cont => exact False.elim h
      | ret u =>
        obtain ⟨v, H', os, bare, un, hok', r', q⟩ := h
        have q' : v = .bl true := q
        subst q'
        obtain rfl : u = Value.bool true := r'
        have old : ∀ b o, s₁.heap.get? b = some o → asItWas s₁.heap s'.heap b o := fun b o e => by
          cases q : H b with
          | none => exact .inl (un.keep b o e q (by intro z; exact absurd (show b ∈ ([] : List Addr) from z) (by simp)) (by simp))
          | some u =>
            by_cases hbP : b ∈ Pts
            · obtain ⟨more, z⟩ := un.tbls b _ (hP b hbP)
              have e2 : s'.heap.get? b = some { cls := .none, data := .fields (#[] ++ more) } := hok' b _ z
              rw [hT' hbP] at e
              cases e
              obtain ⟨c, hC⟩ := hCs b hbP
              exact .inr (.inl ⟨(hC.tab (hTs b hbP)).isCodeTable, rfl, #[], more, rfl, e2⟩)
            · rcases hO b hbP with z | ⟨ob, xs, z⟩
              · rw [q] at z; cases z
              · have z2 := un.frzs b ob _ z
                obtain ⟨e1, _⟩ := hok b _ z
                obtain ⟨e2, _⟩ := hok' b _ z2
                rw [e] at e1; cases e1
                exact .inl e2
        exact ⟨rfl, ⟨old, fun b o e => un.there b o e (by simp)⟩, os, bare⟩
  cases hk : K.lookup a with
  | some o =>
    have e := KX a o hk
    rw [ha] at e
    cases e
    refine core (fun b => if b ∈ Pts then some (.tbl #[]) else none) (fun b n => .inl (if_neg n)) (.inr ⟨_, vs.toArray, _, hk, rfl, rfl, rfl, by rw [List.size_toArray, lenV]; exact hl, by simpa using rv⟩) (fun Pt h => if_pos h) (fun b u z => ?_) (fun b z => ?_) fun z => absurd (if_neg hPa) z
    · by_cases hb : b ∈ Pts
      · have z' := (if_pos hb).symm.trans z
        cases z'
        exact hT' hb
      · have z' := (if_neg hb).symm.trans z
        cases z'
    · by_cases hb : b ∈ Pts
      · exact .inr hb
      · exact absurd (if_neg hb) z
  | none =>
    refine core (fun b => if b ∈ Pts then some (.tbl #[]) else if b = a then some (.frz { cls := .type "list", data := .seq vs.toArray } (.lst (ns.map V.int))) else none) (fun b n => ?_) (.inl ⟨{ cls := .type "list", data := .seq vs.toArray }, (if_neg hPa).trans (if_pos rfl)⟩) (fun Pt h => if_pos h) (fun b u z => ?_) (fun b z => ?_) fun _ => hk
    · by_cases hb : b = a
      · exact .inr ⟨_, _, (if_neg n).trans (if_pos hb)⟩
      · exact .inl ((if_neg n).trans (if_neg hb))
    · by_cases hP : b ∈ Pts
      · have z' := (if_pos hP).symm.trans z
        cases z'
        exact hT' hP
      · by_cases hb : b = a
        · have z' := ((if_neg hP).trans (if_pos hb)).symm.trans z
          cases z'
          subst hb
          exact ⟨ha, by rw [List.length_map]; exact hl, vs, _, rv, ha⟩
        · have z' := ((if_neg hP).trans (if_neg hb)).symm.trans z
          cases z'
    · by_cases hP : b ∈ Pts
      · exact .inr hP
      · by_cases hb : b = a
        · exact .inl hb
        · exact absurd ((if_neg hP).trans (if_neg hb)) z
theorem walk_ofTs {l : PySem.W.OpenLaw} {n k : Nat} {q : Program} {loose : List Str} {XP : (Str → Option Value) → Heap → Prop} {YP : World → Heap → Prop} {d : DefRec} {K : Params → PySem.W.Frag} {sp : PySem.W.Frag → Sp} {x : Str} {Pts : List Addr}
    (hn : l.most = some n) (hn2 : n ≤ sizeLine) (hdf : d.params.defaults = []) (hr : Room k callerA)
    (hY : ∀ (w : World) (h : Heap), YP w h → (K w.params).In h) (hYT : ∀ (w : World) (h : Heap), YP w h → ∀ Pt ∈ Pts, h.get? Pt = some (PySem.W.tabObj #[]))
    (hC : ∀ (w : World) (h : Heap), (K w.params).In h → ∀ Pt ∈ Pts, ∃ c, PySem.W.CodeHd h c Pt) (hKP : ∀ w : World, ∀ Pt ∈ Pts, (K w.params).lookup Pt = none)
    (F : ∀ (w : World) (mg : Str → Option Value) (fa : Addr) (h : Heap), (K w.params).In h → h.Ns mainGlobals mg → mg d.name = some (.ref fa) →
      ∃ fd : FuncData, (∀ (s : Shared) (u : Value), BindsTo s fd ⟨[u], []⟩ [(x, u)]) ∧
        ∀ base : Heap, (K w.params).In base → base.Ns mainGlobals mg → BmAt mg base → FnOk l.prog w (K w.params) mg base CX0 k fa fd [x] (sp (K w.params)))
    (hsp : ∀ (K : PySem.W.Frag) (H : Hp) (a : Addr) (ns : List Int), ns.length ≤ n → ScrAt K H a ns → (∀ Pt ∈ Pts, H Pt = some (.tbl #[])) → sp K [.ref a] H (fun v _ => v = .bl true) fun _ _ _ => False) :
    PySem.W.WalkO q loose XP YP l.row.toRowW d [] (fun f vs => PySem.call f vs) := by
  refine Att.attach_call hn hdf fun w s₀ s₁ mg mb fa o pm cd doc a vs ns G Y ho hd hcd hmg hobj hints hlen hg => ?_
  have KX := hY w _ Y
  obtain ⟨fd, hb, hF⟩ := F w mg fa _ KX G.T.g hmg
  exact law_callTs KX G.T.g G.T.b G.T.builtins G.T.nolimit hg hobj hints (Nat.le_trans hlen hn2) hr (hYT w _ Y) (hC w _ KX) (hKP w) G.T.bmain hF hb (fun H hS hP => hsp (K w.params) H a ns hlen hS hP)
end U
-- part K11x
set_option Elab.async false
set_option linter.all false
set_option maxRecDepth 100000
namespace U
open PySem L2 PyProof.Rows PySem.Spec
/-! ### the text behind the top -/
def DefAt (K : PySem.W.Frag) (x : Str) (st : Stmt) : Prop := ∃ f fd, PySem.W.nsIn K mainGlobals x = some (some (.ref f)) ∧ Fun K x x st f fd
theorem defAt_mk {K : PySem.W.Frag} {x : Str} {st : Stmt} {f : Addr} {oc : Value} {od an : Option Addr} {osl : Array (Option Value)} {kV doc pm cdv ct : Value} (e1 : PySem.W.nsIn K mainGlobals x = some (some (.ref f)))
    (e2 : K.lookup f = some ⟨oc, od, .func (PySem.W.fnOf x x (defArgs st) (defBody st) (defScope st) .none kV doc pm an cdv ct), osl⟩) (e3 : PySem.W.codeIn K cdv x = true) (e4 : PySem.W.keepIn K (.ref f) = true) : DefAt K x st := ⟨f, _, e1, fun_mk e2 e3 e4⟩
section
variable {P : Program} {w : World} {K : PySem.W.Frag} {mg : Str → Option Value} {base : Heap}
abbrev BindsAs (x : Str) (st : Stmt) (ps : List Str) : Prop := ∀ (kV doc pm : Value) (an : Option Addr) (cdv ct : Value) (us : List Value), us.length = ps.length → bindArgs (PySem.W.fnOf x x (defArgs st) (defBody st) (defScope st) .none kV doc pm an cdv ct) ⟨us, []⟩ = pure (ps.zip us)
theorem DefAt.to {h : Heap} {x : Str} {st : Stmt} {ps : List Str} {k : Nat} {sp : Sp} (d : DefAt K x st) (KX : K.In h) (G : h.Ns mainGlobals mg) (hb : BindsAs x st ps) (ok : ∀ f fd, Fun K x x st f fd → FnOk P w K mg base CX0 k f fd ps sp) : Def P w K mg base k x ps sp := by
  obtain ⟨f, fd, e, F⟩ := d
  exact ⟨f, fd, ok f fd F, PySem.W.mg_of KX G e, F.kp, F.binds hb⟩
theorem DefAt.toR {h : Heap} {x : Str} {st : Stmt} {ps : List Str} {k : Nat} {sp : Sp} (d : DefAt K x st) (KX : K.In h) (G : h.Ns mainGlobals mg) (hb : BindsAs x st ps) (ok : ∀ f fd, Fun K x x st f fd → FnOk P w K mg base (CXR P w) k f fd ps sp) : DefR P w K mg base k x ps sp := by
  obtain ⟨f, fd, e, F⟩ := d
  exact ⟨f, fd, ok f fd F, PySem.W.mg_of KX G e, F.kp, F.binds hb⟩
def noneAt (K : PySem.W.Frag) (x : Str) : Bool := match PySem.W.nsIn K mainGlobals x with | some none => true | _ => false
theorem noneAt_of {h : Heap} {x : Str} (KX : K.In h) (G : h.Ns mainGlobals mg) (e : noneAt K x = true) : mg x = none := by
  unfold noneAt at e
  split at e
  · rename_i q
    exact PySem.W.mg_none_of KX G q
  · cases e
abbrev gsNames : List Str := ["isinstance", "int", "bool", "tuple", "list", "dict", "len", "all", "set", "range", "max", "min", "zip", "enumerate", "ValueError"]
theorem gs_of {h : Heap} {t1 : Tok} (KX : K.In h) (G : h.Ns mainGlobals mg) (e : gsNames.all (noneAt K) = true) (lo : PySem.W.nsIn K mainGlobals "LONGEST_SIDE" = some (some (.int 12 t1))) : Gs mg ∧ mg "ValueError" = none := by
  have k : ∀ x ∈ gsNames, mg x = none := fun x hx => noneAt_of KX G (List.all_eq_true.mp e x hx)
  exact ⟨⟨k _ (by simp), k _ (by simp), k _ (by simp), k _ (by simp), k _ (by simp), k _ (by simp), k _ (by simp), k _ (by simp), k _ (by simp), k _ (by simp), k _ (by simp), k _ (by simp), k _ (by simp), k _ (by simp), ⟨t1, PySem.W.mg_of KX G lo⟩⟩, k _ (by simp)⟩
def kOk (K : PySem.W.Frag) (C c : Value) (b : Bool) : Bool := match PySem.W.kitOne K C c with | some d => d == b | none => false
theorem kOk_of {C c : Value} {b : Bool} (h : kOk K C c b = true) : PySem.W.kitOne K C c = some b := by
  unfold kOk at h
  split at h
  · rename_i d q
    rw [q, beq_iff_eq.mp h]
  · cases h
def markOk (K : PySem.W.Frag) (C : Addr) (iC : Nat) : Bool := (List.range 15).all fun i => match PySem.W.nsIn K mainGlobals (nm15.getD i "") with | some (some (.ref c)) => kOk K (.ref C) (.ref c) (decide (i = iC)) | _ => false
def mroOk (K : PySem.W.Frag) (C : Addr) (b : Value) : Bool := match PySem.W.mroIn K C b with | some d => d | none => false
theorem mroOk_of {C : Addr} {b : Value} (h : mroOk K C b = true) : PySem.W.mroIn K C b = some true := by
  unfold mroOk at h
  split at h
  · rename_i d q
    rw [q, h]
  · cases h
def exmOk (K : PySem.W.Frag) (C c : Value) : Bool := match PySem.W.exmOne K C c with | some d => d | none => false
theorem exmOk_of {C c : Value} (h : exmOk K C c = true) : PySem.W.exmOne K C c = some true := by
  unfold exmOk at h
  split at h
  · rename_i d q
    rw [q, h]
  · cases h
def excOk (K : PySem.W.Frag) (cS C : Addr) (iC : Nat) : Bool := mroOk K C (.type "object") && mroOk K C (.type "BaseException") && (PySem.W.clsIn K C).isSome && exmOk K (.ref C) (.ref cS) && markOk K C iC && kOk K (.ref C) (.type "ValueError") true && PySem.W.excIn K C bmV "ValueError.__new__"
theorem mk15_of {h : Heap} {cS C : Addr} {iC : Nat} (KX : K.In h) (G : h.Ns mainGlobals mg) (mv : mg "ValueError" = none) (ms : mg "StepError" = some (.ref cS)) (hi : iC < 15) (e : excOk K cS C iC = true)
    (ga : PySem.W.findIn K (.ref C) "__getattribute__" = some (some (.builtin "BaseException.__getattribute__"))) (hook : PySem.W.findIn K (.ref C) "__getattr__" = some none) (cl : PySem.W.findIn K (.ref C) "__class__" = some (some (.builtin "object.__class__"))) : Mk15 K mg cS C iC ∧ PySem.W.excIn K C bmV "ValueError.__new__" = true := by
  unfold excOk at e
  simp only [Bool.and_eq_true] at e
  obtain ⟨⟨⟨⟨⟨⟨e1, e2⟩, e3⟩, e4⟩, e5⟩, e6⟩, e7⟩ := e
  refine ⟨⟨⟨ga, hook, cl, mroOk_of e1, mroOk_of e2, e3⟩, ms, exmOk_of e4, fun i hi => ?_, mv, kOk_of e6, hi⟩, e7⟩
  have := List.all_eq_true.mp e5 i (List.mem_range.mpr hi)
  split at this
  · rename_i c q
    exact ⟨c, PySem.W.mg_of KX G q, kOk_of this⟩
  · cases this
set_option maxHeartbeats 4000000 in
theorem law_all {h : Heap} {fa cR Pr f fr cS aB aL aT : Addr} {cl : Value} {ocr : Value} {odr anr : Option Addr} {kVr docr pmr ctr : Value} {oslr : Array (Option Value)} {ocl : Value} {odl anl : Option Addr} {kVl docl pml ctl : Value} {osll : Array (Option Value)} {t1 : Tok} (KX : K.In h) (G : h.Ns mainGlobals mg) (hmg : mg "law" = some (.ref fa))
    (d0 : DefAt K "is_whole" sWhole) (d1 : DefAt K "is_whole_within" sWithin) (d2 : DefAt K "is_tuple_of" sTupOf) (d3 : DefAt K "is_board" sBoard) (d4 : DefAt K "need_board" sNeedBoard) (d5 : DefAt K "is_lay" sLay) (d6 : DefAt K "need_lay" sNeedLay) (d7 : DefAt K "points" sPoints) (d8 : DefAt K "is_point" sIP) (d9 : DefAt K "lay_of" sLO) (d10 : DefAt K "is_turn" sTurn) (d11 : DefAt K "need_turn" sNT) (d12 : DefAt K "turned_point" sTP) (d13 : DefAt K "turned_board" sTB) (d14 : DefAt K "turned" sTu) (d15 : DefAt K "turns_together" sTT) (d16 : DefAt K "_law_cell_at" sCell) (d17 : DefAt K "_law_state" sState) (d18 : DefAt K "_law_take" sTake) (d19 : DefAt K "_law_word" sWord) (d20 : DefAt K "_law_lay" sLL) (d21 : DefAt K "_law_no_board" sNoB) (d22 : DefAt K "_law_no_lay" sNL) (d23 : DefAt K "_law_same" sSame) (d24 : DefAt K "_law_turn" sLT) (d25 : DefAt K "_law_no_turn" sNoT) (d26 : DefAt K "_law_moved" sMv) (d27 : DefAt K "_law_board_by" sBB) (d28 : DefAt K "_law_turned" sLTu) (d29 : DefAt K "_law_all_turns" sAT) (d30 : DefAt K "_law_together" sTg)
    (r1 : PySem.W.nsIn K mainGlobals "_law_refused_right" = some (some (.ref fr))) (r2 : K.lookup fr = some ⟨ocr, odr, .func (PySem.W.fnOf "_law_refused_right" "_law_refused_right" (defArgs sRR) (defBody sRR) (defScope sRR) .none kVr docr pmr anr (.ref cR) ctr), oslr⟩) (r3 : PySem.W.codeIn K (.ref cR) "_law_refused_right" = true) (r4 : PySem.W.codeHdIn K cR Pr = true) (r5 : PySem.W.keepIn K (.ref fr) = true)
    (l1 : PySem.W.nsIn K mainGlobals "law" = some (some (.ref f))) (l2 : K.lookup f = some ⟨ocl, odl, .func (PySem.W.fnOf "law" "law" (defArgs sLaw) (defBody sLaw) (defScope sLaw) .none kVl docl pml anl cl ctl), osll⟩) (l3 : PySem.W.codeIn K cl "law" = true) (l5 : PySem.W.keepIn K (.ref f) = true)
    (g1 : gsNames.all (noneAt K) = true) (lo : PySem.W.nsIn K mainGlobals "LONGEST_SIDE" = some (some (.int 12 t1)))
    (eB : PySem.W.nsIn K mainGlobals "NoBoard" = some (some (.ref aB))) (eL : PySem.W.nsIn K mainGlobals "NoLay" = some (some (.ref aL))) (eT : PySem.W.nsIn K mainGlobals "NoTurn" = some (some (.ref aT))) (eS : PySem.W.nsIn K mainGlobals "StepError" = some (some (.ref cS)))
    (xB : excOk K cS aB 0 = true) (xL : excOk K cS aL 1 = true) (xT : excOk K cS aT 9 = true)
    (gaB : PySem.W.findIn K (.ref aB) "__getattribute__" = some (some (.builtin "BaseException.__getattribute__"))) (hoB : PySem.W.findIn K (.ref aB) "__getattr__" = some none) (clB : PySem.W.findIn K (.ref aB) "__class__" = some (some (.builtin "object.__class__"))) (gaL : PySem.W.findIn K (.ref aL) "__getattribute__" = some (some (.builtin "BaseException.__getattribute__"))) (hoL : PySem.W.findIn K (.ref aL) "__getattr__" = some none) (clL : PySem.W.findIn K (.ref aL) "__class__" = some (some (.builtin "object.__class__"))) (gaT : PySem.W.findIn K (.ref aT) "__getattribute__" = some (some (.builtin "BaseException.__getattribute__"))) (hoT : PySem.W.findIn K (.ref aT) "__getattr__" = some none) (clT : PySem.W.findIn K (.ref aT) "__class__" = some (some (.builtin "object.__class__"))) :
    ∃ fd : FuncData, (∀ (s : Shared) (u : Value), BindsTo s fd ⟨[u], []⟩ [("_law_script", u)]) ∧ ∀ base : Heap, K.In base → base.Ns mainGlobals mg → BmAt mg base → FnOk P w K mg base CX0 13 fa fd ["_law_script"] (spLaw K Pr) := by
  have e0 := hmg.symm.trans (PySem.W.mg_of KX G l1)
  cases e0
  obtain ⟨gs, mv⟩ := gs_of KX G g1 lo
  have ms := PySem.W.mg_of KX G eS
  obtain ⟨MB, yB⟩ := mk15_of KX G mv ms (by decide : 0 < 15) xB gaB hoB clB
  have exB : Exc K mg "NoBoard" aB := ⟨PySem.W.mg_of KX G eB, yB⟩
  obtain ⟨ML, yL⟩ := mk15_of KX G mv ms (by decide : 1 < 15) xL gaL hoL clL
  have exL : Exc K mg "NoLay" aL := ⟨PySem.W.mg_of KX G eL, yL⟩
  obtain ⟨MT, yT⟩ := mk15_of KX G mv ms (by decide : 9 < 15) xT gaT hoT clT
  have exT : Exc K mg "NoTurn" aT := ⟨PySem.W.mg_of KX G eT, yT⟩
  refine ⟨PySem.W.fnOf "law" "law" (defArgs sLaw) (defBody sLaw) (defScope sLaw) .none kVl docl pml anl cl ctl, fun s u => .of_eq rfl, fun base kb nb bm => ?_⟩
  have b0 : ∀ {x : Str} {st : Stmt}, (∀ (kV doc pm : Value) (an : Option Addr) (cdv ct : Value), bindArgs (PySem.W.fnOf x x (defArgs st) (defBody st) (defScope st) .none kV doc pm an cdv ct) ⟨[], []⟩ = pure []) → BindsAs x st [] := fun h kV doc pm an cdv ct us hl => match us, hl with | [], _ => h kV doc pm an cdv ct
  have b1 : ∀ {x a : Str} {st : Stmt}, (∀ (kV doc pm : Value) (an : Option Addr) (cdv ct u : Value), bindArgs (PySem.W.fnOf x x (defArgs st) (defBody st) (defScope st) .none kV doc pm an cdv ct) ⟨[u], []⟩ = pure [(a, u)]) → BindsAs x st [a] := fun h kV doc pm an cdv ct us hl => match us, hl with | [u], _ => h kV doc pm an cdv ct u
  have b2 : ∀ {x a b : Str} {st : Stmt}, (∀ (kV doc pm : Value) (an : Option Addr) (cdv ct u v : Value), bindArgs (PySem.W.fnOf x x (defArgs st) (defBody st) (defScope st) .none kV doc pm an cdv ct) ⟨[u, v], []⟩ = pure [(a, u), (b, v)]) → BindsAs x st [a, b] := fun h kV doc pm an cdv ct us hl => match us, hl with | [u, v], _ => h kV doc pm an cdv ct u v
  have b3 : ∀ {x a b c : Str} {st : Stmt}, (∀ (kV doc pm : Value) (an : Option Addr) (cdv ct u v w : Value), bindArgs (PySem.W.fnOf x x (defArgs st) (defBody st) (defScope st) .none kV doc pm an cdv ct) ⟨[u, v, w], []⟩ = pure [(a, u), (b, v), (c, w)]) → BindsAs x st [a, b, c] := fun h kV doc pm an cdv ct us hl => match us, hl with | [u, v, w], _ => h kV doc pm an cdv ct u v w
  have b4 : ∀ {x a b c d : Str} {st : Stmt}, (∀ (kV doc pm : Value) (an : Option Addr) (cdv ct u v w z : Value), bindArgs (PySem.W.fnOf x x (defArgs st) (defBody st) (defScope st) .none kV doc pm an cdv ct) ⟨[u, v, w, z], []⟩ = pure [(a, u), (b, v), (c, w), (d, z)]) → BindsAs x st [a, b, c, d] := fun h kV doc pm an cdv ct us hl => match us, hl with | [u, v, w, z], _ => h kV doc pm an cdv ct u v w z
  have good : ∀ b' : Heap, (Def P w K mg b' 5 "turned_board" ["board", "turn"] spTB ∧ DefR P w K mg b' 5 "turned_board" ["board", "turn"] (spTBx K aB aT)) ∧ (Def P w K mg b' 8 "turned" ["board", "lay", "turn"] (spTu K) ∧ DefR P w K mg b' 8 "turned" ["board", "lay", "turn"] (spTux K aB aL aT)) ∧ (Def P w K mg b' 5 "turns_together" ["turn", "other"] (spTT K) ∧ DefR P w K mg b' 5 "turns_together" ["turn", "other"] (spTTx K aT)) := fun b' => by
    have D0 : Def P w K mg b' 1 "is_whole" ["thing"] (spWhole K) := d0.to KX G (b1 fun _ _ _ _ _ _ _ => rfl) fun f fd F => ok_whole F gs
    have D1 : Def P w K mg b' 2 "is_whole_within" ["thing", "least", "most"] (spWithin K) := d1.to KX G (b3 fun _ _ _ _ _ _ _ _ _ => rfl) fun f fd F => ok_within F D0
    have D2 : Def P w K mg b' 1 "is_tuple_of" ["thing", "many"] (spTupOf K) := d2.to KX G (b2 fun _ _ _ _ _ _ _ _ => rfl) fun f fd F => ok_tupOf F gs
    have D3 : Def P w K mg b' 3 "is_board" ["thing"] (spBoard K) := d3.to KX G (b1 fun _ _ _ _ _ _ _ => rfl) fun f fd F => ok_board F gs D2 D1
    have D4 : Def P w K mg b' 4 "need_board" ["board"] (spNeedBoard K) := d4.to KX G (b1 fun _ _ _ _ _ _ _ => rfl) fun f fd F => ok_needBoard F D3
    have D5 : Def P w K mg b' 5 "is_lay" ["board", "thing"] (spLay K) := d5.to KX G (b2 fun _ _ _ _ _ _ _ _ => rfl) fun f fd F => ok_lay F gs D4 D2 D1
    have D6 : Def P w K mg b' 6 "need_lay" ["board", "lay"] (spNeedLay K) := d6.to KX G (b2 fun _ _ _ _ _ _ _ _ => rfl) fun f fd F => ok_needLay F D5
    have D7 : Def P w K mg b' 7 "points" ["board", "lay"] (spPoints K) := d7.to KX G (b2 fun _ _ _ _ _ _ _ _ => rfl) fun f fd F => ok_points F gs D6
    have D8 : Def P w K mg b' 3 "is_point" ["board", "thing"] (spIP K) := d8.to KX G (b2 fun _ _ _ _ _ _ _ _ => rfl) fun f fd F => ok_ip F gs D2 D1
    have D9 : Def P w K mg b' 5 "lay_of" ["board", "points"] (spLO K) := d9.to KX G (b2 fun _ _ _ _ _ _ _ _ => rfl) fun f fd F => ok_lo F gs D4 D8
    have D10 : Def P w K mg b' 3 "is_turn" ["thing"] (spTurn K) := d10.to KX G (b1 fun _ _ _ _ _ _ _ => rfl) fun f fd F => ok_turn F gs D2 D1
    have D11 : Def P w K mg b' 4 "need_turn" ["turn"] (spNT K) := d11.to KX G (b1 fun _ _ _ _ _ _ _ => rfl) fun f fd F => ok_nt F D10
    have D12 : Def P w K mg b' 1 "turned_point" ["board", "point", "turn"] spTP := d12.to KX G (b3 fun _ _ _ _ _ _ _ _ _ => rfl) fun f fd F => ok_tp F
    have D13 : Def P w K mg b' 5 "turned_board" ["board", "turn"] spTB := d13.to KX G (b2 fun _ _ _ _ _ _ _ _ => rfl) fun f fd F => ok_tb F D4 D11
    have R4 : DefR P w K mg b' 4 "need_board" ["board"] (spNBx K aB) := d4.toR KX G (b1 fun _ _ _ _ _ _ _ => rfl) fun f fd F => ok_needBoardX F gs exB D3
    have R5 : DefR P w K mg b' 5 "is_lay" ["board", "thing"] (spLayx K aB) := d5.toR KX G (b2 fun _ _ _ _ _ _ _ _ => rfl) fun f fd F => ok_layX F R4
    have R6 : DefR P w K mg b' 6 "need_lay" ["board", "lay"] (spNLx K aB aL) := d6.toR KX G (b2 fun _ _ _ _ _ _ _ _ => rfl) fun f fd F => ok_needLayX F exL D5 R5
    have R7 : DefR P w K mg b' 7 "points" ["board", "lay"] (spNLx K aB aL) := d7.toR KX G (b2 fun _ _ _ _ _ _ _ _ => rfl) fun f fd F => ok_pointsX F R6
    have R11 : DefR P w K mg b' 4 "need_turn" ["turn"] (spNTx K aT) := d11.toR KX G (b1 fun _ _ _ _ _ _ _ => rfl) fun f fd F => ok_ntX F exT D10
    have R13 : DefR P w K mg b' 5 "turned_board" ["board", "turn"] (spTBx K aB aT) := d13.toR KX G (b2 fun _ _ _ _ _ _ _ _ => rfl) fun f fd F => ok_tbX F D4 R4 R11
    have D14 : Def P w K mg b' 8 "turned" ["board", "lay", "turn"] (spTu K) := d14.to KX G (b3 fun _ _ _ _ _ _ _ _ _ => rfl) fun f fd F => ok_tu F D7 D13 D9 D12
    have R14 : DefR P w K mg b' 8 "turned" ["board", "lay", "turn"] (spTux K aB aL aT) := d14.toR KX G (b3 fun _ _ _ _ _ _ _ _ _ => rfl) fun f fd F => ok_tuX F D7 R7 R13
    have D15 : Def P w K mg b' 5 "turns_together" ["turn", "other"] (spTT K) := d15.to KX G (b2 fun _ _ _ _ _ _ _ _ => rfl) fun f fd F => ok_tt F D11
    have R15 : DefR P w K mg b' 5 "turns_together" ["turn", "other"] (spTTx K aT) := d15.toR KX G (b2 fun _ _ _ _ _ _ _ _ => rfl) fun f fd F => ok_ttX F D11 R11
    exact ⟨⟨D13, R13⟩, ⟨D14, R14⟩, D15, R15⟩
  have hR : ∀ b' : Heap, Def P w K mg b' 10 "_law_word" ["_law_call"] (spWord P w K mg b' cS 9) := fun b' => d19.to KX G (b1 fun _ _ _ _ _ _ _ => rfl) fun f fd F => ok_word F gs
  have D16 : Def P w K mg base 1 "_law_cell_at" ["_law_script", "_law_k"] (spCell K) := d16.to KX G (b2 fun _ _ _ _ _ _ _ _ => rfl) fun f fd F => ok_cell F gs
  have D17 : Def P w K mg base 2 "_law_state" ["_law_script", "_law_k"] (spState K) := d17.to KX G (b2 fun _ _ _ _ _ _ _ _ => rfl) fun f fd F => ok_state F gs D16
  have D18 : Def P w K mg base 1 "_law_take" ["_law_state_here", "_law_many"] spTake := d18.to KX G (b2 fun _ _ _ _ _ _ _ _ => rfl) fun f fd F => ok_take F
  have D20 : Def P w K mg base 2 "_law_lay" ["_law_state_here", "_law_board"] (spLL K) := d20.to KX G (b2 fun _ _ _ _ _ _ _ _ => rfl) fun f fd F => ok_ll F gs D18
  have D21 : Def P w K mg base 2 "_law_no_board" ["_law_state_here"] (spNoB K) := d21.to KX G (b1 fun _ _ _ _ _ _ _ => rfl) fun f fd F => ok_noB F D18
  have D22 : Def P w K mg base 2 "_law_no_lay" ["_law_state_here", "_law_board", "_law_lay_here"] (spNL K) := d22.to KX G (b3 fun _ _ _ _ _ _ _ _ _ => rfl) fun f fd F => ok_nl F gs D18
  have D23a : Def P w K mg base 1 "_law_same" ["_law_found", "_law_due"] (spSame R1) := d23.to KX G (b2 fun _ _ _ _ _ _ _ _ => rfl) fun f fd F => ok_same1 F gs
  have D23 : Def P w K mg base 2 "_law_same" ["_law_found", "_law_due"] (spSame (RTu R1)) := d23.to KX G (b2 fun _ _ _ _ _ _ _ _ => rfl) fun f fd F => ok_sameTu (R := R1) (fun r s => R1.same r s) F gs D23a
  have D24 : Def P w K mg base 2 "_law_turn" ["_law_state_here"] spLT := d24.to KX G (b1 fun _ _ _ _ _ _ _ => rfl) fun f fd F => ok_lt F D18
  have D25 : Def P w K mg base 2 "_law_no_turn" ["_law_state_here", "_law_turn_here"] (spNoT K) := d25.to KX G (b2 fun _ _ _ _ _ _ _ _ => rfl) fun f fd F => ok_noT F gs D18
  have D26 : Def P w K mg base 1 "_law_moved" ["_law_board", "_law_turn_here", "_law_point"] spMv := d26.to KX G (b3 fun _ _ _ _ _ _ _ _ _ => rfl) fun f fd F => ok_mv F
  have D27 : Def P w K mg base 1 "_law_board_by" ["_law_board", "_law_turn_here"] spBB := d27.to KX G (b2 fun _ _ _ _ _ _ _ _ => rfl) fun f fd F => ok_bb F
  have D28 : Def P w K mg base 2 "_law_turned" ["_law_board", "_law_lay_here", "_law_turn_here"] (spLTu K) := d28.to KX G (b3 fun _ _ _ _ _ _ _ _ _ => rfl) fun f fd F => ok_ltu F gs D26 D27
  have D29 : Def P w K mg base 1 "_law_all_turns" [] spAT := d29.to KX G (b0 fun _ _ _ _ _ _ => rfl) fun f fd F => ok_at F gs
  have D30 : Def P w K mg base 2 "_law_together" ["_law_turn_here", "_law_other"] spTg := d30.to KX G (b2 fun _ _ _ _ _ _ _ _ => rfl) fun f fd F => ok_tg F D26 D27 D29
  obtain ⟨fR, fdR, eR', FR⟩ := id d19
  have mW := PySem.W.mg_of KX G eR'
  have Drr : Def P w K mg base 12 "_law_refused_right" ["_law_state_here", "_law_board", "_law_lay_here", "_law_turn_here"] (spRR K Pr) := ⟨fr, _, ok_rr r2 r3 D21 D22 D25 hR (fun b' => (good b').2.1.2) (fun b' => (good b').1.2) (fun b' => (good b').2.2.2) mW FR.kp MB ML MT (PySem.W.codeHd_of_K kb r4) bm, PySem.W.mg_of KX G r1, r5, (fun_mk r2 r3 r5).binds (b4 fun _ _ _ _ _ _ _ _ _ _ => rfl)⟩
  exact ok_law (fun_mk l2 l3 l5) gs D29 D23 (good base).2.2.1 D30 D17 D24 D18 D20 (good base).1.1 D27 (good base).2.1.1 D28 Drr
end
end U
-- part KL11
set_option Elab.async false
set_option linter.all false
set_option maxRecDepth 100000
/-! the names that the head would take for quicker twins of its heaps, trees and texts: taken, so that it lays none of them (each is proved by a chain that grows with the square of the objects) -/
def PySem.W.Fast.tw17790712408431523008 : Unit := ()
def PySem.W.Fast.tw613233841605274273 : Unit := ()
def PySem.W.Fast.tw5301360236959411490 : Unit := ()
def PySem.W.Fast.tw1204591306559621283 : Unit := ()
def PySem.W.Fast.tw3749312528248212548 : Unit := ()
def PySem.W.Fast.tw17946889917990285062 : Unit := ()
def PySem.W.Fast.tw5994661163211434055 : Unit := ()
def PySem.W.Fast.tw10176513178490301031 : Unit := ()
def PySem.W.Fast.tw10457837331348717255 : Unit := ()
def PySem.W.Fast.tw570536367783466791 : Unit := ()
def PySem.W.Fast.tw13523252557963071144 : Unit := ()
def PySem.W.Fast.tw992409080000933001 : Unit := ()
def PySem.W.Fast.tw5466317157200390377 : Unit := ()
def PySem.W.Fast.tw4428555822748316009 : Unit := ()
def PySem.W.Fast.tw5559727245718267593 : Unit := ()
def PySem.W.Fast.tw3651901874026534955 : Unit := ()
def PySem.W.Fast.tw1662415587009961355 : Unit := ()
def PySem.W.Fast.tw8351953070362806955 : Unit := ()
def PySem.W.Fast.tw16265865483286279724 : Unit := ()
def PySem.W.Fast.tw17416715013094152940 : Unit := ()
def PySem.W.Fast.tw7610222614771328557 : Unit := ()
def PySem.W.Fast.tw14232427562610309741 : Unit := ()
def PySem.W.Fast.tw17298422119631426286 : Unit := ()
def PySem.W.Fast.tw2981376788307172559 : Unit := ()
def PySem.W.Fast.tw13249878924128646447 : Unit := ()
def PySem.W.Fast.tw7089848901736264401 : Unit := ()
def PySem.W.Fast.tw9313639643752968402 : Unit := ()
def PySem.W.Fast.tw1053001184874837299 : Unit := ()
def PySem.W.Fast.tw4751598463955779764 : Unit := ()
def PySem.W.Fast.tw1761405749484023028 : Unit := ()
def PySem.W.Fast.tw11626519925170042805 : Unit := ()
def PySem.W.Fast.tw16703470151246453974 : Unit := ()
def PySem.W.Fast.tw7458719284564417110 : Unit := ()
def PySem.W.Fast.tw16991414758694020822 : Unit := ()
def PySem.W.Fast.tw13983809463985602550 : Unit := ()
def PySem.W.Fast.tw18321035254005470711 : Unit := ()
def PySem.W.Fast.tw5233191545596850168 : Unit := ()
def PySem.W.Fast.tw1454162360112922681 : Unit := ()
def PySem.W.Fast.tw232290779873071289 : Unit := ()
def PySem.W.Fast.tw12720325649837320890 : Unit := ()
def PySem.W.Fast.tw6388383584097857210 : Unit := ()
def PySem.W.Fast.tw15618685040591040474 : Unit := ()
def PySem.W.Fast.tw2721381725717426300 : Unit := ()
def PySem.W.Fast.tw8528367568163618076 : Unit := ()
def PySem.W.Fast.tw7408531128156570831 : Unit := ()
set_option maxRecDepth 100000 in
set_option maxHeartbeats 0 in
theorem PySem.Challenge.cw_unlikesteps_k80_lays_turned_holds : PySem.Challenge.rw_unlikesteps_k80_lays_turned.Holds := by
  w_on; o_law; k_head; (case hw => w_witness2)
  k_fill
  refine U.walk_ofTs (l := PySem.Challenge.rw_unlikesteps_k80_lays_turned) (n := 63) (k := 13) (x := "_law_script") (Pts := [406]) (sp := fun K => U.spLaw K 406) rfl (by decide) rfl ⟨rfl, by decide, by decide⟩ (fun w h Y => PySem.W.km_in_of Y) ?hT9 ?hC9 ?hN9 ?F ?S
  case hT9 =>
    intro w h Y P hP
    simp only [List.mem_cons, List.not_mem_nil, or_false] at hP
    rcases hP with rfl
    · exact PySem.W.km_tabs_of Y 406 (by simp)
  case hC9 =>
    intro w h X P hP
    simp only [List.mem_cons, List.not_mem_nil, or_false] at hP
    rcases hP with rfl
    · exact ⟨408, PySem.W.codeHd_of_K X (by kernel_rfl)⟩
  case hN9 =>
    intro w P hP
    simp only [List.mem_cons, List.not_mem_nil, or_false] at hP
    rcases hP with rfl
    · kernel_rfl
  case S => exact fun K H a ns hl hs hp => ⟨a, ns, rfl, hs, hl, hp _ (by simp), fun _ => rfl⟩
  case F =>
    intro w mg fa h KX G hmg
    refine' U.law_all (cR := 408) (Pr := 406) KX G hmg (U.defAt_mk ?a0 ?b0 ?c0 ?e0) (U.defAt_mk ?a1 ?b1 ?c1 ?e1) (U.defAt_mk ?a2 ?b2 ?c2 ?e2) (U.defAt_mk ?a3 ?b3 ?c3 ?e3) (U.defAt_mk ?a4 ?b4 ?c4 ?e4) (U.defAt_mk ?a5 ?b5 ?c5 ?e5) (U.defAt_mk ?a6 ?b6 ?c6 ?e6) (U.defAt_mk ?a7 ?b7 ?c7 ?e7) (U.defAt_mk ?a8 ?b8 ?c8 ?e8) (U.defAt_mk ?a9 ?b9 ?c9 ?e9) (U.defAt_mk ?a10 ?b10 ?c10 ?e10) (U.defAt_mk ?a11 ?b11 ?c11 ?e11) (U.defAt_mk ?a12 ?b12 ?c12 ?e12) (U.defAt_mk ?a13 ?b13 ?c13 ?e13) (U.defAt_mk ?a14 ?b14 ?c14 ?e14) (U.defAt_mk ?a15 ?b15 ?c15 ?e15) (U.defAt_mk ?a16 ?b16 ?c16 ?e16) (U.defAt_mk ?a17 ?b17 ?c17 ?e17) (U.defAt_mk ?a18 ?b18 ?c18 ?e18) (U.defAt_mk ?a19 ?b19 ?c19 ?e19) (U.defAt_mk ?a20 ?b20 ?c20 ?e20) (U.defAt_mk ?a21 ?b21 ?c21 ?e21) (U.defAt_mk ?a22 ?b22 ?c22 ?e22) (U.defAt_mk ?a23 ?b23 ?c23 ?e23) (U.defAt_mk ?a24 ?b24 ?c24 ?e24) (U.defAt_mk ?a25 ?b25 ?c25 ?e25) (U.defAt_mk ?a26 ?b26 ?c26 ?e26) (U.defAt_mk ?a27 ?b27 ?c27 ?e27) (U.defAt_mk ?a28 ?b28 ?c28 ?e28) (U.defAt_mk ?a29 ?b29 ?c29 ?e29) (U.defAt_mk ?a30 ?b30 ?c30 ?e30) ?r1 ?r2 ?r3 ?r4 ?r5 ?l1 ?l2 ?l3 ?l5 ?g1 ?lo ?eB ?eL ?eT ?eS ?xB ?xL ?xT ?gaB ?hoB ?clB ?gaL ?hoL ?clL ?gaT ?hoT ?clT
    (case a0 => k_is); (case b0 => k_is); (case c0 => k_is); (case e0 => k_is)
    (case a1 => k_is); (case b1 => k_is); (case c1 => k_is); (case e1 => k_is)
    (case a2 => k_is); (case b2 => k_is); (case c2 => k_is); (case e2 => k_is)
    (case a3 => k_is); (case b3 => k_is); (case c3 => k_is); (case e3 => k_is)
    (case a4 => k_is); (case b4 => k_is); (case c4 => k_is); (case e4 => k_is)
    (case a5 => k_is); (case b5 => k_is); (case c5 => k_is); (case e5 => k_is)
    (case a6 => k_is); (case b6 => k_is); (case c6 => k_is); (case e6 => k_is)
    (case a7 => k_is); (case b7 => k_is); (case c7 => k_is); (case e7 => k_is)
    (case a8 => k_is); (case b8 => k_is); (case c8 => k_is); (case e8 => k_is)
    (case a9 => k_is); (case b9 => k_is); (case c9 => k_is); (case e9 => k_is)
    (case a10 => k_is); (case b10 => k_is); (case c10 => k_is); (case e10 => k_is)
    (case a11 => k_is); (case b11 => k_is); (case c11 => k_is); (case e11 => k_is)
    (case a12 => k_is); (case b12 => k_is); (case c12 => k_is); (case e12 => k_is)
    (case a13 => k_is); (case b13 => k_is); (case c13 => k_is); (case e13 => k_is)
    (case a14 => k_is); (case b14 => k_is); (case c14 => k_is); (case e14 => k_is)
    (case a15 => k_is); (case b15 => k_is); (case c15 => k_is); (case e15 => k_is)
    (case a16 => k_is); (case b16 => k_is); (case c16 => k_is); (case e16 => k_is)
    (case a17 => k_is); (case b17 => k_is); (case c17 => k_is); (case e17 => k_is)
    (case a18 => k_is); (case b18 => k_is); (case c18 => k_is); (case e18 => k_is)
    (case a19 => k_is); (case b19 => k_is); (case c19 => k_is); (case e19 => k_is)
    (case a20 => k_is); (case b20 => k_is); (case c20 => k_is); (case e20 => k_is)
    (case a21 => k_is); (case b21 => k_is); (case c21 => k_is); (case e21 => k_is)
    (case a22 => k_is); (case b22 => k_is); (case c22 => k_is); (case e22 => k_is)
    (case a23 => k_is); (case b23 => k_is); (case c23 => k_is); (case e23 => k_is)
    (case a24 => k_is); (case b24 => k_is); (case c24 => k_is); (case e24 => k_is)
    (case a25 => k_is); (case b25 => k_is); (case c25 => k_is); (case e25 => k_is)
    (case a26 => k_is); (case b26 => k_is); (case c26 => k_is); (case e26 => k_is)
    (case a27 => k_is); (case b27 => k_is); (case c27 => k_is); (case e27 => k_is)
    (case a28 => k_is); (case b28 => k_is); (case c28 => k_is); (case e28 => k_is)
    (case a29 => k_is); (case b29 => k_is); (case c29 => k_is); (case e29 => k_is)
    (case a30 => k_is); (case b30 => k_is); (case c30 => k_is); (case e30 => k_is)
    (case r1 => k_is)
    (case r2 => k_is)
    (case r3 => k_is)
    (case r4 => kernel_rfl)
    (case r5 => k_is)
    (case l1 => k_is)
    (case l2 => k_is)
    (case l3 => k_is)
    (case l5 => k_is)
    (case g1 => kernel_rfl)
    (case lo => k_is)
    (case eB => k_is)
    (case eL => k_is)
    (case eT => k_is)
    (case eS => k_is)
    (case xB => kernel_rfl)
    (case xL => kernel_rfl)
    (case xT => kernel_rfl)
    (case gaB => k_is)
    (case hoB => k_is)
    (case clB => k_is)
    (case gaL => k_is)
    (case hoL => k_is)
    (case clL => k_is)
    (case gaT => k_is)
    (case hoT => k_is)
    (case clT => k_is)
