import PyProof.Rows.All
import Wide.All
import OpenK.AllK
import Wide.FinOn
import Lean
import PyProof.EqAt
import PyProof.EqKinds
import PyProof.TupleCall
import PyProof.NeKinds
import PyProof.Rows.SortWalk
import PyProof.Rows.SortRuns
import KE.KMinKey
import PyProof.IsRules
import PySem.SetOps
import PyProof.SetScanFacts
import PyProof.TupleKey
import PyProof.SetKind
import PyProof.Rows.SetFrom
import KE.KRevSl
import PyProof.Rows.SumAny
import PyProof.EnumMake
import PyProof.SeqI3
import PySem.Challenge.RW_unlikesteps_k52_whole_most_points
-- part PL
-- CHANGE: your row's module here, as the last of these rows
set_option Elab.async false
set_option linter.all false
set_option maxRecDepth 100000
/-! THE HAND LAYER, for ints, bools, texts, own classes, LISTS and tuples (index, slices, in, append, pop ..), calls, loops. Paste it whole ahead of your own text; what your proof does not reach may be deleted. -/
namespace L2
open PySem PySem.Spec PyProof.Rows

/-- a key: an int or a str -/
abbrev Key := Sum Int Str
def keyIs : Key → Value → Bool
  | .inl k, v => Value.isInt k v
  | .inr x, v => Value.isStrOf x v
def keyH (w : World) : Key → Int
  | .inl k => hashInt k
  | .inr x => hashStr w x
theorem keyIs_shape : ∀ {k : Key} {v : Value}, keyIs k v = true → (∃ i t, k = Sum.inl i ∧ v = Value.int i t) ∨ (∃ x t, k = Sum.inr x ∧ v = Value.str x t)
  | .inl i, v, h => by
    obtain ⟨t, e⟩ := Value.isInt_shape (k := i) (v := v) h
    exact .inl ⟨i, t, rfl, e⟩
  | .inr x, v, h => by
    obtain ⟨t, e⟩ := Value.isStrOf_shape (x := x) (v := v) h
    exact .inr ⟨x, t, rfl, e⟩
theorem key_ll (a b : Int) : decide ((Sum.inl a : Key) = Sum.inl b) = (a == b) := by
  by_cases e : a = b
  · subst e; simp
  · have h : ¬ (Sum.inl a : Key) = Sum.inl b := fun q => e (Sum.inl.inj q)
    rw [decide_eq_false h]
    exact (beq_eq_false_iff_ne.mpr e).symm
theorem key_rr (a b : Str) : decide ((Sum.inr a : Key) = Sum.inr b) = decide (a = b) := by
  by_cases e : a = b
  · subst e; simp
  · have h : ¬ (Sum.inr a : Key) = Sum.inr b := fun q => e (Sum.inr.inj q)
    rw [decide_eq_false h, decide_eq_false e]
theorem key_lr (a : Int) (b : Str) : decide ((Sum.inl a : Key) = Sum.inr b) = false := decide_eq_false (fun q => nomatch q)
theorem key_rl (a : Str) (b : Int) : decide ((Sum.inr a : Key) = Sum.inl b) = false := decide_eq_false (fun q => nomatch q)

def mixKind (prog : Program) (w : World) : PySem.KeyKind prog w Key where
  is := keyIs
  hash := keyH w
  inj := fun v a b ha hb => by
    rcases keyIs_shape ha with ⟨i, t, rfl, rfl⟩ | ⟨x, t, rfl, rfl⟩
    · rcases keyIs_shape hb with ⟨j, u, rfl, e⟩ | ⟨y, u, rfl, e⟩
      · injection e with e1 _; rw [e1]
      · exact nomatch e
    · rcases keyIs_shape hb with ⟨j, u, rfl, e⟩ | ⟨y, u, rfl, e⟩
      · exact nomatch e
      · injection e with e1 _; rw [e1]
  byValue := fun k v h => by
    rcases keyIs_shape h with ⟨i, t, rfl, rfl⟩ | ⟨x, t, rfl, rfl⟩ <;> rfl
  pyHash := fun hv h => by
    rcases keyIs_shape hv with ⟨i, t, rfl, rfl⟩ | ⟨x, t, rfl, rfl⟩
    · exact wpAny_pyHash_int h
    · exact wpAny_pyHash_str h
  eqBool := fun hu hv h => by
    rcases keyIs_shape hu with ⟨i, t, rfl, rfl⟩ | ⟨x, t, rfl, rfl⟩
    · rcases keyIs_shape hv with ⟨j, u, rfl, rfl⟩ | ⟨y, u, rfl, rfl⟩
      · rw [key_ll] at h; exact wpAny_eqBool_int h
      · rw [key_lr] at h; exact SeqAt.EqAt.int_str i t y u _ _ _ _ h
    · rcases keyIs_shape hv with ⟨j, u, rfl, rfl⟩ | ⟨y, u, rfl, rfl⟩
      · rw [key_rl] at h; exact SeqAt.EqAt.str_int x t j u _ _ _ _ h
      · rw [key_rr] at h; exact wpAny_eqBool_str h
  «strs» := fun k x t v h => by
    rcases keyIs_shape h with ⟨i, u, rfl, e⟩ | ⟨y, u, rfl, e⟩
    · exact nomatch e
    · injection e with e1 _
      subst e1
      cases v <;> rfl

end L2

namespace L2
open PySem PySem.Spec PyProof.Rows

/-- a value, without the heap -/
inductive V where
  | non | bl (b : Bool) | int (i : Int) | str (x : Str) | byt (b : Array UInt8) | flt (b : UInt64) | ref (a : Addr) | ty (n : String)
  deriving DecidableEq

def RelV : V → Value → Prop
  | .non, u => u = Value.none
  | .bl b, u => u = Value.bool b
  | .int i, u => ∃ t, u = Value.int i t
  | .str x, u => ∃ t, u = Value.str x t
  | .byt b, u => ∃ t, u = Value.bytes b t
  | .flt b, u => ∃ t, u = Value.float b t
  | .ref a, u => u = Value.ref a
  | .ty n, u => u = Value.type n

abbrev Vals : List V → List Value → Prop := Paired RelV
theorem Vals.length {xs : List V} {us : List Value} (r : Vals xs us) : xs.length = us.length := Paired.length r
theorem Vals.get : ∀ {xs : List V} {us : List Value} {i : Nat} {x : V}, Vals xs us → xs[i]? = some x → ∃ u, us[i]? = some u ∧ RelV x u
  | _, _, _, _, .nil, e => by simp at e
  | _, _, 0, _, .cons r _, e => by simp at e; subst e; exact ⟨_, rfl, r⟩
  | _, _, i + 1, x, .cons _ t, e => by
    obtain ⟨u, h1, h2⟩ := Vals.get (i := i) (x := x) t (by simpa using e)
    exact ⟨u, by simpa using h1, h2⟩
theorem Vals.set {x : V} {u : Value} (r : RelV x u) : ∀ {xs : List V} {us : List Value} (i : Nat), Vals xs us → Vals (xs.set i x) (us.set i u)
  | _, _, _, .nil => .nil
  | _, _, 0, .cons _ t => .cons r t
  | _, _, i + 1, .cons q t => .cons q (Vals.set r i t)
theorem Vals.append : ∀ {xs ys : List V} {us ws : List Value}, Vals xs us → Vals ys ws → Vals (xs ++ ys) (us ++ ws)
  | _, _, _, _, .nil, s => s
  | _, _, _, _, .cons r t, s => .cons r (Vals.append t s)
theorem Vals.take : ∀ {xs : List V} {us : List Value} (n : Nat), Vals xs us → Vals (xs.take n) (us.take n)
  | _, _, 0, _ => .nil
  | _, _, _ + 1, .nil => .nil
  | _, _, n + 1, .cons r t => .cons r (Vals.take n t)
theorem Vals.drop : ∀ {xs : List V} {us : List Value} (n : Nat), Vals xs us → Vals (xs.drop n) (us.drop n)
  | _, _, 0, r => r
  | _, _, _ + 1, .nil => .nil
  | _, _, n + 1, .cons _ t => Vals.drop n t
def RelO : Option V → Option Value → Prop
  | some v, some u => RelV v u
  | none, none => True
  | _, _ => False
def KV {κ : Type} : List (κ × V) → List (κ × Value) → Prop := Paired fun (p : κ × V) (q : κ × Value) => p.1 = q.1 ∧ RelV p.2 q.2

/-- a key of a dict (00_mix): an int or a text -/
def kV : Key → V
  | .inl i => .int i
  | .inr x => .str x

/-- what stands at a tracked address -/
inductive HO where
  /-- a list -/
  | lst (xs : List V)
  /-- a tuple (never changes) -/
  | tup (xs : List V)
  /-- a tuple of which no more is known than its items (a pair out of zip or enumerate) -/
  | par (xs : List V)
  /-- a dict whose keys are ints and texts; one whose keys are tuples of ints and texts (the empty one is both) -/
  | dK (kvs : List (Key × V)) | dT (kvs : List (List Key × V))
  /-- a set of ints: its members, its size -/
  | set (S : Int → Bool) (n : Nat)
  /-- an instance of the class at C, its dict at dx, its attributes -/
  | ins (C dx : Addr) (fs : List (Str × V))
  /-- the dict of the instance at x -/
  | own (x : Addr)
  /-- the dict of an exception -/
  | xd (fs : List (Str × V))
  /-- a bound method, f of x -/
  | met (f x : Addr)
  /-- a range object lo, lo + 1, .. below hi -/
  | rng (lo hi : Int)
  /-- a thing that is known to the object (the script; a dict while a loop walks it): read, never written while it is so -/
  | frz (o : Obj) (u : HO)
  /-- a code object's table -/
  | tbl (ps : Array Value)
  /-- any other thing, by what is true of its one object (a def of one's own: SetO a S n := HO.ext fun h => ..) -/
  | ext (φ : Heap → Prop)

abbrev Hp := Addr → Option HO
def upd (H : Hp) (a : Addr) (o : HO) : Hp := fun b => if b = a then some o else H b
theorem upd_same {H : Hp} {a : Addr} {o : HO} : upd H a o a = some o := by unfold upd; rw [if_pos rfl]
theorem upd_ne {H : Hp} {a b : Addr} {o : HO} (h : b ≠ a) : upd H a o b = H b := by unfold upd; rw [if_neg h]
/-- two objects of different content stand apart -/
theorem ne_of {H : Hp} {a b : Addr} {o u : HO} (h : H a = some o) (h' : H b = some u) (d : o ≠ u) : a ≠ b := by
  intro e; subst e; rw [h] at h'; exact d (Option.some.inj h')
theorem ne_of_none {H : Hp} {a b : Addr} {o : HO} (h : H a = some o) (h' : H b = none) : a ≠ b := by
  intro e; subst e; rw [h] at h'; cases h'

section
variable (P : Program) (w : World)
def ObjOk (H : Hp) (h : Heap) (a : Addr) : HO → Prop
  | .lst xs => xs.length ≤ sizeLine ∧ ∃ (its : List Value) (n : Nat), Vals xs its ∧ h.get? a = some { cls := .type "list", data := .seq its.toArray n }
  | .tup xs => xs.length ≤ sizeLine ∧ ∃ its : List Value, Vals xs its ∧ IsTup h a its.toArray ∧ ∃ o, h.get? a = some o ∧ o.dict = none
  | .par xs => xs.length ≤ sizeLine ∧ ∃ its : List Value, Vals xs its ∧ IsTup h a its.toArray
  | .dK kvs => kvs.length ≤ sizeLine ∧ (a == sysModules) = false ∧ ∃ vs, KV kvs vs ∧ h.DictOf (mixKind P w) a vs
  | .dT kvs => kvs.length ≤ sizeLine ∧ (a == sysModules) = false ∧ ∃ xs : List (List Key × Addr × Value),
      Paired (fun (p : List Key × V) (q : List Key × Addr × Value) => p.1 = q.1 ∧ H q.2.1 = some (.tup (p.1.map kV)) ∧ RelV p.2 q.2.2) kvs xs ∧
      ∃ o es ep, h.get? a = some o ∧ o.ExactDict ∧ o.data = .dict es ep ∧ es.toList = xs.map (entryOfKey (tupleKind (mixKind P w))) ∧ (xs.map (·.1)).Nodup
  | .set S n => h.SetOf (intKind P w) a S n
  | .ins C dx fs => H dx = some (.own a) ∧ fs.length ≤ 1000 ∧ dx ≠ a ∧ h.get? a = some (PySem.W.instObj C dx) ∧
      ∃ mA, h.Ns1 dx mA ∧ (∀ f, RelO (fs.lookup f) (mA f)) ∧ PySem.Within mA (fs.map (·.1))
  | .own _ => ∃ o, h.get? a = some o
  | .xd fs => ∃ mA, h.Ns1 a mA ∧ ∀ f, RelO (fs.lookup f) (mA f)
  | .rng lo hi => ∃ t u v, h.get? a = some { cls := .type "range", data := .fields #[.int lo t, .int hi u, .int 1 v] }
  | .frz o u => h.get? a = some o ∧ ObjOk H h a u
  | .tbl ps => h.get? a = some { cls := .none, data := .fields ps }
  | .met f x => h.get? a = some (PySem.W.methodObj (.ref f) (.ref x))
  | .ext φ => φ h ∧ (∃ o, h.get? a = some o) ∧ ∀ h1 h2 : Heap, φ h1 → (∀ o, h1.get? a = some o → h2.get? a = some o) → φ h2
/-- the abstract heap is held -/
def HOk (H : Hp) (h : Heap) : Prop := ∀ a o, H a = some o → ObjOk P w H h a o
end

section
variable {P : Program} {w : World} {H H' : Hp} {h h' : Heap} {a : Addr} {o : HO}
theorem ObjOk.lt (x : ObjOk P w H h a o) : a < h.objs.size := by
  cases o with
  | lst xs => obtain ⟨_, _, _, _, e⟩ := x; exact Heap.lt_size e
  | tup xs => obtain ⟨_, _, _, p, _⟩ := x; exact p.lt
  | par xs => obtain ⟨_, _, _, p⟩ := x; exact p.lt
  | dK kvs => obtain ⟨_, _, _, _, o, _, _, e, _⟩ := x; exact Heap.lt_size e
  | dT kvs => obtain ⟨_, _, _, _, o, _, _, e, _⟩ := x; exact Heap.lt_size e
  | set S n => obtain ⟨o, _, _, _, e, _⟩ := x; exact Heap.lt_size e
  | ins C dx fs => obtain ⟨_, _, _, e, _⟩ := x; exact Heap.lt_size e
  | own y => obtain ⟨_, e⟩ := x; exact Heap.lt_size e
  | xd fs => obtain ⟨_, ⟨_, _, _, e, _⟩, _⟩ := x; exact Heap.lt_size e
  | rng lo hi => obtain ⟨_, _, _, e⟩ := x; exact Heap.lt_size e
  | frz ob u => obtain ⟨e, _⟩ := x; exact Heap.lt_size e
  | tbl ps => exact Heap.lt_size (show h.get? a = some _ from x)
  | met f y => exact Heap.lt_size (show h.get? a = some _ from x)
  | ext φ => obtain ⟨_, ⟨_, e⟩, _⟩ := x; exact Heap.lt_size e
theorem Paired.mapP {α β : Type} {F G : α → β → Prop} : ∀ {l₁ : List α} {l₂ : List β}, Paired F l₁ l₂ → (∀ a b, F a b → G a b) → Paired G l₁ l₂
  | _, _, .nil, _ => .nil
  | _, _, .cons r t, f => .cons (f _ _ r) (Paired.mapP t f)
/-- what an object's description leans on: its own object, its own dict, the tuples -/
theorem ObjOk.stay (x : ObjOk P w H h a o) (k : ∀ b u, (b = a ∨ H b = some (.own a)) → h.get? b = some u → h'.get? b = some u)
    (ho : ∀ b, H b = some (.own a) → H' b = some (.own a)) (ht : ∀ b xs, H b = some (.tup xs) → H' b = some (.tup xs)) : ObjOk P w H' h' a o := by
  induction o with
  | lst xs => obtain ⟨z, its, n, r, e⟩ := x; exact ⟨z, its, n, r, k _ _ (.inl rfl) e⟩
  | tup xs => obtain ⟨z, its, r, ⟨ob, e, c⟩, o2, e2, c2⟩ := x; exact ⟨z, its, r, ⟨ob, k _ _ (.inl rfl) e, c⟩, o2, k _ _ (.inl rfl) e2, c2⟩
  | par xs => obtain ⟨z, its, r, ob, e, c⟩ := x; exact ⟨z, its, r, ob, k _ _ (.inl rfl) e, c⟩
  | dK kvs => obtain ⟨z, y, vs, r, ob, es, ep, e, c⟩ := x; exact ⟨z, y, vs, r, ob, es, ep, k _ _ (.inl rfl) e, c⟩
  | dT kvs =>
    obtain ⟨z, y, xs, r, ob, es, ep, e, c⟩ := x
    exact ⟨z, y, xs, Paired.mapP r fun p q z => ⟨z.1, ht _ _ z.2.1, z.2.2⟩, ob, es, ep, k _ _ (.inl rfl) e, c⟩
  | set S n => obtain ⟨ob, es, ep, t, e, c⟩ := x; exact ⟨ob, es, ep, t, k _ _ (.inl rfl) e, c⟩
  | ins C dx fs =>
    obtain ⟨d, z, ne, e, mA, ⟨od, es, ep, e2, c⟩, r⟩ := x
    exact ⟨ho _ d, z, ne, k _ _ (.inl rfl) e, mA, ⟨od, es, ep, k _ _ (.inr d) e2, c⟩, r⟩
  | own y => obtain ⟨ob, e⟩ := x; exact ⟨ob, k _ _ (.inl rfl) e⟩
  | xd fs => obtain ⟨mA, ⟨od, es, ep, e, c⟩, r⟩ := x; exact ⟨mA, ⟨od, es, ep, k _ _ (.inl rfl) e, c⟩, r⟩
  | rng lo hi => obtain ⟨t, u, v, e⟩ := x; exact ⟨t, u, v, k _ _ (.inl rfl) e⟩
  | frz ob u ih => obtain ⟨e, q⟩ := x; exact ⟨k _ _ (.inl rfl) e, ih q⟩
  | tbl ps =>
    have e : h.get? a = some { cls := .none, data := .fields ps } := x
    show h'.get? a = some { cls := .none, data := .fields ps }
    exact k a _ (.inl rfl) e
  | met f y =>
    have e : h.get? a = some (PySem.W.methodObj (.ref f) (.ref y)) := x
    show h'.get? a = some (PySem.W.methodObj (.ref f) (.ref y))
    exact k a _ (.inl rfl) e
  | ext φ => obtain ⟨p, ⟨o, e⟩, st⟩ := x; exact ⟨st _ _ p fun o q => k _ _ (.inl rfl) q, ⟨o, k _ _ (.inl rfl) e⟩, st⟩
theorem HOk.lt (x : HOk P w H h) (e : H a = some o) : a < h.objs.size := (x a o e).lt
theorem HOk.fresh (x : HOk P w H h) (e : h.objs.size ≤ a) : H a = none := by
  cases q : H a with
  | none => rfl
  | some u => exact absurd (Nat.lt_of_lt_of_le (x.lt q) e) (Nat.lt_irrefl _)
/-- every object of the heap is kept -/
theorem HOk.kept (x : HOk P w H h) (k : ∀ b u, h.get? b = some u → h'.get? b = some u) : HOk P w H h' := fun a o e =>
  (x a o e).stay (fun b u _ q => k b u q) (fun _ q => q) fun _ _ q => q
/-- a new object is laid and tracked -/
theorem HOk.laid (x : HOk P w H h) (k : ∀ b u, h.get? b = some u → h'.get? b = some u) (hp : h.objs.size ≤ a) (new : ObjOk P w (upd H a o) h' a o) : HOk P w (upd H a o) h' := fun b u e => by
  have hn := x.fresh hp
  by_cases hb : b = a
  · subst hb; rw [upd_same] at e; cases e; exact new
  · rw [upd_ne hb] at e
    exact (x b u e).stay (fun c v _ q => k c v q) (fun c q => by rw [upd_ne (ne_of_none q hn)]; exact q) fun c xs q => by rw [upd_ne (ne_of_none q hn)]; exact q
end

/-- what may be read as u: it is u, or a known u -/
def Rd (H : Hp) (a : Addr) (u : HO) : Prop := H a = some u ∨ ∃ o, H a = some (.frz o u)
theorem Rd.ok {P : Program} {w : World} {H : Hp} {h : Heap} {a : Addr} {u : HO} (r : Rd H a u) (x : HOk P w H h) : ObjOk P w H h a u := by
  rcases r with r | ⟨o, r⟩
  · exact x a u r
  · obtain ⟨_, q⟩ := x a _ r
    exact q
/-- what may be written -/
def Mut : Option HO → Prop
  | some (.lst _) => True
  | some (.dK _) => True
  | some (.dT _) => True
  | some (.set _ _) => True
  | some (.ins _ _ _) => True
  | some (.ext _) => True
  | _ => False
section
variable {P : Program} {w : World} {H : Hp} {h h' : Heap} {x e : Addr} {o' : HO}
/-- the object at e is changed: x itself, or the dict of the instance x -/
theorem HOk.write (ok : HOk P w H h) (mu : Mut (H x)) (he : e = x ∨ H e = some (.own x)) (k : ∀ b u, b ≠ e → h.get? b = some u → h'.get? b = some u) (heo : ∃ u, h'.get? e = some u)
    (new : ObjOk P w (upd H x o') h' x o') : HOk P w (upd H x o') h' := fun b u q => by
  have nown : ∀ c y, H c = some (.own y) → c ≠ x := fun c y r z => by subst z; rw [r] at mu; exact mu
  have ntup : ∀ c xs, H c = some (.tup xs) → c ≠ x := fun c xs r z => by subst z; rw [r] at mu; exact mu
  by_cases hb : b = x
  · subst hb; rw [upd_same] at q; cases q; exact new
  · rw [upd_ne hb] at q
    by_cases hbe : b = e
    · have q' : H b = some (.own x) := by
        rcases he with z | z
        · exact absurd (hbe.trans z) hb
        · rw [hbe]; exact z
      rw [q] at q'; cases q'
      obtain ⟨v, hv⟩ := heo
      exact ⟨v, by rw [hbe]; exact hv⟩
    · refine (ok b u q).stay (fun c v hc r => k c v ?_ r) (fun c r => by rw [upd_ne (nown c b r)]; exact r) fun c xs r => by rw [upd_ne (ntup c xs r)]; exact r
      rcases hc with rfl | hc
      · exact hbe
      · rintro rfl
        rcases he with z | z
        · exact nown c b hc z
        · rw [hc] at z; cases z; exact hb rfl
end

/-! ### kept unless tracked; of the frames at fs (the callers') the slots may change (an exception that passes writes there); of the records at ex (iterators) nothing is said -/
structure Un (fs ex : List Addr) (H H' : Hp) (h h' : Heap) : Prop where
  keep : ∀ b o, h.get? b = some o → H b = none → b ∉ fs → b ∉ ex → h'.get? b = some o
  slot : ∀ b o, h.get? b = some o → H b = none → b ∈ fs → b ∉ ex → ∃ sl, h'.get? b = some { o with slots := sl }
  free : ∀ b o, h.get? b = some o → H b = none → b ∉ ex → H' b = none
  there : ∀ b o, h.get? b = some o → b ∉ ex → ∃ o', h'.get? b = some o'
  tups : ∀ b xs, H b = some (.tup xs) → H' b = some (.tup xs)
  frzs : ∀ b o u, H b = some (.frz o u) → H' b = some (.frz o u)
  tbls : ∀ b ps, H b = some (.tbl ps) → ∃ more, H' b = some (.tbl (ps ++ more))
section
variable {fs fs' ex ex' : List Addr} {H H1 H2 : Hp} {h h1 h2 h' : Heap} {a x e : Addr} {o : HO}
theorem Un.any (u : Un fs ex H H1 h h1) {b : Addr} {ob : Obj} (q : h.get? b = some ob) (n : H b = none) (hx : b ∉ ex) : ∃ sl, h1.get? b = some { ob with slots := sl } := by
  by_cases hb : b ∈ fs
  · exact u.slot b ob q n hb hx
  · exact ⟨ob.slots, u.keep b ob q n hb hx⟩
theorem Un.kept (k : ∀ b u, h.get? b = some u → h'.get? b = some u) : Un fs ex H H h h' :=
  ⟨fun b ob q _ _ _ => k b ob q, fun b ob q _ _ _ => ⟨ob.slots, k b ob q⟩, fun _ _ _ n _ => n, fun b ob q _ => ⟨ob, k b ob q⟩, fun _ _ q => q, fun _ _ _ q => q, fun _ ps q => ⟨#[], by rw [q]; simp⟩⟩
theorem Un.refl : Un fs ex H H h h := Un.kept fun _ _ q => q
theorem Un.laid (k : ∀ b u, h.get? b = some u → h'.get? b = some u) (hp : h.objs.size ≤ a) (hn : H a = none) : Un fs ex H (upd H a o) h h' where
  keep := fun b u q _ _ _ => k b u q
  slot := fun b u q _ _ _ => ⟨u.slots, k b u q⟩
  free := fun b u q n _ => by rw [upd_ne (Nat.ne_of_lt (Nat.lt_of_lt_of_le (Heap.lt_size q) hp))]; exact n
  there := fun b u q _ => ⟨u, k b u q⟩
  tups := fun b xs q => by rw [upd_ne (ne_of_none q hn)]; exact q
  frzs := fun b u xs q => by rw [upd_ne (ne_of_none q hn)]; exact q
  tbls := fun b ps q => ⟨#[], by rw [upd_ne (ne_of_none q hn), q]; simp⟩
theorem Un.write (mu : Mut (H x)) (he : e = x ∨ H e = some (.own x)) (k : ∀ b u, b ≠ e → h.get? b = some u → h'.get? b = some u) (heo : ∃ u, h'.get? e = some u) : Un fs ex H (upd H x o) h h' := by
  have hx : ∀ b, H b = none → b ≠ x := fun b n z => by subst z; rw [n] at mu; exact mu
  have hb : ∀ b, H b = none → b ≠ e := fun b n z => by
    subst z
    rcases he with r | r
    · exact hx b n r
    · rw [n] at r; cases r
  have hm : ∀ b u, H b = some u → ¬ Mut (some u) → b ≠ x := fun b u q nm z => by subst z; rw [q] at mu; exact nm mu
  refine ⟨fun b u q n _ _ => k b u (hb b n) q, fun b u q n _ _ => ⟨u.slots, k b u (hb b n) q⟩, fun b u q n _ => by rw [upd_ne (hx b n)]; exact n, fun b u q _ => ?_,
    fun b xs q => by rw [upd_ne (hm b _ q fun z => z)]; exact q, fun b u xs q => by rw [upd_ne (hm b _ q fun z => z)]; exact q, fun b ps q => ⟨#[], by rw [upd_ne (hm b _ q fun z => z), q]; simp⟩⟩
  by_cases hbe : b = e
  · subst hbe; exact heo
  · exact ⟨u, k b u hbe q⟩
end

/-! ### the heap without what is tracked -/
def trk (h : Heap) (H : Hp) : List Addr := (List.range h.objs.size).filter fun a => (H a).isSome
def hidT (h : Heap) (H : Hp) : Heap := PySem.W.hideAll h (trk h H)
theorem hidT_size (h : Heap) (H : Hp) : (hidT h H).objs.size = h.objs.size := PySem.W.hideAll_size _ _
theorem hidT_get {h : Heap} {H : Hp} {b : Addr} {o : Obj} (e : h.get? b = some o) (n : H b = none) : (hidT h H).get? b = some o :=
  PySem.W.hideAll_get _ e fun hm => by
    have q : (H b).isSome = true := (List.mem_filter.mp hm).2
    rw [n] at q; simp at q
theorem of_hidT {h : Heap} {H : Hp} {b : Addr} {o : Obj} (e : (hidT h H).get? b = some o) : h.get? b = some o ∧ H b = none := by
  have e' : h.get? b = some o := PySem.W.of_hideAll (trk h H) e
  refine ⟨e', ?_⟩
  cases q : H b with
  | none => rfl
  | some x =>
    have hm : b ∈ trk h H := List.mem_filter.mpr ⟨List.mem_range.mpr (Heap.lt_size e'), by simp [q]⟩
    have z : (hidT h H).get? b = none := PySem.W.hideAll_none (trk h H) hm
    rw [z] at e; cases e

/-! ### OpenK's ledger, filled with every new object but one -/
def allNews (g h : Heap) (L : Addr) : List (Addr × Obj) := (List.range h.objs.size).filterMap fun a => if a = L ∨ (g.get? a).isSome = true then none else (h.get? a).map fun o => (a, o)
def rest (g h : Heap) (L d : Addr) : List (Addr × Obj) := (allNews g h L).filter fun p => decide (p.1 ≠ d)
end L2

namespace L2
open PySem PySem.Spec PyProof.Rows

/-- the module's facts, over the base: the heap at the law's entry without what is tracked there -/
structure Mod (K : PySem.W.Frag) (mg : Str → Option Value) (base : Heap) : Prop where
  kin : K.In base
  glob : base.Ns mainGlobals mg
  blt : ∃ mb, base.Ns builtinsNs mb ∧ ∀ x : Str, x ≠ "__name__" → mb x = bootBuiltins x
  nolimit : base.NoLimit

/-- the context: a def's body (or a comprehension's block) running. base: fixed through the whole law; s₀, H₀: the entry; outer: the frames whose slots others may change (a def's callers); stack: all frames that run;
   ex: iterators that were made ahead of the entry and are walked here (a comprehension's); fn: the names whose cells were made at the entry (a def: all; a comprehension's block: its own); calm: not within an except suite; pn: pins that every state bears; xe: what is wanted of an exception that leaves the code -/
structure Cx where
  prog : Program
  w : World
  K : PySem.W.Frag
  mg : Str → Option Value
  base : Heap
  A : Around
  N : List Str
  s₀ : Shared
  H₀ : Hp
  env : Env
  outer : List Env
  stack : List Env
  ex : List Addr
  fn : Str → Bool
  calm : Bool
  pn : List (Addr × Obj)
  xe : Value → Shared → Prop
/-- the callers' frames -/
def frs (l : List Env) : List Addr := l.filterMap (·.frame)
abbrev Cx.fs (X : Cx) : List Addr := frs X.outer

def Vis (sc : Scope) (x : Str) : Prop := sc.names.lookup x = some .local ∨ sc.names.lookup x = some .cell ∨ sc.names.lookup x = some .free
def Loc (sc : Scope) (x : Str) : Prop := sc.names.lookup x = some .local ∨ sc.names.lookup x = some .cell
def Look (env : Env) (h : Heap) (m : Str → Option Value) (x : Str) (u : Value) : Prop :=
  (env.kindOf x = some .local ∧ m x = some u) ∨ ((env.kindOf x = some .cell ∨ env.kindOf x = some .free) ∧ ∃ c, env.cells.lookup x = some c ∧ h.IsCell c (some u))

structure Cx.Ok (X : Cx) : Prop where
  mod : Mod X.K X.mg X.base
  kind : X.env.scope.kind = .function
  glob : X.env.globals = mainGlobals
  blt : X.env.builtins = builtinsNs
  above : X.s₀.heap.objs.size ≤ X.env.locals
  inj : ∀ x y c, X.env.cells.lookup x = some c → X.env.cells.lookup y = some c → x = y
  has : ∀ x, (X.env.kindOf x = some .cell ∨ X.env.kindOf x = some .free) → ∃ c, X.env.cells.lookup x = some c
  cab : ∀ x c, X.fn x = true → X.env.cells.lookup x = some c → X.s₀.heap.objs.size ≤ c
  hd : X.calm = true → X.A.handled = none
  frames : X.A.frames = some X.stack
  stk : X.stack = X.outer ∨ (X.stack = X.env :: X.outer ∧ X.env.frame = some X.env.locals)
  exf : ∀ b ∈ X.ex, b ≠ X.env.locals ∧ ∀ x c, X.env.cells.lookup x = some c → c ≠ b
  bs : ∀ b o, X.base.get? b = some o → X.s₀.heap.get? b = some o ∧ X.H₀ b = none
  bsz : X.base.objs.size ≤ X.s₀.heap.objs.size
  noex : ∀ b o, X.base.get? b = some o → b ∉ X.ex
  exfs : ∀ b ∈ X.ex, b ∉ X.fs
  funs : X.s₀.heap.FunFrames X.base X.outer
  frf : ∀ b ∈ X.fs, X.H₀ b = none

structure Inv (X : Cx) (pins : List (Addr × Obj)) (σ : List (Option V)) (H : Hp) (s : Shared) : Prop where
  ok : X.Ok
  os : s.os = X.s₀.os
  bare : AllBare s.gens
  base : Un X.fs X.ex X.H₀ H X.s₀.heap s.heap
  loc : ∃ m, s.heap.Ns X.env.locals m ∧ ∀ (i : Nat) (x : Str) (v : V), X.N[i]? = some x → σ[i]? = some (some v) → Vis X.env.scope x → ∃ u, RelV v u ∧ Look X.env s.heap m x u
  cell : ∀ x c, X.env.cells.lookup x = some c → ∃ v, s.heap.IsCell c v
  free : H X.env.locals = none
  freeC : ∀ x c, X.env.cells.lookup x = some c → H c = none
  pin : ∀ p ∈ X.pn ++ pins, s.heap.get? p.1 = some p.2 ∧ H p.1 = none ∧ p.1 ≠ X.env.locals ∧ p.1 ∉ X.fs ∧ ∀ v, p.2.data ≠ .cell v
  hok : HOk X.prog X.w H s.heap
  len : σ.length = X.N.length

section
variable {X : Cx} {pins : List (Addr × Obj)} {σ : List (Option V)} {H H' : Hp} {s : Shared} {h' : Heap}

theorem Cx.Ok.nofr (ok : X.Ok) {b : Addr} {o : Obj} (e : X.base.get? b = some o) : b ∉ X.fs := fun hb => by
  have := (ok.funs.mem hb).1
  rw [e] at this; cases this
theorem Inv.bs (I : Inv X pins σ H s) : ∀ b o, X.base.get? b = some o → s.heap.get? b = some o ∧ H b = none := fun b o e =>
  ⟨I.base.keep b o (I.ok.bs b o e).1 (I.ok.bs b o e).2 (I.ok.nofr e) (I.ok.noex b o e), I.base.free b o (I.ok.bs b o e).1 (I.ok.bs b o e).2 (I.ok.noex b o e)⟩
theorem Inv.bk (I : Inv X pins σ H s) : ∀ b o, X.base.get? b = some o → s.heap.get? b = some o := fun b o e => (I.bs b o e).1
theorem Inv.mod (I : Inv X pins σ H s) : Mod X.K X.mg X.base := I.ok.mod
theorem Inv.kIn (I : Inv X pins σ H s) : X.K.In s.heap := I.ok.mod.kin.keeps I.bk
theorem Inv.lt (I : Inv X pins σ H s) : X.env.locals < s.heap.objs.size := let ⟨_, hn, _⟩ := I.loc; hn.lt
theorem Inv.sz (I : Inv X pins σ H s) : X.s₀.heap.objs.size ≤ s.heap.objs.size := Nat.le_trans I.ok.above (Nat.le_of_lt I.lt)
theorem Inv.nofs (I : Inv X pins σ H s) {a : Addr} (h : s.heap.objs.size ≤ a) : a ∉ X.fs := fun hb => by
  obtain ⟨_, o, ho, _⟩ := I.ok.funs.mem hb
  exact absurd (Nat.lt_of_lt_of_le (Heap.lt_size ho) (Nat.le_trans I.sz h)) (Nat.lt_irrefl _)
theorem Inv.cne (I : Inv X pins σ H s) : ∀ x c, X.env.cells.lookup x = some c → c ≠ X.env.locals := fun x c e z => by
  obtain ⟨v, o, ho, hd⟩ := I.cell x c e
  obtain ⟨m, ⟨o', es, ep, ho', hd', _⟩, _⟩ := I.loc
  rw [z, ho'] at ho; cases ho; rw [hd'] at hd; cases hd
theorem Inv.funs (I : Inv X pins σ H s) : s.heap.FunFrames X.base X.outer := by
  have all : ∀ (l : List Env), (∀ b ∈ frs l, b ∈ X.fs) → X.s₀.heap.FunFrames X.base l → s.heap.FunFrames X.base l := by
    intro l
    induction l with
    | nil => intro _ _; trivial
    | cons env r ih =>
      intro hs hl
      obtain ⟨hk, ⟨L, o, hf, hn, ho, hd⟩, hr⟩ := hl
      have hL : L ∈ X.fs := hs L (by unfold frs; rw [List.filterMap_cons, hf]; exact List.mem_cons_self)
      obtain ⟨sl, e⟩ := I.base.slot L o ho (I.ok.frf L hL) hL fun z => I.ok.exfs L z hL
      exact ⟨hk, ⟨L, _, hf, hn, e, hd⟩, ih (fun b hb => hs b (by unfold frs; rw [List.filterMap_cons, hf]; exact List.mem_cons_of_mem _ hb)) hr⟩
  exact all X.outer (fun _ hb => hb) I.ok.funs

/-- the frames that run, for a call -/
theorem Inv.stack (I : Inv X pins σ H s) : s.heap.FunFrames X.base X.stack := by
  rcases I.ok.stk with e | ⟨e, hf⟩
  · rw [e]; exact I.funs
  · rw [e]
    obtain ⟨m, hn, _⟩ := I.loc
    refine .cons (by rw [I.ok.kind]; decide) hf hn ?_ I.funs
    exact Heap.get?_none_of_le (Nat.le_trans I.ok.bsz I.ok.above)
theorem Inv.stkSub (I : Inv X pins σ H s) : ∀ b ∈ frs X.stack, b ∈ X.env.locals :: X.fs := fun b hb => by
  rcases I.ok.stk with e | ⟨e, hf⟩
  · rw [e] at hb; exact List.mem_cons_of_mem _ hb
  · rw [e] at hb
    unfold frs at hb
    rw [List.filterMap_cons, hf] at hb
    exact hb
theorem Inv.stkFree (I : Inv X pins σ H s) : ∀ b ∈ frs X.stack, H b = none := fun b hb => by
  rcases List.mem_cons.mp (I.stkSub b hb) with e | hb
  · rw [e]; exact I.free
  · obtain ⟨_, o, ho, _⟩ := I.ok.funs.mem hb
    exact I.base.free b o ho (I.ok.frf b hb) fun z => I.ok.exfs b z hb

/-- THE STEP: the untracked objects but the frame and the records at ch are kept (the callers' frames up to slots), the frame's map is kept, the new abstract heap is held -/
theorem Inv.step {g' : Array GenState} {t' : Nat} {d' : Drawn} {ch : List Addr} (I : Inv X pins σ H s)
    (hch : ∀ b ∈ ch, (b ∈ X.ex ∨ X.s₀.heap.objs.size ≤ b) ∧ b ≠ X.env.locals ∧ (∀ x c, X.env.cells.lookup x = some c → c ≠ b) ∧ ∀ p ∈ X.pn ++ pins, p.1 ≠ b)
    (keep : ∀ b o, b ≠ X.env.locals → b ∉ X.fs → b ∉ ch → s.heap.get? b = some o → H b = none → h'.get? b = some o)
    (slot : ∀ b o, b ≠ X.env.locals → b ∈ X.fs → b ∉ ch → s.heap.get? b = some o → H b = none → ∃ sl, h'.get? b = some { o with slots := sl }) (free : ∀ b o, b ∉ ch → s.heap.get? b = some o → H b = none → H' b = none)
    (there : ∀ b o, b ∉ ch → s.heap.get? b = some o → ∃ o', h'.get? b = some o')
    (tups : ∀ b xs, H b = some (.tup xs) → H' b = some (.tup xs)) (frzs : ∀ b o u, H b = some (.frz o u) → H' b = some (.frz o u)) (tbls : ∀ b ps, H b = some (.tbl ps) → ∃ more, H' b = some (.tbl (ps ++ more)))
    (ns : ∀ m, s.heap.Ns X.env.locals m → h'.Ns X.env.locals m) (hok : HOk X.prog X.w H' h') (hg : AllBare g') :
    Inv X pins σ H' { s with heap := h', gens := g', drawn := d', toks := t' } := by
  have neL : ∀ b o, X.s₀.heap.get? b = some o → b ≠ X.env.locals := fun b o e => Nat.ne_of_lt (Nat.lt_of_lt_of_le (Heap.lt_size e) I.ok.above)
  have neC : ∀ b o, X.s₀.heap.get? b = some o → b ∉ X.ex → b ∉ ch := fun b o e hx hb => by
    rcases (hch b hb).1 with z | z
    · exact hx z
    · exact absurd (Nat.lt_of_lt_of_le (Heap.lt_size e) z) (Nat.lt_irrefl _)
  have cellK : ∀ x c, X.env.cells.lookup x = some c → ∀ v, s.heap.IsCell c v → h'.IsCell c v := fun x c e v ⟨o, ho, hd⟩ => by
    have nch : c ∉ ch := fun z => (hch c z).2.2.1 x c e rfl
    by_cases hc : c ∈ X.fs
    · obtain ⟨sl, q⟩ := slot c o (I.cne x c e) hc nch ho (I.freeC x c e)
      exact ⟨_, q, hd⟩
    · exact ⟨o, keep c o (I.cne x c e) hc nch ho (I.freeC x c e), hd⟩
  refine ⟨I.ok, I.os, hg, ⟨fun b o e n hb hx => ?_, fun b o e n hb hx => ?_, fun b o e n hx => ?_, fun b o e hx => ?_, fun b xs e => tups b xs (I.base.tups b xs e), fun b o xs e => frzs b o xs (I.base.frzs b o xs e), fun b ps e => ?_⟩, ?_, fun x c e => ?_, ?_, fun x c e => ?_, fun p hp => ?_, hok, I.len⟩
  · exact keep b o (neL b o e) hb (neC b o e hx) (I.base.keep b o e n hb hx) (I.base.free b o e n hx)
  · obtain ⟨sl, e1⟩ := I.base.slot b o e n hb hx
    obtain ⟨sl', e2⟩ := slot b _ (neL b o e) hb (neC b o e hx) e1 (I.base.free b o e n hx)
    exact ⟨sl', e2⟩
  · obtain ⟨o', e1⟩ := I.base.there b o e hx
    exact free b o' (neC b o e hx) e1 (I.base.free b o e n hx)
  · obtain ⟨o', e1⟩ := I.base.there b o e hx
    exact there b o' (neC b o e hx) e1
  · obtain ⟨m1, e1⟩ := I.base.tbls b ps e
    obtain ⟨m2, e2⟩ := tbls b _ e1
    exact ⟨m1 ++ m2, by rw [e2, Array.append_assoc]⟩
  · obtain ⟨m, hn, hl⟩ := I.loc
    refine ⟨m, ns m hn, fun i x v e1 e2 e3 => ?_⟩
    obtain ⟨u, r, l⟩ := hl i x v e1 e2 e3
    refine ⟨u, r, ?_⟩
    rcases l with l | ⟨k, c, e, z⟩
    · exact .inl l
    · exact .inr ⟨k, c, e, cellK x c e _ z⟩
  · obtain ⟨v, z⟩ := I.cell x c e
    exact ⟨v, cellK x c e v z⟩
  · obtain ⟨m, ⟨o, _, _, ho, _⟩, _⟩ := I.loc
    exact free _ o (fun z => (hch _ z).2.1 rfl) ho I.free
  · obtain ⟨v, o, ho, hd⟩ := I.cell x c e
    exact free c o (fun z => (hch c z).2.2.1 x c e rfl) ho (I.freeC x c e)
  · obtain ⟨e, n, ne, nf, d⟩ := I.pin p hp
    have nch : p.1 ∉ ch := fun z => (hch p.1 z).2.2.2 p hp rfl
    exact ⟨keep p.1 p.2 ne nf nch e n, free p.1 p.2 nch e n, ne, nf, d⟩
/-- .. where the frame's own object is kept too -/
theorem Inv.un {t' : Nat} (I : Inv X pins σ H s) (u : Un X.fs [] H H' s.heap h') (hok : HOk X.prog X.w H' h') : Inv X pins σ H' { s with heap := h', toks := t' } := by
  obtain ⟨m, ⟨o, es, ep, ho, r⟩, _⟩ := id I.loc
  obtain ⟨sl, hL⟩ := u.any ho I.free (by simp)
  exact I.step (g' := s.gens) (d' := s.drawn) (ch := []) (fun _ z => nomatch z) (fun b o _ hb _ e n => u.keep b o e n hb (by simp)) (fun b o _ hb _ e n => u.slot b o e n hb (by simp)) (fun b o _ e n => u.free b o e n (by simp)) (fun b o _ e => u.there b o e (by simp)) u.tups u.frzs u.tbls (fun m' hm => by
    obtain ⟨o', es', ep', ho', r'⟩ := hm
    rw [ho] at ho'; cases ho'
    exact ⟨_, es', ep', hL, r'⟩) hok I.bare
/-- behind a call (or a comprehension's block): the slots of this frame may have changed too, the records at ch may have turned -/
theorem Inv.call {g' : Array GenState} {t' : Nat} {d' : Drawn} {ch : List Addr} (I : Inv X pins σ H s) (u : Un (frs X.stack) ch H H' s.heap h') (hok : HOk X.prog X.w H' h') (hg : AllBare g')
    (hch : ∀ b ∈ ch, (b ∈ X.ex ∨ X.s₀.heap.objs.size ≤ b) ∧ b ≠ X.env.locals ∧ (∀ x c, X.env.cells.lookup x = some c → c ≠ b) ∧ ∀ p ∈ X.pn ++ pins, p.1 ≠ b) :
    Inv X pins σ H' { s with heap := h', gens := g', drawn := d', toks := t' } := by
  obtain ⟨m, ⟨o, es, ep, ho, r⟩, _⟩ := id I.loc
  obtain ⟨sl, hL⟩ := u.any ho I.free fun z => (hch _ z).2.1 rfl
  exact I.step (ch := ch) hch (fun b o hL hb hc e n => u.keep b o e n (fun z => (List.mem_cons.mp (I.stkSub b z)).elim hL hb) hc) (fun b o _ _ hc e n => u.any e n hc) (fun b o hc e n => u.free b o e n hc) (fun b o hc e => u.there b o e hc) u.tups u.frzs u.tbls (fun m' hm => by
    obtain ⟨o', es', ep', ho', r'⟩ := hm
    rw [ho] at ho'; cases ho'
    exact ⟨_, es', ep', hL, r'⟩) hok hg
/-- an untracked record of ours (an iterator) has turned -/
theorem Inv.turned {t' : Nat} {it : Addr} (I : Inv X pins σ H s) (k : ∀ b o, b ≠ it → s.heap.get? b = some o → h'.get? b = some o) (hn : H it = none) (hL : it ≠ X.env.locals)
    (h1 : it ∈ X.ex ∨ X.s₀.heap.objs.size ≤ it) (h2 : ∀ x c, X.env.cells.lookup x = some c → c ≠ it) (h3 : ∀ p ∈ X.pn ++ pins, p.1 ≠ it) : Inv X pins σ H { s with heap := h', toks := t' } := by
  have nit : ∀ b u, H b = some u → b ≠ it := fun b u e z => by rw [z, hn] at e; cases e
  refine I.step (g' := s.gens) (d' := s.drawn) (ch := [it]) (fun b hb => ?_) (fun b o _ _ hc e _ => k b o (fun z => hc (by simp [z])) e) (fun b o _ _ hc e _ => ⟨o.slots, k b o (fun z => hc (by simp [z])) e⟩) (fun _ _ _ _ n => n)
    (fun b o hc e => ⟨o, k b o (fun z => hc (by simp [z])) e⟩) (fun _ _ e => e) (fun _ _ _ e => e) (fun b ps e => ⟨#[], by rw [e]; simp⟩) (fun m hm => ?_) (fun b u e => ?_) I.bare
  · have e : b = it := by simpa using hb
    subst e
    exact ⟨h1, hL, h2, h3⟩
  · obtain ⟨o, es, ep, ho, r⟩ := hm
    exact ⟨o, es, ep, k _ o (Ne.symm hL) ho, r⟩
  · refine (I.hok b u e).stay (fun c v hc q => k c v ?_ q) (fun _ q => q) fun _ _ q => q
    rcases hc with z | z
    · rw [z]; exact nit b u e
    · exact nit c _ z
theorem Inv.tok (I : Inv X pins σ H s) (t : Nat) : Inv X pins σ H { s with toks := t } := I.un (h' := s.heap) (t' := t) Un.refl I.hok
/-- all objects kept -/
theorem Inv.kept {t' : Nat} (I : Inv X pins σ H s) (k : ∀ b u, s.heap.get? b = some u → h'.get? b = some u) : Inv X pins σ H { s with heap := h', toks := t' } := I.un (Un.kept k) (I.hok.kept k)
/-- a new object laid and tracked -/
theorem Inv.laid {a : Addr} {o : HO} {t' : Nat} (I : Inv X pins σ H s) (k : ∀ b u, s.heap.get? b = some u → h'.get? b = some u) (hp : s.heap.objs.size ≤ a) (new : ObjOk X.prog X.w (upd H a o) h' a o) :
    Inv X pins σ (upd H a o) { s with heap := h', toks := t' } := I.un (Un.laid k hp (I.hok.fresh hp)) (I.hok.laid k hp new)
/-- an object written -/
theorem Inv.write {x e : Addr} {o : HO} {t' : Nat} (I : Inv X pins σ H s) (mu : Mut (H x)) (he : e = x ∨ H e = some (.own x)) (k : ∀ b u, b ≠ e → s.heap.get? b = some u → h'.get? b = some u) (heo : ∃ u, h'.get? e = some u)
    (new : ObjOk X.prog X.w (upd H x o) h' x o) : Inv X pins σ (upd H x o) { s with heap := h', toks := t' } := I.un (Un.write mu he k heo) (I.hok.write mu he k heo new)
theorem Inv.pins_of {pins' : List (Addr × Obj)} (I : Inv X pins σ H s) (h : ∀ p ∈ pins', s.heap.get? p.1 = some p.2 ∧ H p.1 = none ∧ p.1 ≠ X.env.locals ∧ p.1 ∉ X.fs ∧ ∀ v, p.2.data ≠ .cell v) : Inv X pins' σ H s :=
  ⟨I.ok, I.os, I.bare, I.base, I.loc, I.cell, I.free, I.freeC, fun p hp => (List.mem_append.mp hp).elim (fun z => I.pin p (List.mem_append_left _ z)) (h p), I.hok, I.len⟩

theorem nodup_ix {N : List Str} (hN : N.Nodup) {i j : Nat} {x : Str} (a : N[i]? = some x) (b : N[j]? = some x) : i = j := by
  obtain ⟨h1, e1⟩ := List.getElem?_eq_some_iff.mp a
  obtain ⟨h2, e2⟩ := List.getElem?_eq_some_iff.mp b
  exact (List.getElem_inj hN).mp (e1.trans e2.symm)

/-- a name is stored; what changed -/
theorem store_ok2 {M : Model} {A : Around} {E : Value → Shared → Prop} {i : Nat} {x : Str} {v : V} {u : Value} {Q : Unit → Shared → Prop} (I : Inv X pins σ H s) (hN : X.N.Nodup) (hi : X.N[i]? = some x) (hx : Loc X.env.scope x) (r : RelV v u)
    (h : ∀ s', Inv X pins (σ.set i (some v)) H s' → (∃ a, Heap.SameBut a s.heap s'.heap ∧ (a = X.env.locals ∨ X.env.cells.lookup x = some a)) → Q () s') (hf : X.fn x = true ∨ X.env.scope.names.lookup x = some .local := by first | exact .inl rfl | exact .inr rfl | assumption) : wpAny M A (storeName X.env x u) Q E s := by
  obtain ⟨m, hn, hl⟩ := id I.loc
  have hcls : (X.env.scope.kind == .class || (X.env.scope.kind == .module && X.env.locals != X.env.globals)) = false := by rw [I.ok.kind]; rfl
  have hiσ : i < σ.length := by rw [I.len]; exact (List.getElem?_eq_some_iff.mp hi).1
  have cne := I.cne
  have tracked : ∀ {a : Addr} {h' : Heap}, (∃ o, s.heap.get? a = some o ∧ H a = none) → Heap.SameBut a s.heap h' → HOk X.prog X.w H h' := fun {a h'} ha hs b ob e => by
    obtain ⟨_, _, hfree⟩ := ha
    refine (I.hok b ob e).stay (fun c w' hc q => (hs.2 c ?_).trans q) (fun _ q => q) fun _ _ q => q
    rintro rfl
    rcases hc with rfl | hc
    · rw [hfree] at e; cases e
    · rw [hfree] at hc; cases hc
  rcases hx with hk | hk
  · refine wpAny_storeName_local hk hn (fun h' hn' hs => ?_) hcls
    obtain ⟨oL, _, _, hoL, _⟩ := id hn
    refine h _ ⟨I.ok, I.os, I.bare, ⟨fun b o e n hb hx => ?_, fun b o e n hb hx => ?_, I.base.free, fun b o e hx => ?_, I.base.tups, I.base.frzs, I.base.tbls⟩, ⟨_, hn', fun j y v' e1 e2 e3 => ?_⟩, fun y c e => ?_, I.free, I.freeC, fun p hp => ?_, tracked ⟨oL, hoL, I.free⟩ hs, by simpa using I.len⟩ ⟨_, hs, .inl rfl⟩
    · exact (hs.2 b (Nat.ne_of_lt (Nat.lt_of_lt_of_le (Heap.lt_size e) I.ok.above))).trans (I.base.keep b o e n hb hx)
    · obtain ⟨sl, e1⟩ := I.base.slot b o e n hb hx
      exact ⟨sl, (hs.2 b (Nat.ne_of_lt (Nat.lt_of_lt_of_le (Heap.lt_size e) I.ok.above))).trans e1⟩
    · obtain ⟨o', e1⟩ := I.base.there b o e hx
      exact ⟨o', (hs.2 b (Nat.ne_of_lt (Nat.lt_of_lt_of_le (Heap.lt_size e) I.ok.above))).trans e1⟩
    · by_cases hj : j = i
      · subst hj
        rw [hi] at e1; cases e1
        rw [List.getElem?_set_self hiσ] at e2
        cases e2
        exact ⟨u, r, .inl ⟨hk, by simp⟩⟩
      · rw [List.getElem?_set_ne (Ne.symm hj)] at e2
        obtain ⟨u', r', q⟩ := hl j y v' e1 e2 e3
        refine ⟨u', r', ?_⟩
        rcases q with ⟨k, e⟩ | ⟨k, c, e, z⟩
        · refine .inl ⟨k, ?_⟩
          have : y ≠ x := fun e => hj (nodup_ix hN e1 (e ▸ hi))
          simp [this, e]
        · exact .inr ⟨k, c, e, z.sameBut hs (cne y c e)⟩
    · obtain ⟨w', z⟩ := I.cell y c e
      exact ⟨w', z.sameBut hs (cne y c e)⟩
    · obtain ⟨e, n, ne, nf, d⟩ := I.pin p hp
      exact ⟨(hs.2 p.1 ne).trans e, n, ne, nf, d⟩
  · have hfn : X.fn x = true := by
      rcases hf with z | z
      · exact z
      · rw [z] at hk; cases hk
    obtain ⟨c, hc⟩ := I.ok.has x (.inl hk)
    obtain ⟨w', z⟩ := I.cell x c hc
    refine wpAny_storeName_cell I.ok.kind hk hc z (fun h' hc' hs => ?_)
    obtain ⟨oc, hoc, hocd⟩ := id z
    refine h { s with heap := h' } ⟨I.ok, I.os, I.bare, ⟨fun b o e n hb hx => ?_, fun b o e n hb hx => ?_, I.base.free, fun b o e hx => ?_, I.base.tups, I.base.frzs, I.base.tbls⟩, ⟨m, hn.sameBut hs (Ne.symm (cne x c hc)), fun j y v' e1 e2 e3 => ?_⟩, fun y c' e => ?_, I.free, I.freeC, fun p hp => ?_, tracked ⟨oc, hoc, I.freeC x c hc⟩ hs, by simpa using I.len⟩ ⟨c, hs, .inr hc⟩
    · exact (hs.2 b (Nat.ne_of_lt (Nat.lt_of_lt_of_le (Heap.lt_size e) (I.ok.cab x c hfn hc)))).trans (I.base.keep b o e n hb hx)
    · obtain ⟨sl, e1⟩ := I.base.slot b o e n hb hx
      exact ⟨sl, (hs.2 b (Nat.ne_of_lt (Nat.lt_of_lt_of_le (Heap.lt_size e) (I.ok.cab x c hfn hc)))).trans e1⟩
    · obtain ⟨o', e1⟩ := I.base.there b o e hx
      exact ⟨o', (hs.2 b (Nat.ne_of_lt (Nat.lt_of_lt_of_le (Heap.lt_size e) (I.ok.cab x c hfn hc)))).trans e1⟩
    · by_cases hj : j = i
      · subst hj
        rw [hi] at e1; cases e1
        rw [List.getElem?_set_self hiσ] at e2
        cases e2
        exact ⟨u, r, .inr ⟨.inl hk, c, hc, hc'⟩⟩
      · rw [List.getElem?_set_ne (Ne.symm hj)] at e2
        obtain ⟨u', r', q⟩ := hl j y v' e1 e2 e3
        refine ⟨u', r', ?_⟩
        rcases q with q | ⟨k, c', e, z'⟩
        · exact .inl q
        · refine .inr ⟨k, c', e, z'.sameBut hs ?_⟩
          rintro rfl
          exact hj (nodup_ix hN e1 (I.ok.inj _ _ _ e hc ▸ hi))
    · by_cases hcc : c' = c
      · subst hcc; exact ⟨_, hc'⟩
      · obtain ⟨w2, z2⟩ := I.cell y c' e
        exact ⟨w2, z2.sameBut hs hcc⟩
    · obtain ⟨e, n, ne, nf, d⟩ := I.pin p hp
      refine ⟨(hs.2 p.1 ?_).trans e, n, ne, nf, d⟩
      intro q
      rw [q, hoc] at e
      have q' : oc = p.2 := Option.some.inj e
      exact d w' (by rw [← q']; exact hocd)
theorem store_ok {M : Model} {A : Around} {E : Value → Shared → Prop} {i : Nat} {x : Str} {v : V} {u : Value} {Q : Unit → Shared → Prop} (I : Inv X pins σ H s) (hN : X.N.Nodup) (hi : X.N[i]? = some x) (hx : Loc X.env.scope x) (r : RelV v u)
    (h : ∀ s', Inv X pins (σ.set i (some v)) H s' → Q () s') (hf : X.fn x = true ∨ X.env.scope.names.lookup x = some .local := by first | exact .inl rfl | exact .inr rfl | assumption) : wpAny M A (storeName X.env x u) Q E s :=
  store_ok2 I hN hi hx r (fun s' I' _ => h s' I') hf
/-- behind a call or a block, the state as it is -/
theorem Inv.call' {s' : Shared} {ch : List Addr} (I : Inv X pins σ H s) (ho : s'.os = s.os) (u : Un (frs X.stack) ch H H' s.heap s'.heap) (hok : HOk X.prog X.w H' s'.heap) (hg : AllBare s'.gens)
    (hch : ∀ b ∈ ch, (b ∈ X.ex ∨ X.s₀.heap.objs.size ≤ b) ∧ b ≠ X.env.locals ∧ (∀ x c, X.env.cells.lookup x = some c → c ≠ b) ∧ ∀ p ∈ X.pn ++ pins, p.1 ≠ b) : Inv X pins σ H' s' := by
  obtain ⟨h', g', d', t', o'⟩ := s'
  have e : o' = s.os := ho
  subst e
  exact I.call (g' := g') (t' := t') (d' := d') u hok hg hch
end

/-! ### the judgements -/
/-- an exception: its class, its own dict's address (where it has one), the abstract heap behind it -/
abbrev XK := Value → Option Addr → Hp → Prop
abbrev St := List (Option V)
abbrev VK := V → Hp → Prop
/-- an expression's reading; a test's; an argument list's -/
abbrev TE := St → Hp → VK → Prop
abbrev TT := St → Hp → (Bool → Hp → Prop) → Prop
abbrev TA := St → Hp → (List V → Hp → Prop) → Prop
/-- what is wanted behind a statement -/
structure Ends where
  nx : St → Hp → Prop
  rt : VK
  bk : St → Hp → Prop := fun _ _ => False
  ct : St → Hp → Prop := fun _ _ => False
abbrev TS := Ends → St → Hp → Prop

def EP (X : Cx) (pins : List (Addr × Obj)) (σ : St) (Q : VK) (u : Value) (s' : Shared) : Prop := ∃ v H', Inv X pins σ H' s' ∧ RelV v u ∧ Q v H'
def TP (X : Cx) (pins : List (Addr × Obj)) (σ : St) (Q : Bool → Hp → Prop) (b : Bool) (s' : Shared) : Prop := ∃ H', Inv X pins σ H' s' ∧ Q b H'
def AP (X : Cx) (pins : List (Addr × Obj)) (σ : St) (Q : List V → Hp → Prop) (us : List Value) (s' : Shared) : Prop := ∃ vs H', Inv X pins σ H' s' ∧ Vals vs us ∧ Q vs H'
def SP (X : Cx) (pins : List (Addr × Obj)) (D : Ends) (f : Flow) (s' : Shared) : Prop :=
  match f with
  | .next => ∃ σ' H', Inv X pins σ' H' s' ∧ D.nx σ' H'
  | .brk => ∃ σ' H', Inv X pins σ' H' s' ∧ D.bk σ' H'
  | .cont => ∃ σ' H', Inv X pins σ' H' s' ∧ D.ct σ' H'
  | .ret u => ∃ v σ' H', Inv X pins σ' H' s' ∧ RelV v u ∧ D.rt v H'

def PE (X : Cx) (e : Expr) (t : TE) : Prop :=
  ∀ (pins : List (Addr × Obj)) (s : Shared) (σ : St) (H : Hp) (Q : VK), Inv X pins σ H s → t σ H Q → wpAny (model X.prog X.w) X.A (eval e X.env) (EP X pins σ Q) X.xe s
def PT (X : Cx) (e : Expr) (t : TT) : Prop :=
  ∀ (pins : List (Addr × Obj)) (s : Shared) (σ : St) (H : Hp) (Q : Bool → Hp → Prop), Inv X pins σ H s → t σ H Q → wpAny (model X.prog X.w) X.A (isTrue e X.env (eval e X.env)) (TP X pins σ Q) X.xe s
/-- a test whatever its 'whole' is (and, or) -/
def PW (X : Cx) (e : Expr) (t : TT) : Prop :=
  ∀ (whole : Sem Value) (pins : List (Addr × Obj)) (s : Shared) (σ : St) (H : Hp) (Q : Bool → Hp → Prop), Inv X pins σ H s → t σ H Q → wpAny (model X.prog X.w) X.A (isTrue e X.env whole) (TP X pins σ Q) X.xe s
theorem PW.pt {X : Cx} {e : Expr} {t : TT} (h : PW X e t) : PT X e t := h _
/-- an argument list (no star), from the left -/
def PA (X : Cx) (es : List Expr) (t : TA) : Prop :=
  ∀ (pos : Pos) (pins : List (Addr × Obj)) (s : Shared) (σ : St) (H : Hp) (Q : List V → Hp → Prop), Inv X pins σ H s → t σ H Q → wpAny (model X.prog X.w) X.A (spliced (backTo pos (starEach es X.env))) (AP X pins σ Q) X.xe s
def PS (X : Cx) (st : Stmt) (t : TS) : Prop :=
  ∀ (pins : List (Addr × Obj)) (s : Shared) (σ : St) (H : Hp) (D : Ends), Inv X pins σ H s → t D σ H → wpAny (model X.prog X.w) X.A (exec st X.env) (SP X pins D) X.xe s
def PSs (X : Cx) (st : List Stmt) (t : TS) : Prop :=
  ∀ (pins : List (Addr × Obj)) (s : Shared) (σ : St) (H : Hp) (D : Ends), Inv X pins σ H s → t D σ H → wpAny (model X.prog X.w) X.A (execs st X.env) (SP X pins D) X.xe s
/-- weaken the end -/
theorem thn {α : Type} {t : Sem α} {Q Q' : α → Shared → Prop} {M : Model} {A : Around} {E : Value → Shared → Prop} {s : Shared} (h : wpAny M A t Q E s) (hQ : ∀ a s, Q a s → Q' a s) : wpAny M A t Q' E s := wpAny_mono h hQ fun _ _ x => x
end L2

namespace L2
open PySem PySem.Spec PyProof.Rows
section
variable {X : Cx}

/-! ### names and constants -/
def tVar (i : Nat) : TE := fun σ H Q => ∃ v, σ[i]? = some (some v) ∧ Q v H
def tC (v : V) : TE := fun _ H Q => Q v H
theorem pe_var {i : Nat} {x : Str} {pos : Pos} (hN : X.N[i]? = some x) (hv : Vis X.env.scope x) (hd : (x == ("__debug__" : Str)) = false := by decide) (hcd : (x == ("__classdict__" : Str)) = false := by decide) : PE X (.Name x pos) (tVar i) := by
  intro pins s σ H Q I h
  obtain ⟨v, e, h⟩ := h
  obtain ⟨m, hn, hl⟩ := I.loc
  obtain ⟨u, r, l⟩ := hl i x v hN e hv
  have fin : EP X pins σ Q u s := ⟨v, H, I, r, h⟩
  rcases l with ⟨hk, hm⟩ | ⟨hk, c, hc, hcell⟩
  · exact wpAny_Name (wpAny_loadName_local I.ok.kind hk hn hm fin) hd
  · rcases hk with hk | hk
    · exact wpAny_Name (wpAny_loadName_cell I.ok.kind hk hc hcell fin) hd
    · exact wpAny_Name (wpAny_loadName_free I.ok.kind hk hc hcell fin hcd) hd
theorem pe_int {i j pos} : PE X (.Constant (.int i) j pos) (tC (.int i)) := fun _ _ _ H _ I h => wpAny_Constant_int ⟨.int i, H, I.tok _, ⟨_, rfl⟩, h⟩
theorem pe_bl {b j pos} : PE X (.Constant (.bool b) j pos) (tC (.bl b)) := fun _ _ _ H _ I h => Constant_bool ⟨.bl b, H, I, rfl, h⟩
theorem pe_non {j pos} : PE X (.Constant .none j pos) (tC .non) := fun _ _ _ H _ I h => Constant_none ⟨.non, H, I, rfl, h⟩
/-- a global name of the def -/
def Gl (X : Cx) (x : Str) : Prop := X.env.kindOf x = some .globalImplicit
theorem ld_glob {E : Value → Shared → Prop} {pins : List (Addr × Obj)} {s : Shared} {σ : St} {H : Hp} {x : Str} {u : Value} {pos : Pos} {Q : Value → Shared → Prop} (I : Inv X pins σ H s) (hg : Gl X x) (hm : X.mg x = some u) (h : Q u s)
    (hd : (x == ("__debug__" : Str)) = false := by decide) : wpAny (model X.prog X.w) X.A (eval (.Name x pos) X.env) Q E s :=
  Calls.Name_function_global I.ok.kind hg (Calls.loadGlobal_global (by rw [I.ok.glob]; exact I.mod.glob.keeps I.bk) hm h) hd
theorem ld_blt {E : Value → Shared → Prop} {pins : List (Addr × Obj)} {s : Shared} {σ : St} {H : Hp} {x : Str} {u : Value} {pos : Pos} {Q : Value → Shared → Prop} (I : Inv X pins σ H s) (hg : Gl X x) (hm : X.mg x = none) (hv : bootBuiltins x = some u) (h : Q u s)
    (hn : x ≠ "__name__" := by decide) (hd : (x == ("__debug__" : Str)) = false := by decide) : wpAny (model X.prog X.w) X.A (eval (.Name x pos) X.env) Q E s := by
  obtain ⟨mb, h1, h2⟩ := I.mod.blt
  exact Calls.Name_function_global I.ok.kind hg (Calls.loadGlobal_builtin (by rw [I.ok.glob]; exact I.mod.glob.keeps I.bk) hm (by rw [I.ok.blt]; exact h1.keeps I.bk) ((h2 x hn).trans hv) h) hd
/-- a module's constant, a class, a function, as a value -/
theorem pe_glob {x : Str} {v : V} {u : Value} {pos : Pos} (hg : Gl X x) (hm : X.mg x = some u) (r : RelV v u) (hd : (x == ("__debug__" : Str)) = false := by decide) : PE X (.Name x pos) (tC v) :=
  fun _ _ _ H _ I h => ld_glob I hg hm ⟨v, H, I, r, h⟩ hd
theorem pe_bltn {x : Str} {v : V} {u : Value} {pos : Pos} (hg : Gl X x) (hm : X.mg x = none) (hv : bootBuiltins x = some u) (r : RelV v u) (hn : x ≠ "__name__" := by decide) (hd : (x == ("__debug__" : Str)) = false := by decide) : PE X (.Name x pos) (tC v) :=
  fun _ _ _ H _ I h => ld_blt I hg hm hv ⟨v, H, I, r, h⟩ hn hd

/-! ### arithmetic -/
/-- two ints -/
def t2I (ta tb : TE) (k : Int → Int → Hp → Prop) : St → Hp → Prop := fun σ H => ta σ H fun x H1 => tb σ H1 fun y H2 => ∃ i j, x = .int i ∧ y = .int j ∧ k i j H2
def tAdd (ta tb : TE) : TE := fun σ H Q => t2I ta tb (fun i j H2 => Q (.int (i + j)) H2) σ H
def tSub (ta tb : TE) : TE := fun σ H Q => t2I ta tb (fun i j H2 => Q (.int (i - j)) H2) σ H
/-- the left factor below 2^64 -/
def tMul (ta tb : TE) : TE := fun σ H Q => t2I ta tb (fun i j H2 => (-(2 ^ 64) < i ∧ i < 2 ^ 64) ∧ Q (.int (i * j)) H2) σ H
variable {a b : Expr} {ta tb : TE} {pos : Pos}
/-! ### comparisons -/
def PC (X : Cx) (op : CmpOp) (a b : Expr) (t : TE) : Prop :=
  ∀ (pins : List (Addr × Obj)) (s : Shared) (σ : St) (H : Hp) (Q : VK), Inv X pins σ H s → t σ H Q →
    wpAny (model X.prog X.w) X.A (eval a X.env) (fun v s₁ => wpAny (model X.prog X.w) X.A (eval b X.env) (fun u s₂ => wpAny (model X.prog X.w) X.A (compareOp op v u) (EP X pins σ Q) X.xe s₂) X.xe s₁) X.xe s
theorem nobehind (b : Expr) {op : CmpOp} (h : op ≠ .In) (h2 : op ≠ .NotIn) : behindInMarks op b = false := by
  have e1 : (op == CmpOp.In) = false := by cases op <;> first | rfl | exact absurd rfl h
  have e2 : (op == CmpOp.NotIn) = false := by cases op <;> first | rfl | exact absurd rfl h2
  cases b <;> simp [behindInMarks, e1, e2]
def tCmp (p : Int → Int → Bool) (ta tb : TE) : TE := fun σ H Q => t2I ta tb (fun i j H2 => Q (.bl (p i j)) H2) σ H
abbrev tLt : TE → TE → TE := tCmp fun i j => decide (i < j)
abbrev tLe : TE → TE → TE := tCmp fun i j => decide (i ≤ j)
abbrev tGt : TE → TE → TE := tCmp fun i j => decide (j < i)
abbrev tGe : TE → TE → TE := tCmp fun i j => decide (j ≤ i)
abbrev tEqI : TE → TE → TE := tCmp fun i j => decide (i = j)
abbrev tNeI : TE → TE → TE := tCmp fun i j => !decide (i = j)
/-- is None -/
def tIsN (ta : TE) : TE := fun σ H Q => ta σ H fun x H1 => Q (.bl (decide (x = .non))) H1
def tNotN (ta : TE) : TE := fun σ H Q => ta σ H fun x H1 => Q (.bl (!decide (x = .non))) H1
theorem RelV.none_iff {x : V} {v : Value} (r : RelV x v) : (v == Value.none) = decide (x = .non) := by
  cases x with
  | non => cases r; rfl
  | bl _ => cases r; rfl
  | int _ => obtain ⟨t, rfl⟩ := r; rfl
  | str _ => obtain ⟨t, rfl⟩ := r; rfl
  | byt _ => obtain ⟨t, rfl⟩ := r; rfl
  | flt _ => obtain ⟨t, rfl⟩ := r; rfl
  | ref _ => cases r; rfl
  | ty _ => cases r; rfl
theorem pc_isN {j pos'} (ha : PE X a ta) : PC X .Is a (.Constant .none j pos') (tIsN ta) := by
  intro pins s σ H Q I h
  refine thn (ha pins s σ H _ I h) fun v s1 ⟨x, H1, I1, r1, q1⟩ => ?_
  exact Constant_none (is_none_gen ⟨.bl _, H1, I1, by rw [r1.none_iff]; rfl, q1⟩)
theorem pc_notN {j pos'} (ha : PE X a ta) : PC X .IsNot a (.Constant .none j pos') (tNotN ta) := by
  intro pins s σ H Q I h
  refine thn (ha pins s σ H _ I h) fun v s1 ⟨x, H1, I1, r1, q1⟩ => ?_
  exact Constant_none (isnot_none_gen ⟨.bl _, H1, I1, by rw [r1.none_iff]; rfl, q1⟩)
/-- a comparison as a value, as a test -/
def tB (t : TE) : TT := fun σ H Q => t σ H fun x H1 => ∃ c, x = .bl c ∧ Q c H1
theorem pe_cmp {op : CmpOp} {t : TE} (h : PC X op a b t) (h1 : behindInMarks op b = false := by first | exact nobehind _ (by decide) (by decide) | rfl) : PE X (.Compare a [op] [b] pos) t := fun pins s σ H Q I hw => wpAny_Compare1 (h pins s σ H Q I hw) h1
theorem pt_cmp {op : CmpOp} {t : TE} (h : PC X op a b t) (h1 : behindInMarks op b = false := by first | exact nobehind _ (by decide) (by decide) | rfl) : PT X (.Compare a [op] [b] pos) (tB t) := by
  intro pins s σ H Q I hw
  refine wpAny_isTrue_Compare1 (thn (h pins s σ H _ I hw) fun v s1 h1 => thn h1 fun u s2 h2 => thn h2 fun c s3 ⟨x, H1, I1, r1, q1⟩ => ?_) h1
  obtain ⟨d, rfl, q⟩ := q1
  cases r1
  exact wpAny_truthy_bool ⟨H1, I1, q⟩
/-- an expression whose value is a bool, as a test -/
theorem pt_val {e : Expr} {t : TE} (h : PE X e t) (he : ∀ whole, isTrue e X.env whole = (do let v ← whole; standAt e.pos; holding [v] (truthy v)) := by intro _; rfl) : PT X e (tB t) := by
  intro pins s σ H Q I hw
  refine isTrue_plain (thn (h pins s σ H _ I hw) fun v s1 ⟨x, H1, I1, r1, q1⟩ => ?_) (he _)
  obtain ⟨d, rfl, q⟩ := q1
  cases r1
  exact wpAny_truthy_bool ⟨H1, I1, q⟩

/-! ### and, or, not -/
variable {tA tB' : TT} {rest : List Expr}
def tAnd (t u : TT) : TT := fun σ H Q => t σ H fun c H1 => if c = true then u σ H1 Q else Q false H1
def tOr (t u : TT) : TT := fun σ H Q => t σ H fun c H1 => if c = true then Q true H1 else u σ H1 Q
def tNot (t : TT) : TT := fun σ H Q => t σ H fun c H1 => Q (!c) H1
theorem pw_and1 (ha : PT X a tA) : PW X (.BoolOp .And [a] pos) tA := by
  intro wh pins s σ H Q I h
  refine isTrue_and (thn (ha pins s σ H Q I h) fun c s1 e => ?_)
  cases c with
  | true => exact isTrue_and_nil e
  | false => exact e
theorem pw_or1 (ha : PT X a tA) : PW X (.BoolOp .Or [a] pos) tA := by
  intro wh pins s σ H Q I h
  refine isTrue_or (thn (ha pins s σ H Q I h) fun c s1 e => ?_)
  cases c with
  | false => exact isTrue_or_nil e
  | true => exact e
theorem pw_and (ha : PT X a tA) (hb : PW X (.BoolOp .And (b :: rest) pos) tB') : PW X (.BoolOp .And (a :: b :: rest) pos) (tAnd tA tB') := by
  intro wh pins s σ H Q I h
  refine isTrue_and (thn (ha pins s σ H _ I h) fun c s1 ⟨H1, I1, q1⟩ => ?_)
  cases c with
  | true => exact hb wh pins s1 σ H1 Q I1 q1
  | false => exact ⟨H1, I1, q1⟩
theorem pw_or (ha : PT X a tA) (hb : PW X (.BoolOp .Or (b :: rest) pos) tB') : PW X (.BoolOp .Or (a :: b :: rest) pos) (tOr tA tB') := by
  intro wh pins s σ H Q I h
  refine isTrue_or (thn (ha pins s σ H _ I h) fun c s1 ⟨H1, I1, q1⟩ => ?_)
  cases c with
  | true => exact ⟨H1, I1, q1⟩
  | false => exact hb wh pins s1 σ H1 Q I1 q1
theorem pt_not (ha : PT X a tA) : PT X (.UnaryOp .Not a pos) (tNot tA) := by
  intro pins s σ H Q I h
  exact isTrue_not (ha pins s σ H (fun c H1 => Q (!c) H1) I h)
/-- .. as values (bools) -/
def tAndV (ta tb : TE) : TE := fun σ H Q => ta σ H fun x H1 => ∃ c, x = .bl c ∧ if c = true then tb σ H1 Q else Q (.bl false) H1
def tOrV (ta tb : TE) : TE := fun σ H Q => ta σ H fun x H1 => ∃ c, x = .bl c ∧ if c = true then Q (.bl true) H1 else tb σ H1 Q
def tNotV (ta : TE) : TE := fun σ H Q => ta σ H fun x H1 => ∃ c, x = .bl c ∧ Q (.bl (!c)) H1
theorem pe_one {op} {t : TE} (h : PE X a t) : PE X (.BoolOp op [a] pos) t := fun pins s σ H Q I hw => BoolOp_one (h pins s σ H Q I hw)
theorem pe_and (ha : PE X a ta) (hb : PE X (.BoolOp .And (b :: rest) pos) tb) : PE X (.BoolOp .And (a :: b :: rest) pos) (tAndV ta tb) := by
  intro pins s σ H Q I h
  refine BoolOp_and (thn (ha pins s σ H _ I h) fun v s1 ⟨x, H1, I1, r1, q1⟩ => ?_)
  obtain ⟨c, rfl, q1⟩ := q1
  cases r1
  refine wpAny_truthy_bool ?_
  cases c with
  | true => exact hb pins s1 σ H1 Q I1 q1
  | false => exact ⟨.bl false, H1, I1, rfl, q1⟩
theorem pe_not (ha : PE X a ta) : PE X (.UnaryOp .Not a pos) (tNotV ta) := by
  intro pins s σ H Q I h
  refine UnaryOp_ (thn (ha pins s σ H _ I h) fun v s1 ⟨x, H1, I1, r1, q1⟩ => ?_)
  obtain ⟨c, rfl, q1⟩ := q1
  cases r1
  exact not_of (wpAny_truthy_bool ⟨.bl (!c), H1, I1, rfl, q1⟩)
/-- a if t else b -/
def tIf (t : TT) (ta tb : TE) : TE := fun σ H Q => t σ H fun c H1 => if c = true then ta σ H1 Q else tb σ H1 Q
theorem pe_ifExp {c : Expr} (hc : PT X c tA) (ha : PE X a ta) (hb : PE X b tb) : PE X (.IfExp c a b pos) (tIf tA ta tb) := by
  intro pins s σ H Q I h
  refine wpAny_IfExp (thn (hc pins s σ H _ I h) fun d s1 ⟨H1, I1, q1⟩ => ?_)
  cases d with
  | true => exact ha pins s1 σ H1 Q I1 q1
  | false => exact hb pins s1 σ H1 Q I1 q1
end
end L2

namespace L2
open PySem PySem.Spec PyProof.Rows

/-! ### a list, a tuple that is read: tracked, frozen, or an object of the module -/
def SqL (K : PySem.W.Frag) (H : Hp) (a : Addr) (xs : List V) : Prop :=
  Rd H a (.lst xs) ∨
    ∃ (o : Obj) (its : Array Value) (n : Nat), K.lookup a = some o ∧ o.cls = .type "list" ∧ o.dict = none ∧ o.data = .seq its n ∧ its.size ≤ sizeLine ∧ Vals xs its.toList
def SqT (K : PySem.W.Frag) (H : Hp) (a : Addr) (xs : List V) : Prop :=
  Rd H a (.tup xs) ∨
    (∃ (o : Obj) (its : Array Value) (n : Nat), K.lookup a = some o ∧ o.cls = .type "tuple" ∧ o.data = .seq its n ∧ its.size ≤ sizeLine ∧ Vals xs its.toList) ∨ H a = some (.par xs)
def absV : Value → Option V
  | .none => some .non
  | .bool b => some (.bl b)
  | .int i _ => some (.int i)
  | .str x _ => some (.str x)
  | .bytes b _ => some (.byt b)
  | .float b _ => some (.flt b)
  | .ref a => some (.ref a)
  | .type n => some (.ty n)
  | _ => none
theorem RelV.abs {x : V} {u : Value} (r : RelV x u) : absV u = some x := by
  cases x with
  | non => cases r; rfl
  | bl _ => cases r; rfl
  | int _ => obtain ⟨t, rfl⟩ := r; rfl
  | str _ => obtain ⟨t, rfl⟩ := r; rfl
  | byt _ => obtain ⟨t, rfl⟩ := r; rfl
  | flt _ => obtain ⟨t, rfl⟩ := r; rfl
  | ref _ => cases r; rfl
  | ty _ => cases r; rfl
theorem RelV.inj {x y : V} {u : Value} (r : RelV x u) (q : RelV y u) : x = y := Option.some.inj (r.abs.symm.trans q.abs)
theorem Vals.inj : ∀ {xs ys : List V} {us : List Value}, Vals xs us → Vals ys us → xs = ys
  | _, _, _, .nil, .nil => rfl
  | _, _, _, .cons r t, .cons r' t' => by rw [r.inj r', Vals.inj t t']
section
variable {X : Cx} {pins : List (Addr × Obj)} {σ : St} {H : Hp} {s : Shared} {a : Addr} {xs ys : List V}
theorem SqL.of {K : PySem.W.Frag} (h : H a = some (.lst xs)) : SqL K H a xs := .inl (.inl h)
theorem SqT.of {K : PySem.W.Frag} (h : H a = some (.tup xs)) : SqT K H a xs := .inl (.inl h)
theorem SqT.ofP {K : PySem.W.Frag} (h : H a = some (.par xs)) : SqT K H a xs := .inr (.inr h)
theorem Inv.list (I : Inv X pins σ H s) (h : SqL X.K H a xs) : ∃ its : List Value, Vals xs its ∧ PlainL s.heap a its.toArray ∧ xs.length ≤ sizeLine := by
  rcases h with h | ⟨o, its, n, hk, hc, hd, hs, hz, r⟩
  · obtain ⟨z, its, n, r, e⟩ := h.ok I.hok
    exact ⟨its, r, ⟨_, n, e, rfl, rfl, rfl⟩, z⟩
  · refine ⟨its.toList, r, ⟨o, n, I.kIn a o hk, hc, hd, by simpa using hs⟩, ?_⟩
    have e := r.length
    simp only [Array.length_toList] at e
    omega
theorem Inv.tuple (I : Inv X pins σ H s) (h : SqT X.K H a xs) : ∃ its : List Value, Vals xs its ∧ IsTup s.heap a its.toArray ∧ xs.length ≤ sizeLine := by
  rcases h with h | ⟨o, its, n, hk, hc, hs, hz, r⟩ | h
  · obtain ⟨z, its, r, p, _⟩ := h.ok I.hok
    exact ⟨its, r, p, z⟩
  rotate_left
  · obtain ⟨z, its, r, p⟩ := (show ObjOk X.prog X.w H s.heap a (.par xs) from I.hok a _ h)
    exact ⟨its, r, p, z⟩
  · refine ⟨its.toList, r, ⟨o, I.kIn a o hk, hc, n, by simpa using hs⟩, ?_⟩
    have e := r.length
    simp only [Array.length_toList] at e
    omega
theorem Inv.list_inj (I : Inv X pins σ H s) (h : SqL X.K H a xs) (h' : SqL X.K H a ys) : xs = ys := by
  obtain ⟨its, r, ⟨o, n, e, _, _, d⟩, _⟩ := I.list h
  obtain ⟨its', r', ⟨o', n', e', _, _, d'⟩, _⟩ := I.list h'
  rw [e] at e'; cases e'
  rw [d] at d'
  injection d' with d1 _
  have : its = its' := by simpa using congrArg Array.toList d1
  subst this
  exact r.inj r'
theorem Inv.tuple_inj (I : Inv X pins σ H s) (h : SqT X.K H a xs) (h' : SqT X.K H a ys) : xs = ys := by
  obtain ⟨its, r, ⟨o, e, _, n, d⟩, _⟩ := I.tuple h
  obtain ⟨its', r', ⟨o', e', _, n', d'⟩, _⟩ := I.tuple h'
  rw [e] at e'; cases e'
  rw [d] at d'
  injection d' with d1 _
  have : its = its' := by simpa using congrArg Array.toList d1
  subst this
  exact r.inj r'
end

/-! ### another wish about exceptions -/
abbrev Cx.wish (X : Cx) (E : Value → Shared → Prop) : Cx := { X with xe := E }
/-- no exception leaves -/
abbrev Cx.nox (X : Cx) : Cx := X.wish fun _ _ => False
theorem Cx.Ok.wish {X : Cx} (ok : X.Ok) (E : Value → Shared → Prop) : (X.wish E).Ok :=
  ⟨ok.mod, ok.kind, ok.glob, ok.blt, ok.above, ok.inj, ok.has, ok.cab, ok.hd, ok.frames, ok.stk, ok.exf, ok.bs, ok.bsz, ok.noex, ok.exfs, ok.funs, ok.frf⟩
theorem Cx.Ok.unwish {X : Cx} {E : Value → Shared → Prop} (ok : (X.wish E).Ok) : X.Ok :=
  ⟨ok.mod, ok.kind, ok.glob, ok.blt, ok.above, ok.inj, ok.has, ok.cab, ok.hd, ok.frames, ok.stk, ok.exf, ok.bs, ok.bsz, ok.noex, ok.exfs, ok.funs, ok.frf⟩
section
variable {X : Cx} {pins : List (Addr × Obj)} {σ : St} {H : Hp} {s : Shared} {E : Value → Shared → Prop}
theorem Inv.wish (I : Inv X pins σ H s) (E : Value → Shared → Prop) : Inv (X.wish E) pins σ H s := ⟨I.ok.wish E, I.os, I.bare, I.base, I.loc, I.cell, I.free, I.freeC, I.pin, I.hok, I.len⟩
theorem Inv.unwish (I : Inv (X.wish E) pins σ H s) : Inv X pins σ H s := ⟨I.ok.unwish, I.os, I.bare, I.base, I.loc, I.cell, I.free, I.freeC, I.pin, I.hok, I.len⟩
theorem SP.unwish {D : Ends} {f : Flow} {s' : Shared} (h : SP (X.wish E) pins D f s') : SP X pins D f s' := by
  cases f with
  | next => obtain ⟨σ', H', I, q⟩ := h; exact ⟨σ', H', I.unwish, q⟩
  | brk => obtain ⟨σ', H', I, q⟩ := h; exact ⟨σ', H', I.unwish, q⟩
  | cont => obtain ⟨σ', H', I, q⟩ := h; exact ⟨σ', H', I.unwish, q⟩
  | ret u => obtain ⟨v, σ', H', I, r, q⟩ := h; exact ⟨v, σ', H', I.unwish, r, q⟩
theorem PSs.nox {st : List Stmt} {t : TS} (h : PSs X.nox st t) : PSs X st t := fun pins s σ H D I hw =>
  wpAny_mono (h pins s σ H D (I.wish _) hw) (fun _ _ q => q.unwish) fun _ _ z => False.elim z
end

/-! ### blocks and small statements -/
section
variable {X : Cx} {st : Stmt} {rest : List Stmt} {t u : TS} {e : Expr} {te : TE} {pos : Pos}
def tNext : TS := fun D σ H => D.nx σ H
def tSeq (t u : TS) : TS := fun D σ H => t { D with nx := u D } σ H
theorem pss_nil : PSs X [] tNext := fun _ _ σ H _ I h => wpAny_execs_nil ⟨σ, H, I, h⟩
theorem pss_cons (h1 : PS X st t) (h2 : PSs X rest u) : PSs X (st :: rest) (tSeq t u) := by
  intro pins s σ H D I h
  refine wpAny_execs_cons (thn (h1 pins s σ H { D with nx := u D } I h) fun f s1 q => ?_)
  cases f with
  | next =>
    obtain ⟨σ', H', I', q⟩ := q
    exact h2 pins s1 σ' H' D I' q
  | ret v => exact q
  | brk => exact q
  | cont => exact q
theorem pss_one (h1 : PS X st t) : PSs X [st] t := by
  intro pins s σ H D I h
  refine wpAny_execs_cons (thn (h1 pins s σ H D I h) fun f s1 q => ?_)
  cases f with
  | next => exact wpAny_execs_nil q
  | ret v => exact q
  | brk => exact q
  | cont => exact q
def tBreak : TS := fun D σ H => D.bk σ H
def tCont : TS := fun D σ H => D.ct σ H
/-- in a def's body nothing is shown -/
theorem Inv.quiet {pins : List (Addr × Obj)} {σ : St} {H : Hp} {s : Shared} (I : Inv X pins σ H s) : interactive X.env = false := by simp [interactive, I.ok.kind]
/-- an expression whose value is dropped -/
def tDrop (te : TE) : TS := fun D σ H => te σ H fun _ H1 => D.nx σ H1
theorem ps_expr (he : PE X e te) (hs : swapsWith e none pos.line X.env = pure false := by rfl) : PS X (.Expr e pos) (tDrop te) := by
  intro pins s σ H D I h
  exact wpAny_Expr_any (thn (he pins s σ H _ I h) fun v s1 ⟨x, H1, I1, r1, q1⟩ => ⟨σ, H1, I1, q1⟩) I.quiet hs
def tRet (te : TE) : TS := fun D σ H => te σ H D.rt
theorem ps_ret (he : PE X e te) : PS X (.Return (some e) pos) (tRet te) := by
  intro pins s σ H D I h
  exact wpAny_Return_some (thn (he pins s σ H _ I h) fun v s1 ⟨x, H1, I1, r1, q1⟩ => ⟨x, σ, H1, I1, r1, q1⟩)
def tRetN : TS := fun D _ H => D.rt .non H
def tIfS (c : TT) (t u : TS) : TS := fun D σ H => c σ H fun b H1 => if b = true then t D σ H1 else u D σ H1
theorem ps_if {c : Expr} {a b : List Stmt} {tc : TT} (hc : PT X c tc) (ha : PSs X a t) (hb : PSs X b u) : PS X (.If c a b pos) (tIfS tc t u) := by
  intro pins s σ H D I h
  refine wpAny_If (thn (hc pins s σ H _ I h) fun d s1 ⟨H1, I1, q1⟩ => ?_)
  cases d with
  | true => exact ha pins s1 σ H1 D I1 q1
  | false => exact hb pins s1 σ H1 D I1 q1
/-- code that the proof never comes to -/
def tNever : TS := fun _ _ _ => False
theorem pss_never {sts : List Stmt} : PSs X sts tNever := fun _ _ _ _ _ _ h => h.elim
end

/-! ### targets -/
abbrev TG := V → St → Hp → (St → Hp → Prop) → Prop
abbrev TGs := List V → St → Hp → (St → Hp → Prop) → Prop
def PG (X : Cx) (target : Expr) (t : TG) : Prop :=
  ∀ (pins : List (Addr × Obj)) (s : Shared) (σ : St) (H : Hp) (v : V) (u : Value) (Q : St → Hp → Prop), Inv X pins σ H s → RelV v u → t v σ H Q →
    wpAny (model X.prog X.w) X.A (assign target X.env u) (fun _ s' => ∃ σ' H', Inv X pins σ' H' s' ∧ Q σ' H') X.xe s
/-- several targets, one after another -/
def PGs (X : Cx) (ts : List Expr) (t : TGs) : Prop :=
  ∀ (pins : List (Addr × Obj)) (s : Shared) (σ : St) (H : Hp) (vs : List V) (us : List Value) (Q : St → Hp → Prop), Inv X pins σ H s → Vals vs us → t vs σ H Q →
    wpAny (model X.prog X.w) X.A (assignInOrder ((assignEach ts X.env).map (·.2)) us) (fun _ s' => ∃ σ' H', Inv X pins σ' H' s' ∧ Q σ' H') X.xe s
/-- o[i] = v, by values -/
abbrev TSet := V → V → V → Hp → (Hp → Prop) → Prop
def PSet (X : Cx) (t : TSet) : Prop :=
  ∀ (pins : List (Addr × Obj)) (s : Shared) (σ : St) (H : Hp) (o i v : V) (ov iv u : Value) (Q : Hp → Prop), Inv X pins σ H s → RelV o ov → RelV i iv → RelV v u → t o i v H Q →
    wpAny (model X.prog X.w) X.A (setItem ov iv u) (fun _ s' => ∃ H', Inv X pins σ H' s' ∧ Q H') X.xe s
/-- a op= b, by values -/
abbrev TIp := V → V → Hp → VK → Prop
def PIp (X : Cx) (op : Operator) (t : TIp) : Prop :=
  ∀ (pins : List (Addr × Obj)) (s : Shared) (σ : St) (H : Hp) (x y : V) (v u : Value) (Q : VK), Inv X pins σ H s → RelV x v → RelV y u → t x y H Q →
    wpAny (model X.prog X.w) X.A (inplaceOp op v u) (EP X pins σ Q) X.xe s
section
variable {X : Cx} {pos : Pos}
def gName (i : Nat) : TG := fun v σ H Q => Q (σ.set i (some v)) H
theorem pg_name {i : Nat} {x : Str} (hN : X.N.Nodup) (hi : X.N[i]? = some x) (hx : Loc X.env.scope x) (hf : X.fn x = true ∨ X.env.scope.names.lookup x = some .local := by first | exact .inl rfl | exact .inr rfl | assumption) : PG X (.Name x pos) (gName i) := by
  intro pins s σ H v u Q I r h
  exact wpAny_assign_Name (store_ok I hN hi hx r (fun s' I' => ⟨_, H, I', h⟩) hf)
def gNil : TGs := fun vs σ H Q => vs = [] ∧ Q σ H
def gCons (t : TG) (u : TGs) : TGs := fun vs σ H Q => ∃ v r, vs = v :: r ∧ t v σ H fun σ' H' => u r σ' H' Q
theorem pgs_nil : PGs X [] gNil := by
  intro pins s σ H vs us Q I r h
  obtain ⟨e, h⟩ := h
  subst e
  cases r
  exact assignInOrder_nil ⟨σ, H, I, h⟩
theorem pgs_cons {e : Expr} {es : List Expr} {t : TG} {u : TGs} (h1 : PG X e t) (h2 : PGs X es u)
    (hs : (assignEach (e :: es) X.env).map (·.2) = assign e X.env :: (assignEach es X.env).map (·.2) := by rfl) : PGs X (e :: es) (gCons t u) := by
  intro pins s σ H vs us Q I r h
  obtain ⟨v, vr, e1, h⟩ := h
  subst e1
  cases r with
  | cons r rr =>
    rw [hs]
    refine assignInOrder_cons (thn (h1 pins s σ H _ _ _ I r h) fun _ s1 ⟨σ1, H1, I1, q1⟩ => ?_)
    exact h2 pins s1 σ1 H1 _ _ Q I1 rr q1
/-- (a, b, ..) = a tuple of that length -/
def gTup (K : PySem.W.Frag) (n : Nat) (t : TGs) : TG := fun v σ H Q => ∃ a xs, v = .ref a ∧ SqT K H a xs ∧ xs.length = n ∧ t xs σ H Q
theorem pg_tup {es : List Expr} {k : Nat} {t : TGs} {n : Nat} (hc : X.calm = true) (h : PGs X es t)
    (hn : (assignEach es X.env).length = n := by rfl) (hst : (assignEach es X.env).findIdx? (·.1) = none := by rfl) : PG X (.Tuple es k pos) (gTup X.K n t) := by
  intro pins s σ H v u Q I r hw
  obtain ⟨a, xs, e1, hq, hl, hw⟩ := hw
  subst e1
  cases r
  obtain ⟨its, rv, ht, hz⟩ := I.tuple hq
  refine assign_Tuple_tuple (I.ok.hd hc) ht (by simp [hn, ← hl, rv.length]) hst fun h' hx => ?_
  have I1 : Inv X pins σ H { s with heap := h' } := I.kept (t' := s.toks) fun b o e => hx b o (Nat.ne_of_lt (Heap.lt_size e)) e
  exact h pins _ σ H xs _ Q I1 (by simpa using rv) hw
/-- o[i] = .. -/
def gSub (to ti : TE) (t : TSet) : TG := fun v σ H Q => to σ H fun o H1 => ti σ H1 fun i H2 => t o i v H2 fun H3 => Q σ H3
theorem pg_sub {o i : Expr} {to ti : TE} {t : TSet} (ho : PE X o to) (hi : PE X i ti) (hs : PSet X t)
    (ha : ∀ v, assign (.Subscript o i pos) X.env v = (do
      let ov ← holding [v] (eval o X.env)
      let iv ← holding [v, ov] (eval i X.env)
      standAt pos
      holding [v, ov, iv] (setItem ov iv v)
      release [v, ov, iv] []) := by intro _; rfl) : PG X (.Subscript o i pos) (gSub to ti t) := by
  intro pins s σ H v u Q I r h
  rw [ha]
  refine wpAny_bind (wpAny_holding (thn (ho pins s σ H _ I h) fun ov s1 ⟨x, H1, I1, r1, q1⟩ => ?_))
  refine wpAny_bind (wpAny_holding (thn (hi pins s1 σ H1 _ I1 q1) fun iv s2 ⟨y, H2, I2, r2, q2⟩ => ?_))
  refine wpAny_bind (wpAny_standAt (wpAny_bind (wpAny_holding (thn (hs pins s2 σ H2 x y v ov iv u _ I2 r1 r2 r q2) fun _ s3 ⟨H3, I3, q3⟩ => ?_))))
  exact wpAny_release ⟨σ, H3, I3, q3⟩
/-- target = value -/
def tAsg (te : TE) (g : TG) : TS := fun D σ H => te σ H fun x H1 => g x σ H1 D.nx
theorem ps_asg {tg e : Expr} {te : TE} {g : TG} (he : PE X e te) (hg : PG X tg g) (hs : swapsWithSole [tg] e pos.line X.env = pure false := by rfl) (hw : swappedStores [tg] e X.env = pure none := by rfl)
    (h1 : (assignEach [tg] X.env).map (·.2) = [assign tg X.env] := by rfl) : PS X (.Assign [tg] e pos) (tAsg te g) := by
  intro pins s σ H D I h
  refine wpAny_Assign_stores (thn (he pins s σ H _ I h) fun v s1 ⟨x, H1, I1, r1, q1⟩ => ?_) hs hw
  rw [h1]
  exact thn (hg pins s1 σ H1 x v _ I1 r1 q1) fun _ s2 q => q
/-- name = value -/
theorem ps_set {i : Nat} {x : Str} {e : Expr} {te : TE} {pos' : Pos} (hN : X.N.Nodup) (hi : X.N[i]? = some x) (hx : Loc X.env.scope x) (he : PE X e te) (hs : swapsWith e (some (.Name x pos')) pos.line X.env = pure false := by rfl) (hf : X.fn x = true ∨ X.env.scope.names.lookup x = some .local := by first | exact .inl rfl | exact .inr rfl | assumption) :
    PS X (.Assign [.Name x pos'] e pos) (tAsg te (gName i)) := by
  intro pins s σ H D I h
  refine wpAny_Assign_Name (thn (he pins s σ H _ I h) fun v s1 ⟨y, H1, I1, r1, q1⟩ => ?_) hs
  exact store_ok I1 hN hi hx r1 (fun s2 I2 => ⟨_, H1, I2, q1⟩) hf
/-- a, b = x, y with plain local names: stored from the right; the pair itself is not tracked (the opening rows as in PyProof/Rows/TupAssign.lean:23) -/
def tPar (i j : Nat) (ta : TA) : TS := fun D σ H => ta σ H fun vs H1 => ∃ v w, vs = [v, w] ∧ D.nx ((σ.set i (some v)).set j (some w)) H1
theorem ps_par {i j : Nat} {x y : Str} {a b : Expr} {ta : TA} {px py pt : Pos} {kt k2 pt2} (hc : X.calm = true) (hN : X.N.Nodup) (hi : X.N[i]? = some x) (hj : X.N[j]? = some y) (hij : i ≠ j)
    (hx : X.env.scope.names.lookup x = some .local) (hy : X.env.scope.names.lookup y = some .local) (ha : PA X [a, b] ta)
    (hw : swappedStores [.Tuple [.Name x px, .Name y py] kt pt] (.Tuple [a, b] k2 pt2) X.env = pure (some [x, y]))
    (hs : swapsWithSole [.Tuple [.Name x px, .Name y py] kt pt] (.Tuple [a, b] k2 pt2) pos.line X.env = pure false := by rfl) :
    PS X (.Assign [.Tuple [.Name x px, .Name y py] kt pt] (.Tuple [a, b] k2 pt2) pos) (tPar i j ta) := by
  intro pins s σ H D I h
  rw [exec_Assign_arm]
  refine wpAny_bind (wpAny_standAt ?_)
  rw [hs]
  refine wpAny_bind (wpAny_pure ?_)
  rw [if_neg (by decide)]
  refine wpAny_bind (Tuple_ (thn (ha _ pins s σ H _ I h) fun us s1 ⟨vs, H1, I1, r1, q1⟩ => ?_))
  obtain ⟨v, w, e1, q1⟩ := q1
  subst e1
  obtain ⟨u1, u2, rfl, rv, rw'⟩ : ∃ u1 u2, us = [u1, u2] ∧ RelV v u1 ∧ RelV w u2 := by
    cases r1 with
    | cons p q =>
      cases q with
      | cons p' q' =>
        cases q'
        exact ⟨_, _, rfl, p, p'⟩
  refine wpAny_newObj_type ?_ (by show 2 ≤ sizeLine; decide)
  have I2 : Inv X pins σ H1 { s1 with heap := s1.heap.push { cls := .type "tuple", data := .seq [u1, u2].toArray } } := I1.kept (t' := s1.toks) fun b o e => Heap.get?_push_of_some _ e
  rw [hw]
  refine wpAny_bind (wpAny_pure ?_)
  show wpAny (model X.prog X.w) X.A (do rule "assign.swapped-stores"; let items ← unpackItems (.ref s1.heap.objs.size) 2 none; assignInOrder [fun v => bindName X.env y v, fun v => bindName X.env x v] items.reverse; pure Flow.next) _ _ _
  refine wpAny_bind (wpAny_rule (wpAny_bind (unpackItems_tuple (items := #[u1, u2]) (I.ok.hd hc) (IsTup.new s1.heap _) fun h' hx' => ?_)))
  have I3 := I2.kept (h' := h') (t' := s1.toks) fun b o e => hx' b o (Nat.ne_of_lt (Heap.lt_size e)) e
  show wpAny _ _ (assignInOrder [fun v => bindName X.env y v, fun v => bindName X.env x v] [u2, u1] >>= fun _ => pure Flow.next) _ _ _
  refine wpAny_bind (assignInOrder_cons (wpAny_bindName (store_ok I3 hN hj (.inl hy) rw' (fun s2 I4 => ?_) (.inr hy))))
  refine assignInOrder_cons (wpAny_bindName (store_ok I4 hN hi (.inl hx) rv (fun s3 I5 => assignInOrder_nil (wpAny_pure ?_)) (.inr hx)))
  rw [List.set_comm _ _ (Ne.symm hij)] at I5
  exact ⟨_, H1, I5, q1⟩
/-- name op= e -/
def tAug (i : Nat) (te : TE) (ti : TIp) : TS := fun D σ H => ∃ x, σ[i]? = some (some x) ∧ te σ H fun y H1 => ti x y H1 fun z H2 => D.nx (σ.set i (some z)) H2
/-- o[i] op= e -/
def tAugS (to ti te : TE) (tget : V → V → Hp → VK → Prop) (tip : TIp) (tset : TSet) : TS := fun D σ H => to σ H fun o H1 => ti σ H1 fun i H2 => tget o i H2 fun x H3 => te σ H3 fun y H4 => tip x y H4 fun z H5 => tset o i z H5 fun H6 => D.nx σ H6
/-- o[i], by values -/
def PGet (X : Cx) (t : V → V → Hp → VK → Prop) : Prop :=
  ∀ (pins : List (Addr × Obj)) (s : Shared) (σ : St) (H : Hp) (o i : V) (ov iv : Value) (Q : VK), Inv X pins σ H s → RelV o ov → RelV i iv → t o i H Q →
    wpAny (model X.prog X.w) X.A (getItem ov iv) (EP X pins σ Q) X.xe s
/-- ints -/
def ipI (f : Int → Int → Int) : TIp := fun x y H Q => ∃ i j, x = .int i ∧ y = .int j ∧ Q (.int (f i j)) H
end

/-! ### while -/
section
variable {X : Cx} {pos : Pos}
/-- the invariant W with its measure -/
def tWhile (c : TT) (tb : TS) : TS := fun D σ H => ∃ W : Nat → St → Hp → Prop, (∃ m, W m σ H) ∧ ∀ m σ H, W m σ H →
  c σ H fun b H1 => if b = true then ∃ N : St → Hp → Prop, (∀ σ' H', N σ' H' → ∃ m', m' < m ∧ W m' σ' H') ∧ tb { D with nx := N, ct := N, bk := D.nx } σ H1 else D.nx σ H1
end

/-! ### what a loop or a comprehension walks -/
/-- at turn i: it yields x (the heap may grow), or it stops -/
structure It where
  go : Nat → Hp → Prop
  yld : Nat → Hp → V → Hp → Prop
  stop : Nat → Hp → Prop
/-- the iterator's own objects may turn: they are not the frame's, not pinned, younger than the entry (or a comprehension's own) -/
def FpOk (X : Cx) (pins : List (Addr × Obj)) (H : Hp) (b : Addr) : Prop :=
  H b = none ∧ b ≠ X.env.locals ∧ b ∉ X.fs ∧ (b ∈ X.ex ∨ X.s₀.heap.objs.size ≤ b) ∧ (∀ x c, X.env.cells.lookup x = some c → c ≠ b) ∧ ∀ p ∈ X.pn ++ pins, p.1 ≠ b
theorem Inv.fpOk {X : Cx} {pins : List (Addr × Obj)} {σ : St} {H H' : Hp} {s : Shared} {b : Addr} (I : Inv X pins σ H s) (hb : s.heap.objs.size ≤ b) (hn : H' b = none) : FpOk X pins H' b := by
  refine ⟨hn, Nat.ne_of_gt (Nat.lt_of_lt_of_le I.lt hb), I.nofs hb, .inr (Nat.le_trans I.sz hb), fun x c e z => ?_, fun p hp z => ?_⟩
  · obtain ⟨v, q⟩ := I.cell x c e
    exact absurd (Nat.lt_of_lt_of_le q.lt (by rw [z]; exact hb)) (Nat.lt_irrefl _)
  · exact absurd (Nat.lt_of_lt_of_le (Heap.lt_size (I.pin p hp).1) (by rw [z]; exact hb)) (Nat.lt_irrefl _)
structure Turn (P : Program) (w : World) (K : PySem.W.Frag) (tg : Expr) (J : It) (fp : List Addr) (it : Addr) (tn : Nat → Heap → Prop) : Prop where
  mem : it ∈ fp
  obj : ∀ i h, tn i h → ∀ b ∈ fp, ∃ o, h.get? b = some o ∧ ∀ v, o.data ≠ .cell v
  keep : ∀ i h h', tn i h → (∀ b ∈ fp, ∀ o, h.get? b = some o → h'.get? b = some o) → tn i h'
  item : ∀ (X : Cx), X.prog = P → X.w = w → X.K = K → X.calm = true → ∀ (i : Nat) (pins : List (Addr × Obj)) (s : Shared) (σ : St) (H : Hp) (E : Value → Shared → Prop), Inv X pins σ H s → (∀ b ∈ fp, FpOk X pins H b) → tn i s.heap → J.go i H →
    wpAny (model P w) X.A (pyNext (.ref it)) (fun r s1 => ∃ u, r = some u ∧
      wpAny (model P w) X.A (letOwnedTupleGo tg (.ref it) u) (fun _ s2 => ∃ x H', Inv X pins σ H' s2 ∧ RelV x u ∧ J.yld i H x H' ∧ tn (i + 1) s2.heap ∧ ∀ b ∈ fp, H' b = none) E s1) E s
  done : ∀ (X : Cx), X.prog = P → X.w = w → X.K = K → X.calm = true → ∀ (i : Nat) (pins : List (Addr × Obj)) (s : Shared) (σ : St) (H : Hp) (E : Value → Shared → Prop), Inv X pins σ H s → (∀ b ∈ fp, FpOk X pins H b) → tn i s.heap → J.stop i H →
    wpAny (model P w) X.A (pyNext (.ref it)) (fun r s1 => r = none ∧ Inv X pins σ H s1) E s
  self : ∀ (A : Around) (i : Nat) (s : Shared) (Q : Value → Shared → Prop) (E : Value → Shared → Prop), tn i s.heap → Q (.ref it) s → wpAny (model P w) A (pyIter (.ref it)) Q E s
abbrev TI := St → Hp → (It → Hp → Prop) → Prop
/-- an iterator has come -/
def PIE (X : Cx) (pins : List (Addr × Obj)) (σ : St) (tg : Expr) (R : It → Hp → Prop) (itv : Value) (s2 : Shared) : Prop :=
  ∃ (it : Addr) (fp : List Addr) (tn : Nat → Heap → Prop) (J : It) (H' : Hp), itv = .ref it ∧ Inv X pins σ H' s2 ∧ Turn X.prog X.w X.K tg J fp it tn ∧ tn 0 s2.heap ∧ (∀ b ∈ fp, FpOk X pins H' b) ∧ R J H'
def PI (X : Cx) (tg iter : Expr) (wi : TI) : Prop :=
  ∀ (pins : List (Addr × Obj)) (s : Shared) (σ : St) (H : Hp) (R : It → Hp → Prop), Inv X pins σ H s → wi σ H R →
    wpAny (model X.prog X.w) X.A (eval iter X.env) (fun v s1 => wpAny (model X.prog X.w) X.A (pyIter v) (PIE X pins σ tg R) X.xe s1) X.xe s

/-- the step ahead of the store is nothing for an iterator that keeps no tuple -/
theorem go_of {M : Model} {A : Around} {E : Value → Shared → Prop} {s : Shared} {tg : Expr} {it : Addr} {u : Value} {o : Obj} {n : String} {vs : Array Value} {Q : Unit → Shared → Prop} (ho : s.heap.get? it = some o) (hc : o.cls = .type n) (hd : o.data = .fields vs)
    (hn : ["enumerate", "zip", "dict_itemiterator", "dict_reverseitemiterator", "odict_iterator", "itertools.zip_longest", "itertools.pairwise"].contains n = false) (hQ : Q () s) : wpAny M A (letOwnedTupleGo tg (.ref it) u) Q E s := by
  unfold letOwnedTupleGo
  cases tg <;> first
    | exact wpAny_pure hQ
    | (cases u <;> first
        | exact wpAny_pure hQ
        | (refine wpAny_bind (wpAny_load ho ?_)
           rw [hc, hd]
           show wpAny M A (if (["enumerate", "zip", "dict_itemiterator", "dict_reverseitemiterator", "odict_iterator", "itertools.zip_longest", "itertools.pairwise"].contains n && vs[0]? == some (rawInt _)) = true then _ else _) Q E s
           rw [if_neg (by intro h; rw [hn, Bool.false_and] at h; cases h)]
           exact wpAny_pure hQ))

/-- the list at a, as it stands at each turn (a loop may append to it) -/
def Itl (K : PySem.W.Frag) (a : Addr) : It :=
  ⟨fun i H => ∃ xs x, SqL K H a xs ∧ xs[i]? = some x, fun i H x H' => H' = H ∧ ∀ xs, SqL K H a xs → xs[i]? = some x, fun i H => ∃ xs, SqL K H a xs ∧ xs.length ≤ i⟩
def Itt (K : PySem.W.Frag) (a : Addr) : It :=
  ⟨fun i H => ∃ xs x, SqT K H a xs ∧ xs[i]? = some x, fun i H x H' => H' = H ∧ ∀ xs, SqT K H a xs → xs[i]? = some x, fun i H => ∃ xs, SqT K H a xs ∧ xs.length ≤ i⟩
/-- lo, lo + 1, .. (n of them) -/
def Itr (lo : Int) (n : Nat) : It := ⟨fun i _ => i < n, fun i H x H' => H' = H ∧ x = .int (lo + i), fun i _ => n ≤ i⟩
theorem turn_list {P : Program} {w : World} {K : PySem.W.Frag} {tg : Expr} (a it : Addr) : Turn P w K tg (Itl K a) [it] it (fun i h => h.IsListIter it a i) where
  mem := by simp
  obj := fun i h st b hb => by
    have e : b = it := by simpa using hb
    subst e
    obtain ⟨o, e, c, d⟩ := st
    exact ⟨o, e, fun v z => by rw [d] at z; cases z⟩
  keep := fun i h h' st k => st.at fun o e => k it (by simp) o e
  item := by
    intro X hP hw hK hc i pins s σ H E I hf st hg
    subst hP hw hK
    obtain ⟨xs, x, hq, hx⟩ := hg
    obtain ⟨its, rv, p, hz⟩ := I.list hq
    obtain ⟨u, hu, ru⟩ := rv.get hx
    obtain ⟨f0, f1, f2, f3, f4, f5⟩ := hf it (by simp)
    refine wpAny_pyNext_list_item st p.isList (x := u) (by simpa using hu) fun h' st' sb => ?_
    have I1 : Inv X pins σ H { s with heap := h' } := I.turned (t' := s.toks) (fun b o hb e => (sb.2 b hb).trans e) f0 f1 f3 f4 f5
    obtain ⟨o, e, c, d⟩ := id st'
    exact ⟨u, rfl, go_of (s := { s with heap := h' }) e c d (by decide) ⟨x, H, I1, ru, ⟨rfl, fun ys hy => by rw [I.list_inj hy hq]; exact hx⟩, st', fun b hb => (hf b hb).1⟩⟩
  done := by
    intro X hP hw hK hc i pins s σ H E I hf st hg
    subst hP hw hK
    obtain ⟨xs, hq, hx⟩ := hg
    obtain ⟨its, rv, p, hz⟩ := I.list hq
    obtain ⟨f0, f1, f2, f3, f4, f5⟩ := hf it (by simp)
    have hl := rv.length
    exact wpAny_pyNext_list_end (I.ok.hd hc) st p.isList (by simp; omega) fun h' eb => ⟨rfl, I.turned (t' := s.toks) (fun b o hb e => eb b o hb e) f0 f1 f3 f4 f5⟩
  self := fun _ _ _ _ _ st h => wpAny_pyIter_listiter st h
theorem turn_tuple {P : Program} {w : World} {K : PySem.W.Frag} {tg : Expr} (a it : Addr) : Turn P w K tg (Itt K a) [it] it (fun i h => h.IsTupleIter it a i) where
  mem := by simp
  obj := fun i h st b hb => by
    have e : b = it := by simpa using hb
    subst e
    obtain ⟨o, e, c, d⟩ := st
    exact ⟨o, e, fun v z => by rw [d] at z; cases z⟩
  keep := fun i h h' st k => st.at fun o e => k it (by simp) o e
  item := by
    intro X hP hw hK hc i pins s σ H E I hf st hg
    subst hP hw hK
    obtain ⟨xs, x, hq, hx⟩ := hg
    obtain ⟨its, rv, p, hz⟩ := I.tuple hq
    obtain ⟨u, hu, ru⟩ := rv.get hx
    obtain ⟨f0, f1, f2, f3, f4, f5⟩ := hf it (by simp)
    refine wpAny_pyNext_tuple_item st (show s.heap.IsTuple a its.toArray from p) (x := u) (by simpa using hu) fun h' st' sb => ?_
    have I1 : Inv X pins σ H { s with heap := h' } := I.turned (t' := s.toks) (fun b o hb e => (sb.2 b hb).trans e) f0 f1 f3 f4 f5
    obtain ⟨o, e, c, d⟩ := id st'
    exact ⟨u, rfl, go_of (s := { s with heap := h' }) e c d (by decide) ⟨x, H, I1, ru, ⟨rfl, fun ys hy => by rw [I.tuple_inj hy hq]; exact hx⟩, st', fun b hb => (hf b hb).1⟩⟩
  done := by
    intro X hP hw hK hc i pins s σ H E I hf st hg
    subst hP hw hK
    obtain ⟨xs, hq, hx⟩ := hg
    obtain ⟨its, rv, p, hz⟩ := I.tuple hq
    obtain ⟨f0, f1, f2, f3, f4, f5⟩ := hf it (by simp)
    have hl := rv.length
    exact wpAny_pyNext_tuple_end (I.ok.hd hc) st (show s.heap.IsTuple a its.toArray from p) (by simp; omega) fun h' eb => ⟨rfl, I.turned (t' := s.toks) (fun b o hb e => eb b o hb e) f0 f1 f3 f4 f5⟩
  self := fun _ _ _ _ _ st h => wpAny_pyIter_tupleiter st h
theorem turn_range {P : Program} {w : World} {K : PySem.W.Frag} {tg : Expr} (it : Addr) (lo : Int) (n : Nat) : Turn P w K tg (Itr lo n) [it] it (fun i h => IsRangeIter h it (lo + (i : Nat) * 1) ((n : Int) - (i : Nat)) 1) where
  mem := by simp
  obj := fun i h st b hb => by
    have e : b = it := by simpa using hb
    subst e
    exact ⟨_, st, fun v z => by
      have z' : Data.fields _ = Data.cell v := z
      cases z'⟩
  keep := fun i h h' st k => k it (by simp) _ st
  item := by
    intro X hP hw hK hc i pins s σ H E I hf st hg
    subst hP hw hK
    obtain ⟨f0, f1, f2, f3, f4, f5⟩ := hf it (by simp)
    have W := Walks.range (prog := X.prog) (w := X.w) (I.ok.hd hc) it lo 1 n
    refine W.item i s _ _ hg st fun v h' tk hv st' kk => ?_
    obtain ⟨t, rfl⟩ := hv
    have I1 : Inv X pins σ H { s with heap := h', toks := tk } := I.turned (fun b o hb e => kk b o (by simpa using hb) e) f0 f1 f3 f4 f5
    refine ⟨_, rfl, go_of (s := { s with heap := h', toks := tk }) (n := "range_iterator") st' rfl rfl (by decide) ⟨.int (lo + i), H, I1, ⟨t, ?_⟩, ⟨rfl, rfl⟩, st', fun b hb => (hf b hb).1⟩⟩
    rw [Int.mul_one]
  done := by
    intro X hP hw hK hc i pins s σ H E I hf st hg
    subst hP hw hK
    obtain ⟨f0, f1, f2, f3, f4, f5⟩ := hf it (by simp)
    exact wpAny_pyNext_range_end (I.ok.hd hc) st (by have : n ≤ i := hg; omega) fun h' eb => ⟨rfl, I.turned (t' := s.toks) (fun b o hb e => eb b o hb e) f0 f1 f3 f4 f5⟩
  self := fun _ _ _ _ _ st h => wpAny_pyIter_rangeiter st h
end L2

namespace L2
open PySem PySem.Spec PyProof.Rows
section
variable {X : Cx} {tg : Expr}
def iList (K : PySem.W.Frag) (tl : TE) : TI := fun σ H R => tl σ H fun x H1 => ∃ a, x = .ref a ∧ (∃ xs, SqL K H1 a xs) ∧ R (Itl K a) H1
def iTup (K : PySem.W.Frag) (tl : TE) : TI := fun σ H R => tl σ H fun x H1 => ∃ a, x = .ref a ∧ (∃ xs, SqT K H1 a xs) ∧ R (Itt K a) H1
theorem pi_list {l : Expr} {tl : TE} (hl : PE X l tl) : PI X tg l (iList X.K tl) := by
  intro pins s σ H R I h
  refine thn (hl pins s σ H _ I h) fun v s1 ⟨x, H1, I1, r1, q1⟩ => ?_
  obtain ⟨a, e, ⟨xs, hq⟩, q⟩ := q1
  subst e
  cases r1
  obtain ⟨its, rv, p, hz⟩ := I1.list hq
  refine wpAny_pyIter_list p.isList ?_
  refine ⟨s1.heap.objs.size, [s1.heap.objs.size], _, _, H1, rfl, I1.kept (t' := s1.toks) fun b o e => Heap.get?_push_of_some _ e, turn_list a _, ⟨_, Heap.get?_push_size _ rfl, rfl, rfl⟩, fun b hb => ?_, q⟩
  have e : b = s1.heap.objs.size := by simpa using hb
  subst e
  exact I1.fpOk (Nat.le_refl _) (I1.hok.fresh (Nat.le_refl _))
theorem pi_tup {l : Expr} {tl : TE} (hl : PE X l tl) : PI X tg l (iTup X.K tl) := by
  intro pins s σ H R I h
  refine thn (hl pins s σ H _ I h) fun v s1 ⟨x, H1, I1, r1, q1⟩ => ?_
  obtain ⟨a, e, ⟨xs, hq⟩, q⟩ := q1
  subst e
  cases r1
  obtain ⟨its, rv, p, hz⟩ := I1.tuple hq
  refine wpAny_pyIter_tuple (show s1.heap.IsTuple a its.toArray from p) ?_
  refine ⟨s1.heap.objs.size, [s1.heap.objs.size], _, _, H1, rfl, I1.kept (t' := s1.toks) fun b o e => Heap.get?_push_of_some _ e, turn_tuple a _, ⟨_, Heap.get?_push_size _ rfl, rfl, rfl⟩, fun b hb => ?_, q⟩
  have e : b = s1.heap.objs.size := by simpa using hb
  subst e
  exact I1.fpOk (Nat.le_refl _) (I1.hok.fresh (Nat.le_refl _))
/-- a range object just made, walked -/
theorem range_it {pins : List (Addr × Obj)} {σ : St} {H : Hp} {s : Shared} {R : It → Hp → Prop} {E : Value → Shared → Prop} {lo hi : Int} {t u v : Tok} {tk : Nat} (I : Inv X pins σ H s) (h1 : -(2 ^ 62) ≤ lo) (h2 : lo < 2 ^ 62) (h3 : -(2 ^ 62) ≤ hi) (h4 : hi < 2 ^ 62)
    (q : R (Itr lo (hi - lo).toNat) H) : wpAny (model X.prog X.w) X.A (pyIter (.ref s.heap.objs.size)) (PIE X pins σ tg R) E { s with heap := s.heap.push { cls := .type "range", data := .fields #[.int lo t, .int hi u, .int 1 v] }, toks := tk } := by
  refine wpAny_pyIter_range (IsRange.new ..) (small_one h1 h2 h3 h4) ?_
  have I1 : Inv X pins σ H { s with heap := s.heap.push { cls := .type "range", data := .fields #[.int lo t, .int hi u, .int 1 v] }, toks := tk } := I.kept fun b o e => Heap.get?_push_of_some _ e
  refine ⟨(s.heap.push { cls := .type "range", data := .fields #[.int lo t, .int hi u, .int 1 v] }).objs.size, [(s.heap.push { cls := .type "range", data := .fields #[.int lo t, .int hi u, .int 1 v] }).objs.size], _, _, H, rfl,
    I1.kept (t' := tk) fun b o e => Heap.get?_push_of_some _ e, turn_range _ lo (hi - lo).toNat, ?_, fun b hb => ?_, q⟩
  · have e1 : lo + ((0 : Nat) : Int) * 1 = lo := by simp
    have e2 : (((hi - lo).toNat : Nat) : Int) - ((0 : Nat) : Int) = Builtin.Range.rangeSize lo hi 1 := by rw [rangeSize_one]; split <;> omega
    show IsRangeIter _ _ (lo + ((0 : Nat) : Int) * 1) ((((hi - lo).toNat : Nat) : Int) - ((0 : Nat) : Int)) 1
    rw [e1, e2]
    exact Heap.get?_push_size _ rfl
  · have e : b = (s.heap.push { cls := .type "range", data := .fields #[.int lo t, .int hi u, .int 1 v] }).objs.size := by simpa using hb
    subst e
    exact I1.fpOk (Nat.le_refl _) (I1.hok.fresh (Nat.le_refl _))
def iRng1 (ta : TA) : TI := fun σ H R => ta σ H fun vs H1 => ∃ j : Int, vs = [.int j] ∧ -(2 ^ 62) ≤ j ∧ j < 2 ^ 62 ∧ R (Itr 0 j.toNat) H1
def iRng2 (ta : TA) : TI := fun σ H R => ta σ H fun vs H1 => ∃ i j : Int, vs = [.int i, .int j] ∧ (-(2 ^ 62) ≤ i ∧ i < 2 ^ 62 ∧ -(2 ^ 62) ≤ j ∧ j < 2 ^ 62) ∧ R (Itr i (j - i).toNat) H1
theorem pi_range1 {a : Expr} {ta : TA} {p pos : Pos} (hg : Gl X "range") (hm : X.mg "range" = none) (ha : PA X [a] ta) (hs : starEach [a] X.env = [(false, eval a X.env)] := by rfl) : PI X tg (.Call (.Name "range" p) [a] [] pos) (iRng1 ta) := by
  intro pins s σ H R I h
  refine Call_ (ld_blt I hg hm boot_range (PyProof.Rows.callWith_type1 (thn (ha pos pins s σ H _ I h) fun us s1 ⟨vs, H1, I1, r1, q1⟩ => ?_) hs rfl))
  obtain ⟨j, e, q1, q2, q⟩ := q1
  subst e
  cases r1 with
  | cons r rr =>
    cases rr
    obtain ⟨t, rfl⟩ := r
    exact call_range_1 (range_it I1 (by omega) (by omega) q1 q2 (by simpa using q))
/-! ### for -/
/-- W: the invariant by the turn and a measure; N: what the body is to reach -/
def tFor (wi : TI) (g : TG) (tb : TS) : TS := fun D σ H => wi σ H fun J H1 => ∃ W : Nat → Nat → St → Hp → Prop, (∃ m, W 0 m σ H1) ∧ ∀ i m σ H, W i m σ H →
  (J.stop i H ∧ D.nx σ H) ∨ (J.go i H ∧ ∃ N : St → Hp → Prop, (∀ σ' H', N σ' H' → ∃ m', m' < m ∧ W (i + 1) m' σ' H') ∧ ∀ x H', J.yld i H x H' → g x σ H' fun σ2 H2 => tb { D with nx := N, ct := N, bk := D.nx } σ2 H2)
/-- the records at fp as they stand -/
def pinsAt (fp : List Addr) (h : Heap) : List (Addr × Obj) := fp.filterMap fun b => (h.get? b).map fun o => (b, o)
theorem mem_pinsAt {fp : List Addr} {h : Heap} {b : Addr} {o : Obj} (hb : b ∈ fp) (e : h.get? b = some o) : (b, o) ∈ pinsAt fp h := List.mem_filterMap.mpr ⟨b, hb, by rw [e]; rfl⟩
theorem of_pinsAt {fp : List Addr} {h : Heap} {p : Addr × Obj} (hp : p ∈ pinsAt fp h) : p.1 ∈ fp ∧ h.get? p.1 = some p.2 := by
  obtain ⟨b, hb, e⟩ := List.mem_filterMap.mp hp
  cases q : h.get? b with
  | none => rw [q] at e; cases e
  | some o =>
    rw [q] at e
    have e' : (b, o) = p := Option.some.inj e
    subst e'
    exact ⟨hb, q⟩
theorem Inv.pinned {pins : List (Addr × Obj)} {σ : St} {H : Hp} {s : Shared} {fp : List Addr} (I : Inv X pins σ H s) (hf : ∀ b ∈ fp, FpOk X pins H b) (ho : ∀ b ∈ fp, ∃ o, s.heap.get? b = some o ∧ ∀ v, o.data ≠ .cell v) : Inv X (pins ++ pinsAt fp s.heap) σ H s :=
  I.pins_of fun p hp => (List.mem_append.mp hp).elim (fun z => I.pin p (List.mem_append_right _ z)) fun z => by
    obtain ⟨hb, e⟩ := of_pinsAt z
    obtain ⟨f0, f1, f2, _⟩ := hf p.1 hb
    obtain ⟨o, e', d⟩ := ho p.1 hb
    rw [e] at e'; cases e'
    exact ⟨e, f0, f1, f2, d⟩
theorem Inv.unpinned {pins pl : List (Addr × Obj)} {σ : St} {H : Hp} {s : Shared} (I : Inv X (pins ++ pl) σ H s) : Inv X pins σ H s := I.pins_of fun p hp => I.pin p (List.mem_append_right _ (List.mem_append_left _ hp))
theorem ps_for {iter : Expr} {body : List Stmt} {wi : TI} {g : TG} {tb : TS} {pos : Pos} (hp : PassesOwn (model X.prog X.w) X.A X.env X.xe) (hc : X.calm = true) (hi : PI X tg iter wi) (hg : PG X tg g) (hb : PSs X body tb)
    (hs : ∀ x, foldedSetIterable iter X.env x = pure x := by intro _; rfl) : PS X (.For tg iter body [] pos) (tFor wi g tb) := by
  intro pins s σ H D I h
  refine wpAny_For (thn (hi pins s σ H _ I h) fun v s1 h1 => thn h1 fun itv s2 h2 => ?_) hs
  obtain ⟨it, fp, tn, J, H2, e, I2, T, st2, f2, W, ⟨m0, w0⟩, turn⟩ := h2
  subst e
  -- what stays true of the iterator's objects through the loop
  have stat : ∀ {H' : Hp}, (∀ b ∈ fp, H' b = none) → ∀ b ∈ fp, FpOk X pins H' b := fun hn b hb => ⟨hn b hb, (f2 b hb).2⟩
  refine codeAny_forLoop_any (fun n s' => ∃ i σ' H', Inv X pins σ' H' s' ∧ tn i s'.heap ∧ (∀ b ∈ fp, H' b = none) ∧ W i n σ' H') ?_ m0 ⟨0, σ, H2, I2, st2, fun b hb => (f2 b hb).1, w0⟩
  rintro n s3 ⟨i, σ3, H3, I3, st3, fr3, w3⟩
  rcases turn i n σ3 H3 w3 with ⟨stop, qn⟩ | ⟨go, N, hN, step⟩
  · refine wpAny_passesOwn hp (thn (T.done X rfl rfl rfl hc i pins s3 σ3 H3 X.xe I3 (stat fr3) st3 stop) fun r s4 ⟨hr, I4⟩ => ?_)
    subst hr
    exact wpAny_execs_nil ⟨σ3, H3, I4, qn⟩
  · refine wpAny_passesOwn hp (thn (T.item X rfl rfl rfl hc i pins s3 σ3 H3 X.xe I3 (stat fr3) st3 go) fun r s4 ⟨u, hr, h4⟩ => ?_)
    subst hr
    refine wpAny_passesOwn hp (thn h4 fun _ s5 ⟨x, H5, I5, r5, y5, st5, fr5⟩ => ?_)
    have I5' := I5.pinned (stat fr5) (T.obj _ _ st5)
    refine wpAny_passesOwn hp (thn (hg _ s5 σ3 H5 x u _ I5' r5 (step x H5 y5)) fun _ s6 ⟨σ6, H6, I6, q6⟩ => ?_)
    refine wpAny_passesOwn hp (thn (hb _ s6 σ6 H6 _ I6 q6) fun f s7 q7 => ?_)
    have again : ∀ {σ7 : St} {H7 : Hp}, Inv X (pins ++ pinsAt fp s5.heap) σ7 H7 s7 → N σ7 H7 → ∃ m, m < n ∧ ∃ i σ' H', Inv X pins σ' H' s7 ∧ tn i s7.heap ∧ (∀ b ∈ fp, H' b = none) ∧ W i m σ' H' := fun {σ7 H7} I7 n7 => by
      obtain ⟨m', hm, w7⟩ := hN σ7 H7 n7
      refine ⟨m', hm, i + 1, σ7, H7, I7.unpinned, T.keep _ _ _ st5 fun b hb o e => (I7.pin (b, o) (List.mem_append_right _ (List.mem_append_right _ (mem_pinsAt hb e)))).1, fun b hb => ?_, w7⟩
      obtain ⟨o, e, d⟩ := T.obj _ _ st5 b hb
      exact (I7.pin (b, o) (List.mem_append_right _ (List.mem_append_right _ (mem_pinsAt hb e)))).2.1
    cases f with
    | next => obtain ⟨σ7, H7, I7, n7⟩ := q7; exact again I7 n7
    | cont => obtain ⟨σ7, H7, I7, n7⟩ := q7; exact again I7 n7
    | brk => obtain ⟨σ7, H7, I7, q7⟩ := q7; exact ⟨σ7, H7, I7.unpinned, q7⟩
    | ret v => obtain ⟨x7, σ7, H7, I7, r7, q7⟩ := q7; exact ⟨x7, σ7, H7, I7.unpinned, r7, q7⟩
end

/-! ### the forms one uses -/
/-- over a list that the body leaves as it is -/
theorem for_list {K : PySem.W.Frag} {a : Addr} {xs : List V} {g : TG} {tb : TS} {D : Ends} {σ : St} {H : Hp} (Pv : Nat → St → Hp → Prop) (h0 : Pv 0 σ H) (hl : ∀ i σ H, i ≤ xs.length → Pv i σ H → SqL K H a xs)
    (hs : ∀ i x σ H, xs[i]? = some x → Pv i σ H → g x σ H fun σ2 H2 => tb { D with nx := Pv (i + 1), ct := Pv (i + 1), bk := D.nx } σ2 H2) (hd : ∀ σ H, Pv xs.length σ H → D.nx σ H) :
    ∃ W : Nat → Nat → St → Hp → Prop, (∃ m, W 0 m σ H) ∧ ∀ i m σ H, W i m σ H →
      ((Itl K a).stop i H ∧ D.nx σ H) ∨ ((Itl K a).go i H ∧ ∃ N : St → Hp → Prop, (∀ σ' H', N σ' H' → ∃ m', m' < m ∧ W (i + 1) m' σ' H') ∧ ∀ x H', (Itl K a).yld i H x H' → g x σ H' fun σ2 H2 => tb { D with nx := N, ct := N, bk := D.nx } σ2 H2) := by
  refine ⟨fun i m σ H => m = xs.length - i ∧ i ≤ xs.length ∧ Pv i σ H, ⟨xs.length, by simp, Nat.zero_le _, h0⟩, ?_⟩
  rintro i m σ H ⟨rfl, hi, p⟩
  have q := hl i σ H hi p
  by_cases hlt : i < xs.length
  · refine .inr ⟨⟨xs, xs[i], q, by simp [hlt]⟩, Pv (i + 1), fun σ' H' p' => ⟨xs.length - (i + 1), by omega, rfl, hlt, p'⟩, fun x H' y => ?_⟩
    obtain ⟨e, y⟩ := y
    subst e
    exact hs i x σ _ (y xs q) p
  · have e : i = xs.length := by omega
    subst e
    exact .inl ⟨⟨xs, q, Nat.le_refl _⟩, hd σ H p⟩
theorem for_range {lo : Int} {n : Nat} {g : TG} {tb : TS} {D : Ends} {σ : St} {H : Hp} (Pv : Nat → St → Hp → Prop) (h0 : Pv 0 σ H)
    (hs : ∀ i σ H, i < n → Pv i σ H → g (.int (lo + i)) σ H fun σ2 H2 => tb { D with nx := Pv (i + 1), ct := Pv (i + 1), bk := D.nx } σ2 H2) (hd : ∀ σ H, Pv n σ H → D.nx σ H) :
    ∃ W : Nat → Nat → St → Hp → Prop, (∃ m, W 0 m σ H) ∧ ∀ i m σ H, W i m σ H →
      ((Itr lo n).stop i H ∧ D.nx σ H) ∨ ((Itr lo n).go i H ∧ ∃ N : St → Hp → Prop, (∀ σ' H', N σ' H' → ∃ m', m' < m ∧ W (i + 1) m' σ' H') ∧ ∀ x H', (Itr lo n).yld i H x H' → g x σ H' fun σ2 H2 => tb { D with nx := N, ct := N, bk := D.nx } σ2 H2) := by
  refine ⟨fun i m σ H => m = n - i ∧ i ≤ n ∧ Pv i σ H, ⟨n, by simp, Nat.zero_le _, h0⟩, ?_⟩
  rintro i m σ H ⟨rfl, hi, p⟩
  by_cases hlt : i < n
  · refine .inr ⟨hlt, Pv (i + 1), fun σ' H' p' => ⟨n - (i + 1), by omega, rfl, hlt, p'⟩, fun x H' y => ?_⟩
    obtain ⟨e, y⟩ := y
    subst e y
    exact hs i σ _ hlt p
  · have e : i = n := by omega
    subst e
    exact .inl ⟨Nat.le_refl _, hd σ H p⟩
end L2

namespace L2
open PySem PySem.Spec PyProof.Rows

abbrev R2 := V → V → Hp → VK → Prop
/-- a two-place operation on values: f is binaryOp op, inplaceOp op or compareOp op -/
def OpR (X : Cx) (f : Value → Value → Sem Value) (r : R2) : Prop :=
  ∀ (pins : List (Addr × Obj)) (s : Shared) (σ : St) (H : Hp) (x y : V) (v u : Value) (Q : VK), Inv X pins σ H s → RelV x v → RelV y u → r x y H Q →
    wpAny (model X.prog X.w) X.A (f v u) (EP X pins σ Q) X.xe s
/-- a one-place operation -/
def UnR (X : Cx) (f : Value → Sem Value) (r : V → Hp → VK → Prop) : Prop :=
  ∀ (pins : List (Addr × Obj)) (s : Shared) (σ : St) (H : Hp) (x : V) (v : Value) (Q : VK), Inv X pins σ H s → RelV x v → r x H Q →
    wpAny (model X.prog X.w) X.A (f v) (EP X pins σ Q) X.xe s
/-- a call of a value that is known (a builtin, a type) with values -/
def CallR (X : Cx) (f : Value) (r : List V → Hp → VK → Prop) : Prop :=
  ∀ (pins : List (Addr × Obj)) (s : Shared) (σ : St) (H : Hp) (xs : List V) (us : List Value) (Q : VK), Inv X pins σ H s → Vals xs us → r xs H Q →
    wpAny (model X.prog X.w) X.A (call f us) (EP X pins σ Q) X.xe s
/-- a value's truth -/
def TruR (X : Cx) (r : V → Hp → (Bool → Hp → Prop) → Prop) : Prop :=
  ∀ (pins : List (Addr × Obj)) (s : Shared) (σ : St) (H : Hp) (x : V) (v : Value) (Q : Bool → Hp → Prop), Inv X pins σ H s → RelV x v → r x H Q →
    wpAny (model X.prog X.w) X.A (truthy v) (TP X pins σ Q) X.xe s

def tOp (r : R2) (ta tb : TE) : TE := fun σ H Q => ta σ H fun x H1 => tb σ H1 fun y H2 => r x y H2 Q
def tUn (r : V → Hp → VK → Prop) (ta : TE) : TE := fun σ H Q => ta σ H fun x H1 => r x H1 Q
/-- ints in, under C, and a value out -/
def rI (C : Int → Int → Prop) (g : Int → Int → V) : R2 := fun x y H Q => ∃ i j, x = .int i ∧ y = .int j ∧ C i j ∧ Q (g i j) H
def rI0 (g : Int → Int → V) : R2 := fun x y H Q => ∃ i j, x = .int i ∧ y = .int j ∧ Q (g i j) H
def rU (g : Int → V) : V → Hp → VK → Prop := fun x H Q => ∃ i, x = .int i ∧ Q (g i) H

section
variable {X : Cx} {a b c : Expr} {ta tb tc : TE} {pos : Pos}

theorem binT (ha : PE X a ta) (hb : PE X b tb) {pins : List (Addr × Obj)} {s : Shared} {σ : St} {H : Hp} {R : V → V → Hp → Prop} (I : Inv X pins σ H s)
    (h : ta σ H fun x H1 => tb σ H1 fun y H2 => R x y H2) {Q : Value → Shared → Prop} {f : Value → Value → Sem Value}
    (hf : ∀ v u s2 x y H2, Inv X pins σ H2 s2 → RelV x v → RelV y u → R x y H2 → wpAny (model X.prog X.w) X.A (f v u) Q X.xe s2) :
    wpAny (model X.prog X.w) X.A (eval a X.env) (fun v s₁ => wpAny (model X.prog X.w) X.A (eval b X.env) (fun u s₂ => wpAny (model X.prog X.w) X.A (f v u) Q X.xe s₂) X.xe s₁) X.xe s := by
  refine thn (ha pins s σ H _ I h) fun v s1 ⟨x, H1, I1, r1, q1⟩ => ?_
  refine thn (hb pins s1 σ H1 _ I1 q1) fun u s2 ⟨y, H2, I2, r2, q2⟩ => ?_
  exact hf v u s2 x y H2 I2 r1 r2 q2

theorem pe_op {op : Operator} {r : R2} (ho : OpR X (binaryOp op) r) (ha : PE X a ta) (hb : PE X b tb) : PE X (.BinOp a op b pos) (tOp r ta tb) := by
  intro pins s σ H Q I h
  exact wpAny_BinOp (binT ha hb I h fun v u s2 x y H2 I2 rx ry q => ho pins s2 σ H2 x y v u Q I2 rx ry q)
/-! ### ints -/
theorem opI {f : Value → Value → Sem Value} {C : Int → Int → Prop} {g : Int → Int → Int}
    (rule : ∀ (i j : Int) (t u : Tok) (s : Shared) (Q : Value → Shared → Prop) (E : Value → Shared → Prop), C i j → Q (.int (g i j) s.toks) { s with toks := s.toks + 1 } → wpAny (model X.prog X.w) X.A (f (.int i t) (.int j u)) Q E s) :
    OpR X f (rI C fun i j => .int (g i j)) := by
  intro pins s σ H x y v u Q I rx ry h
  obtain ⟨i, j, rfl, rfl, hc, q⟩ := h
  obtain ⟨t, rfl⟩ := rx
  obtain ⟨t', rfl⟩ := ry
  exact rule i j t t' s _ _ hc ⟨.int (g i j), H, I.tok _, ⟨_, rfl⟩, q⟩
theorem opI0 {f : Value → Value → Sem Value} {g : Int → Int → Int}
    (rule : ∀ (i j : Int) (t u : Tok) (s : Shared) (Q : Value → Shared → Prop) (E : Value → Shared → Prop), Q (.int (g i j) s.toks) { s with toks := s.toks + 1 } → wpAny (model X.prog X.w) X.A (f (.int i t) (.int j u)) Q E s) :
    OpR X f (rI0 fun i j => .int (g i j)) := by
  intro pins s σ H x y v u Q I rx ry h
  obtain ⟨i, j, rfl, rfl, q⟩ := h
  obtain ⟨t, rfl⟩ := rx
  obtain ⟨t', rfl⟩ := ry
  exact rule i j t t' s _ _ ⟨.int (g i j), H, I.tok _, ⟨_, rfl⟩, q⟩
theorem opB0 {f : Value → Value → Sem Value} {g : Int → Int → Bool}
    (rule : ∀ (i j : Int) (t u : Tok) (s : Shared) (Q : Value → Shared → Prop) (E : Value → Shared → Prop), Q (.bool (g i j)) s → wpAny (model X.prog X.w) X.A (f (.int i t) (.int j u)) Q E s) :
    OpR X f (rI0 fun i j => .bl (g i j)) := by
  intro pins s σ H x y v u Q I rx ry h
  obtain ⟨i, j, rfl, rfl, q⟩ := h
  obtain ⟨t, rfl⟩ := rx
  obtain ⟨t', rfl⟩ := ry
  exact rule i j t t' s _ _ ⟨.bl (g i j), H, I, rfl, q⟩

def CDiv (i j : Int) : Prop := 0 < j ∧ j < 1073741824
def CDivN (i j : Int) : Prop := j ≠ 0 ∧ j.natAbs < 1073741824
def CPow (i j : Int) : Prop := 0 ≤ j ∧ j ≤ 1000000 ∧ i.natAbs < 2 ^ 64
def CMul (i j : Int) : Prop := (-(2 ^ 64) < i ∧ i < 2 ^ 64) ∨ (-(2 ^ 64) < j ∧ j < 2 ^ 64)
theorem CMul.ok {i j : Int} (h : CMul i j) : IntMulOk i j := by
  rcases h with ⟨h1, h2⟩ | ⟨h1, h2⟩
  · exact .of_left (intBits_le_64 h1 h2)
  · exact .of_right (intBits_le_64 h1 h2)
theorem op_add : OpR X (binaryOp .Add) (rI0 fun i j => .int (i + j)) := opI0 fun _ _ _ _ _ _ _ q => add_int q
theorem op_sub : OpR X (binaryOp .Sub) (rI0 fun i j => .int (i - j)) := opI0 fun _ _ _ _ _ _ _ q => sub_int q
theorem op_mul : OpR X (binaryOp .Mult) (rI CMul fun i j => .int (i * j)) := opI fun _ _ _ _ _ _ _ hc q => mul_int q hc.ok
/-- // by a positive divisor -/
theorem op_fdiv : OpR X (binaryOp .FloorDiv) (rI CDiv fun i j => .int (i / j)) := opI fun i j _ _ _ _ _ hc q => by
  have h1 : (0 : Int) < j := hc.1
  have h2 : j < 1073741824 := hc.2
  exact floordiv_int (by omega) (by rw [Int.fdiv_eq_ediv_of_nonneg i (by omega)]; exact q) (.inl (PyProof.noPylong_small (by omega)))
/-- % by a positive divisor of any size -/
theorem op_mod : OpR X (binaryOp .Mod) (rI (fun _ j => 0 < j) fun i j => .int (i % j)) := opI fun i j _ _ _ _ _ hc q => by
  have h1 : (0 : Int) < j := hc
  exact mod_int' (by omega) (by rw [Int.fmod_eq_emod_of_nonneg i (by omega)]; exact q)
theorem op_pow : OpR X (binaryOp .Pow) (rI CPow fun i j => .int (i ^ j.toNat)) := opI fun _ _ _ _ _ _ _ hc q => pow_int_small hc.1 hc.2.1 hc.2.2 q
/-! ### bools among ints: n += (a < b) -/
end

/-! ### comparisons -/
/-- the scalars that == tells apart as data does -/
def scal : V → V → Bool
  | .non, .non => true | .non, .int _ => true | .int _, .non => true | .non, .bl _ => true | .bl _, .non => true | .non, .str _ => true | .str _, .non => true
  | .int _, .int _ => true | .bl _, .bl _ => true | .str _, .str _ => true | .byt _, .byt _ => true
  | .int _, .str _ => true | .str _, .int _ => true | .bl _, .str _ => true | .str _, .bl _ => true
  | _, _ => false
def rEq : R2 := fun x y H Q => scal x y = true ∧ Q (.bl (decide (x = y))) H
def rNe : R2 := fun x y H Q => scal x y = true ∧ Q (.bl (!decide (x = y))) H

theorem dec_int {i j : Int} : decide (V.int i = V.int j) = (i == j) := by
  rw [Bool.eq_iff_iff]
  simp
theorem dec_bl {i j : Bool} : decide (V.bl i = V.bl j) = (i == j) := by
  rw [Bool.eq_iff_iff]
  simp
theorem dec_str {i j : Str} : decide (V.str i = V.str j) = (i == j) := by
  rw [Bool.eq_iff_iff]
  simp
theorem dec_byt {i j : Array UInt8} : decide (V.byt i = V.byt j) = (i.toList == j.toList) := by
  rw [Bool.eq_iff_iff]
  cases i
  cases j
  simp

section
variable {X : Cx} {a b c : Expr} {ta tb tc : TE} {pos : Pos}
theorem fin_bl {pins : List (Addr × Obj)} {σ : St} {H : Hp} {s : Shared} {Q : VK} {k k' : Bool} (I : Inv X pins σ H s) (q : Q (.bl k) H) (e : k = k') : EP X pins σ Q (.bool k') s := by
  subst e
  exact ⟨.bl k, H, I, rfl, q⟩
theorem op_eq : OpR X (compareOp .Eq) rEq := by
  intro pins s σ H x y v u Q I rx ry h
  obtain ⟨hs, q⟩ := h
  cases x with
  | non =>
    cases rx
    cases y with
    | non => cases ry; exact PySem.EqNone.eq_none_none (fin_bl I q (by simp))
    | bl j => cases ry; exact PySem.EqNone.eq_none_bool (fin_bl I q (by simp))
    | int j => obtain ⟨t', rfl⟩ := ry; exact PySem.EqNone.eq_none_int (fin_bl I q (by simp))
    | str j => obtain ⟨t', rfl⟩ := ry; exact PySem.EqNone.eq_none_str (fin_bl I q (by simp))
    | _ => exact absurd (show false = true from hs) Bool.false_ne_true
  | bl i =>
    cases rx
    cases y with
    | non => cases ry; exact PySem.EqNone.eq_bool_none (fin_bl I q (by simp))
    | bl j => cases ry; exact eq_bool (fin_bl I q dec_bl)
    | str j => obtain ⟨t', rfl⟩ := ry; exact PySem.EqMixed.eq_bool_str (fin_bl I q (by simp))
    | _ => exact absurd (show false = true from hs) Bool.false_ne_true
  | int i =>
    obtain ⟨t, rfl⟩ := rx
    cases y with
    | non => cases ry; exact PySem.EqNone.eq_int_none (fin_bl I q (by simp))
    | int j => obtain ⟨t', rfl⟩ := ry; exact eq_int (fin_bl I q dec_int)
    | str j => obtain ⟨t', rfl⟩ := ry; exact PySem.EqMixed.eq_int_str (fin_bl I q (by simp))
    | _ => exact absurd (show false = true from hs) Bool.false_ne_true
  | str i =>
    obtain ⟨t, rfl⟩ := rx
    cases y with
    | non => cases ry; exact PySem.EqNone.eq_str_none (fin_bl I q (by simp))
    | bl j => cases ry; exact PySem.EqMixed.eq_str_bool (fin_bl I q (by simp))
    | int j => obtain ⟨t', rfl⟩ := ry; exact PySem.EqMixed.eq_str_int (fin_bl I q (by simp))
    | str j => obtain ⟨t', rfl⟩ := ry; exact eq_str (fin_bl I q dec_str)
    | _ => exact absurd (show false = true from hs) Bool.false_ne_true
  | byt i =>
    obtain ⟨t, rfl⟩ := rx
    cases y with
    | byt j => obtain ⟨t', rfl⟩ := ry; exact PySem.W.eq_bytes (fin_bl I q dec_byt)
    | _ => exact absurd (show false = true from hs) Bool.false_ne_true
  | _ => cases y <;> exact absurd (show false = true from hs) Bool.false_ne_true
theorem op_ne : OpR X (compareOp .NotEq) rNe := by
  intro pins s σ H x y v u Q I rx ry h
  obtain ⟨hs, q⟩ := h
  cases x with
  | non =>
    cases rx
    cases y with
    | non => cases ry; exact PySem.EqNone.ne_none_none (fin_bl I q (by simp))
    | bl j => cases ry; exact PySem.EqNone.ne_none_bool (fin_bl I q (by simp))
    | int j => obtain ⟨t', rfl⟩ := ry; exact PySem.EqNone.ne_none_int (fin_bl I q (by simp))
    | str j => obtain ⟨t', rfl⟩ := ry; exact PySem.EqNone.ne_none_str (fin_bl I q (by simp))
    | _ => exact absurd (show false = true from hs) Bool.false_ne_true
  | bl i =>
    cases rx
    cases y with
    | non => cases ry; exact PySem.EqNone.ne_bool_none (fin_bl I q (by simp))
    | bl j => cases ry; exact ne_bool (fin_bl I q (congrArg not dec_bl))
    | str j => obtain ⟨t', rfl⟩ := ry; exact PySem.EqMixed.ne_bool_str (fin_bl I q (by simp))
    | _ => exact absurd (show false = true from hs) Bool.false_ne_true
  | int i =>
    obtain ⟨t, rfl⟩ := rx
    cases y with
    | non => cases ry; exact PySem.EqNone.ne_int_none (fin_bl I q (by simp))
    | int j => obtain ⟨t', rfl⟩ := ry; exact ne_int (fin_bl I q (congrArg not dec_int))
    | str j => obtain ⟨t', rfl⟩ := ry; exact PySem.EqMixed.ne_int_str (fin_bl I q (by simp))
    | _ => exact absurd (show false = true from hs) Bool.false_ne_true
  | str i =>
    obtain ⟨t, rfl⟩ := rx
    cases y with
    | non => cases ry; exact PySem.EqNone.ne_str_none (fin_bl I q (by simp))
    | bl j => cases ry; exact PySem.EqMixed.ne_str_bool (fin_bl I q (by simp))
    | int j => obtain ⟨t', rfl⟩ := ry; exact PySem.EqMixed.ne_str_int (fin_bl I q (by simp))
    | str j => obtain ⟨t', rfl⟩ := ry; exact ne_str (fin_bl I q (congrArg not dec_str))
    | _ => exact absurd (show false = true from hs) Bool.false_ne_true
  | byt i =>
    obtain ⟨t, rfl⟩ := rx
    cases y with
    | byt j => obtain ⟨t', rfl⟩ := ry; exact PySem.W.ne_bytes (fin_bl I q (congrArg not dec_byt))
    | _ => exact absurd (show false = true from hs) Bool.false_ne_true
  | _ => cases y <;> exact absurd (show false = true from hs) Bool.false_ne_true

theorem op_lt : OpR X (compareOp .Lt) (rI0 fun i j => .bl (decide (i < j))) := opB0 fun _ _ _ _ _ _ _ q => lt_int q
theorem op_le : OpR X (compareOp .LtE) (rI0 fun i j => .bl (decide (i ≤ j))) := opB0 fun _ _ _ _ _ _ _ q => le_int q
theorem op_gt : OpR X (compareOp .Gt) (rI0 fun i j => .bl (decide (j < i))) := opB0 fun _ _ _ _ _ _ _ q => gt_int q
theorem op_ge : OpR X (compareOp .GtE) (rI0 fun i j => .bl (decide (j ≤ i))) := opB0 fun _ _ _ _ _ _ _ q => ge_int q
/-- is, is not of two objects that are tracked lists or instances -/
def isObj : HO → Bool
  | .lst _ => true
  | .ins _ _ _ => true
  | _ => false
/-- two rules for one operation: by cases -/
theorem OpR.or {f : Value → Value → Sem Value} {r r' : R2} (h : OpR X f r) (h' : OpR X f r') : OpR X f (fun x y H Q => r x y H Q ∨ r' x y H Q) := by
  intro pins s σ H x y v u Q I rx ry q
  rcases q with q | q
  · exact h pins s σ H x y v u Q I rx ry q
  · exact h' pins s σ H x y v u Q I rx ry q

theorem nomark (b : Expr) {op : CmpOp} (h : op ≠ .In := by decide) (h2 : op ≠ .NotIn := by decide) : behindInMarks op b = false := by
  have e1 : (op == CmpOp.In) = false := by cases op <;> first | rfl | exact absurd rfl h
  have e2 : (op == CmpOp.NotIn) = false := by cases op <;> first | rfl | exact absurd rfl h2
  cases b <;> simp [behindInMarks, e1, e2]
/-- a comparison as a value; hm: nomark b, or (for in, not in) by with_unfolding_all rfl -/
theorem pe_cmpR {op : CmpOp} {r : R2} (ho : OpR X (compareOp op) r) (ha : PE X a ta) (hb : PE X b tb) (hm : behindInMarks op b = false) : PE X (.Compare a [op] [b] pos) (tOp r ta tb) := by
  intro pins s σ H Q I h
  exact wpAny_Compare1 (binT ha hb I h fun v u s2 x y H2 I2 rx ry q => ho pins s2 σ H2 x y v u Q I2 rx ry q) hm
/-- a reading of a value as a test -/
def tTest (t : TE) : TT := fun σ H Q => t σ H fun x H' => ∃ k, x = .bl k ∧ Q k H'
theorem pt_cmpR {op : CmpOp} {r : R2} (ho : OpR X (compareOp op) r) (ha : PE X a ta) (hb : PE X b tb) (hm : behindInMarks op b = false) : PT X (.Compare a [op] [b] pos) (tTest (tOp r ta tb)) := by
  intro pins s σ H Q I h
  refine wpAny_isTrue_Compare1 (thn (ha pins s σ H _ I h) fun v s1 ⟨x, H1, I1, r1, q1⟩ => thn (hb pins s1 σ H1 _ I1 q1) fun u s2 ⟨y, H2, I2, r2, q2⟩ =>
    thn (ho pins s2 σ H2 x y v u _ I2 r1 r2 q2) fun c s3 ⟨z, H3, I3, r3, k, e, q3⟩ => ?_) hm
  subst e
  cases r3
  exact wpAny_truthy_bool ⟨H3, I3, q3⟩
/-- a op1 b op2 c -/
def tChain (r r' : R2) (ta tb tc : TE) : TE := fun σ H Q => ta σ H fun x H1 => tb σ H1 fun y H2 => r x y H2 fun z H3 => ∃ k, z = .bl k ∧
  (if k = true then tc σ H3 fun w' H4 => r' y w' H4 Q else Q (.bl false) H3)
theorem pe_chain {op op' : CmpOp} {r r' : R2} (ho : OpR X (compareOp op) r) (ho' : OpR X (compareOp op') r') (ha : PE X a ta) (hb : PE X b tb) (hc : PE X c tc)
    (hm : lastMarks [op, op'] [b, c] = false := by with_unfolding_all rfl) : PE X (.Compare a [op, op'] [b, c] pos) (tChain r r' ta tb tc) := by
  intro pins s σ H Q I h
  refine Compare_chain (thn (ha pins s σ H _ I h) fun v s1 ⟨x, H1, I1, r1, q1⟩ => chain_link (thn (hb pins s1 σ H1 _ I1 q1) fun u s2 ⟨y, H2, I2, r2, q2⟩ =>
    thn (ho pins s2 σ H2 x y v u _ I2 r1 r2 q2) fun d s3 ⟨z, H3, I3, r3, k, e, q3⟩ => ?_)) hm
  subst e
  cases r3
  refine wpAny_truthy_bool ?_
  cases k with
  | false => exact ite_ff ⟨.bl false, H3, I3, rfl, q3⟩
  | true => exact ite_tt (chain_last (thn (hc pins s3 σ H3 _ I3 q3) fun w' s4 ⟨z', H4, I4, r4, q4⟩ => ho' pins s4 σ H4 y z' u w' Q I4 r2 r4 q4))
/-! ### truth -/
/-- a value's truth by the abstract heap -/
def TruV (K : PySem.W.Frag) (x : V) (H : Hp) (k : Bool) : Prop :=
  match x with
  | .non => k = false
  | .bl b => k = b
  | .int i => k = (i != 0)
  | .str y => y.length ≤ sizeLine ∧ k = ((y.length : Int) != 0)
  | .byt y => y.size ≤ sizeLine ∧ k = ((y.size : Int) != 0)
  | .ref p => (∃ xs, SqL K H p xs ∧ k = !xs.isEmpty) ∨ (∃ xs, SqT K H p xs ∧ k = !xs.isEmpty) ∨ ∃ kvs, H p = some (.dK kvs) ∧ k = !kvs.isEmpty
  | _ => False
theorem line63 : (sizeLine : Nat) < 2 ^ 63 := by rw [sizeLine_eq]; decide
/-! ### strs and bytes -/
def PlainIxT (b : Expr) : Prop := ∀ o i, subscripted b false o i = operate [o, i] (getItem o i)
/-! ### scalar builtins, by CallR -/
theorem vals1 {x : V} {us : List Value} (r : Vals [x] us) : ∃ u, us = [u] ∧ RelV x u := by
  cases r with
  | cons r1 r2 => cases r2; exact ⟨_, rfl, r1⟩
theorem vals2 {x y : V} {us : List Value} (r : Vals [x, y] us) : ∃ u w', us = [u, w'] ∧ RelV x u ∧ RelV y w' := by
  cases r with
  | cons r1 r2 =>
    cases r2 with
    | cons r3 r4 => cases r4; exact ⟨_, _, rfl, r1, r3⟩
theorem call_max2 (hc : X.calm = true) : CallR X (.builtin "max") (fun xs H Q => ∃ i j, xs = [.int i, .int j] ∧ Q (.int (if j > i then j else i)) H) := by
  intro pins s σ H xs us Q I r h
  obtain ⟨i, j, rfl, q⟩ := h
  obtain ⟨u, w', rfl, ⟨t, rfl⟩, ⟨t', rfl⟩⟩ := vals2 r
  refine max_two_ints (I.ok.hd hc) fun h' tk k => ⟨_, H, I.kept k, ?_, q⟩
  by_cases hj : j > i
  · rw [if_pos hj, if_pos hj]; exact ⟨_, rfl⟩
  · rw [if_neg hj, if_neg hj]; exact ⟨_, rfl⟩
theorem call_min2 (hc : X.calm = true) : CallR X (.builtin "min") (fun xs H Q => ∃ i j, xs = [.int i, .int j] ∧ Q (.int (if j < i then j else i)) H) := by
  intro pins s σ H xs us Q I r h
  obtain ⟨i, j, rfl, q⟩ := h
  obtain ⟨u, w', rfl, ⟨t, rfl⟩, ⟨t', rfl⟩⟩ := vals2 r
  refine min_two_ints (I.ok.hd hc) fun h' tk k => ⟨_, H, I.kept k, ?_, q⟩
  by_cases hj : j < i
  · rw [if_pos hj, if_pos hj]; exact ⟨_, rfl⟩
  · rw [if_neg hj, if_neg hj]; exact ⟨_, rfl⟩
/-- len of a str, a bytes, a list, a tuple -/
def LenV (K : PySem.W.Frag) (x : V) (H : Hp) (n : Nat) : Prop :=
  match x with
  | .str y => y.length ≤ sizeLine ∧ n = y.length
  | .byt y => y.size ≤ sizeLine ∧ n = y.size
  | .ref p => (∃ xs, SqL K H p xs ∧ n = xs.length) ∨ ∃ xs, SqT K H p xs ∧ n = xs.length
  | _ => False
end
end L2

namespace L2
open PySem PySem.Spec PyProof.Rows

/-! ### an instance, its attributes a map -/
structure ObjM (h : Heap) (x dx C : Addr) (mA : Str → Option Value) : Prop where
  obj : h.get? x = some (PySem.W.instObj C dx)
  ns : h.Ns1 dx mA
  ne : dx ≠ x

theorem lookIn_ns {h : Heap} {dx : Addr} {mA : Str → Option Value} (n : h.Ns1 dx mA) : ∃ od, h.get? dx = some od ∧ ∀ name, PySem.W.lookIn name od = some (mA name) := by
  obtain ⟨o, es, ep, ho, hd, hk, _, hm⟩ := n
  refine ⟨o, ho, fun name => ?_⟩
  have e := hm name
  unfold nsFind findBy at e
  rw [← Array.find?_toList] at e
  unfold PySem.W.lookIn
  rw [hd]
  dsimp only
  split
  · rename_i y q
    rw [q] at e
    exact congrArg some e
  · rename_i q
    rw [q] at e
    have a : es.toList.any (·.refKey) = false := by
      rw [List.any_eq_false]
      intro y hy
      obtain ⟨z, t, hkey⟩ := hk y (Array.mem_toList_iff.mp hy)
      simp [DictEntry.refKey, hkey]
    have a' : ¬ es.toList.any (·.refKey) = true := by rw [a]; exact Bool.false_ne_true
    rw [if_neg a']
    exact congrArg some e

theorem ObjM.look {h : Heap} {x dx C : Addr} {mA : Str → Option Value} (I : ObjM h x dx C mA) : ∃ od, PySem.W.InstAt h x (PySem.W.instObj C dx) C (some od) ∧ ∀ name, PySem.W.lookIn name od = some (mA name) :=
  let ⟨od, ho, hl⟩ := lookIn_ns I.ns
  ⟨od, ⟨I.obj, rfl, rfl, ho⟩, hl⟩

section
variable {prog : Program} {w : World} {A : Around} {E : Value → Shared → Prop} {s : Shared} {K : PySem.W.Frag} {x dx C f : Addr} {mA : Str → Option Value} {name : Str} {v : Value}

end

/-! ### the attributes as a list of pairs -/
def putF (f : Str) (v : V) : List (Str × V) → List (Str × V)
  | [] => [(f, v)]
  | (g, x) :: r => if g = f then (g, v) :: r else (g, x) :: putF f v r
section
variable {P : Program} {w : World} {H H' : Hp} {h h' : Heap} {a C dx : Addr} {fs fs' : List (Str × V)}
theorem ins_get (hok : HOk P w H h) (e : H a = some (.ins C dx fs)) : ∃ mA, ObjM h a dx C mA ∧ (∀ f, RelO (fs.lookup f) (mA f)) ∧ PySem.Within mA (fs.map (·.1)) ∧ fs.length ≤ 1000 ∧ H dx = some (.own a) := by
  obtain ⟨d, z, ne, ob, mA, n, r, q⟩ := (show ObjOk P w H h a (.ins C dx fs) from hok a _ e)
  exact ⟨mA, ⟨ob, n, ne⟩, r, q, z, d⟩
end

/-! ### what of the text a class must have -/
structure Cls (K : PySem.W.Frag) (C : Addr) : Prop where
  pg : PySem.W.plainGet K C Str.empty = true
  hd : PySem.W.hasDictIn K C = true
  po : PySem.W.plainOver K C = true
  sa : PySem.W.findIn K (.ref C) "__setattr__" = some (some (.builtin "object.__setattr__"))
theorem Cls.get {K : PySem.W.Frag} {C : Addr} (c : Cls K C) (f : Str) : PySem.W.plainGet K C f = true := c.pg
/-- no class of it has the name -/
def NoAttr (K : PySem.W.Frag) (C : Addr) (f : Str) : Prop := PySem.W.findIn K (.ref C) f = some none
/-- a constant of the class -/
structure Con (K : PySem.W.Frag) (C : Addr) (f : Str) (v : V) (u : Value) : Prop where
  at_ : PySem.W.findIn K (.ref C) f = some (some u)
  rel : RelV v u
  get : PySem.W.specialIn K u "__get__" = some none
  cp : PySem.W.copiedNames.contains f = false
/-- a method: a plain def of the class or of one above it -/
structure Meth (K : PySem.W.Frag) (C : Addr) (m : Str) (f : Addr) : Prop where
  at_ : PySem.W.findIn K (.ref C) m = some (some (.ref f))
  fn : PySem.W.isFn K (.ref f) = true
  kp : PySem.W.keepIn K (.ref f) = true

section
variable {X : Cx} {pins : List (Addr × Obj)} {σ : St} {H : Hp} {s : Shared} {a C dx : Addr} {fs : List (Str × V)} {f : Str} {v : V} {A : Around} {E : Value → Shared → Prop}

end

/-! ### readings and rules -/
/-- e.f, an attribute of the instance -/
def tFld (K : PySem.W.Frag) (ta : TE) (f : Str) : TE := fun σ H Q => ta σ H fun x H1 => ∃ a C dx fs v, x = .ref a ∧ H1 a = some (.ins C dx fs) ∧ Cls K C ∧ NoAttr K C f ∧ fs.lookup f = some v ∧ Q v H1
/-- e.f, a constant of the class -/
def tCon (K : PySem.W.Frag) (ta : TE) (f : Str) : TE := fun σ H Q => ta σ H fun x H1 => ∃ a C dx fs v u, x = .ref a ∧ H1 a = some (.ins C dx fs) ∧ Cls K C ∧ Con K C f v u ∧ fs.lookup f = none ∧ Q v H1
/-- e.f = value -/
def sFld (K : PySem.W.Frag) (ta tv : TE) (f : Str) : TS := fun D σ H => tv σ H fun y H1 => ta σ H1 fun x H2 => ∃ a C dx fs, x = .ref a ∧ H2 a = some (.ins C dx fs) ∧ Cls K C ∧ NoAttr K C f ∧ fs.length < 1000 ∧
  D.nx σ (upd H2 a (.ins C dx (putF f y fs)))
/-- an augmented operator on two values -/
def InOp (X : Cx) (op : Operator) (rd : V → V → Hp → VK → Prop) : Prop :=
  ∀ (pins : List (Addr × Obj)) (s : Shared) (σ : St) (H : Hp) (x y : V) (u v : Value) (Q : VK), Inv X pins σ H s → RelV x u → RelV y v → rd x y H Q → wpAny (model X.prog X.w) X.A (inplaceOp op u v) (EP X pins σ Q) X.xe s
/-- e.f op= value -/
def sFldAug (K : PySem.W.Frag) (ta tv : TE) (rd : V → V → Hp → VK → Prop) (f : Str) : TS := fun D σ H => ta σ H fun x H1 => ∃ a C dx fs v, x = .ref a ∧ H1 a = some (.ins C dx fs) ∧ Cls K C ∧ NoAttr K C f ∧ fs.lookup f = some v ∧
  tv σ H1 fun y H2 => rd v y H2 fun z H3 => ∃ dx' fs', H3 a = some (.ins C dx' fs') ∧ fs'.length < 1000 ∧ D.nx σ (upd H3 a (.ins C dx' (putF f z fs')))

section
variable {X : Cx} {o e value : Expr} {f : Str} {pos pos' tpos : Pos} {ta tv : TE}
def rAdd : V → V → Hp → VK → Prop := fun x y H Q => ∃ i j, x = .int i ∧ y = .int j ∧ Q (.int (i + j)) H
def rSub : V → V → Hp → VK → Prop := fun x y H Q => ∃ i j, x = .int i ∧ y = .int j ∧ Q (.int (i - j)) H
end

/-! ### isinstance -/
section
variable {X : Cx} {pins : List (Addr × Obj)} {σ : St} {H : Hp} {s : Shared} {A : Around} {E : Value → Shared → Prop} {Q : Value → Shared → Prop} {c : Value} {b : Bool}
/-- the type of a value, as the fragment's deciders take it; for an instance its class -/
inductive TyOf (K : PySem.W.Frag) (H : Hp) : V → Value → Prop where
  | non : TyOf K H .non (.type "NoneType")
  | bl (x : Bool) : TyOf K H (.bl x) (.type "bool")
  | int (i : Int) : TyOf K H (.int i) (.type "int")
  | str (x : Str) : TyOf K H (.str x) (.type "str")
  | flt (x : UInt64) : TyOf K H (.flt x) (.type "float")
  | lst {a : Addr} {xs : List V} (e : H a = some (.lst xs)) : TyOf K H (.ref a) (.type "list")
  | frz {a : Addr} {o : Obj} {xs : List V} (e : H a = some (.frz o (.lst xs))) : TyOf K H (.ref a) (.type "list")
  | tup {a : Addr} {xs : List V} (e : H a = some (.tup xs)) : TyOf K H (.ref a) (.type "tuple")
  | dK {a : Addr} {kvs : List (Key × V)} (e : H a = some (.dK kvs)) : TyOf K H (.ref a) (.type "dict")
  | dT {a : Addr} {kvs : List (List Key × V)} (e : H a = some (.dT kvs)) : TyOf K H (.ref a) (.type "dict")
  | ins {a C dx : Addr} {fs : List (Str × V)} (e : H a = some (.ins C dx fs)) (cl : Cls K C) (ha : PySem.W.findIn K (.ref C) "__class__" = some (some (.builtin "object.__class__")))
      (hn : PySem.W.specialIn K (.builtin "object.__class__") "__get__" = some (some (.builtin "getset_descriptor.__get__"))) (htk : PySem.W.takesIn K (.builtin "object.__class__") = some true)
      (hm : PySem.W.mroIn K C (.type "object") = some true) : TyOf K H (.ref a) (.ref C)
/-- isinstance(x, c) for one class c, a built-in or an own one: kitOne's answer -/
theorem isinst_ok {x : V} {u t : Value} (I : Inv X pins σ H s) (rx : RelV x u) (ty : TyOf X.K H x t) (e : PySem.W.kitOne X.K t c = some b) (h : ∀ tk, Q (.bool b) { s with toks := tk }) :
    wpAny (model X.prog X.w) A (call (.builtin "isinstance") [u, c]) Q E s := by
  cases ty with
  | non => cases (show u = Value.none from rx); exact PySem.W.kia_one PySem.W.kitx_none I.kIn True.intro e (fun z => nomatch z) h
  | bl y => cases (show u = Value.bool y from rx); exact PySem.W.kia_one PySem.W.kitx_bool I.kIn True.intro e (fun z => nomatch z) h
  | int i => obtain ⟨t, q⟩ := (show ∃ t, u = Value.int i t from rx); cases q; exact PySem.W.kia_one PySem.W.kitx_int I.kIn True.intro e (fun z => nomatch z) h
  | str y => obtain ⟨t, q⟩ := (show ∃ t, u = Value.str y t from rx); cases q; exact PySem.W.kia_one PySem.W.kitx_str I.kIn True.intro e (fun z => nomatch z) h
  | flt y => obtain ⟨t, q⟩ := (show ∃ t, u = Value.float y t from rx); cases q; exact PySem.W.kia_one PySem.W.kitx_float I.kIn True.intro e (fun z => nomatch z) h
  | @lst a xs ea =>
    cases (show u = Value.ref a from rx)
    obtain ⟨_, _, n, _, h1⟩ := (show ObjOk X.prog X.w H s.heap a (.lst xs) from I.hok a _ ea)
    exact PySem.W.kia_one PySem.W.kitx_list I.kIn ⟨_, h1, rfl⟩ e (fun z => nomatch z) h
  | @frz a ob xs ea =>
    cases (show u = Value.ref a from rx)
    obtain ⟨_, _, _, n, _, h1⟩ := (show ObjOk X.prog X.w H s.heap a (.frz ob (.lst xs)) from I.hok a _ ea)
    exact PySem.W.kia_one PySem.W.kitx_list I.kIn ⟨_, h1, rfl⟩ e (fun z => nomatch z) h
  | @tup a xs ea =>
    cases (show u = Value.ref a from rx)
    obtain ⟨_, _, _, p, _⟩ := (show ObjOk X.prog X.w H s.heap a (.tup xs) from I.hok a _ ea)
    obtain ⟨o, h1, h2, _⟩ := p
    exact PySem.W.kia_one PySem.W.kitx_tuple I.kIn ⟨o, h1, h2⟩ e (fun z => nomatch z) h
  | @dK a kvs ea =>
    cases (show u = Value.ref a from rx)
    obtain ⟨_, _, vs, _, p⟩ := (show ObjOk X.prog X.w H s.heap a (.dK kvs) from I.hok a _ ea)
    obtain ⟨o, es, ep, h1, h2, _⟩ := p
    exact PySem.W.kia_one PySem.W.kitx_dict I.kIn ⟨o, h1, h2.1⟩ e (fun z => nomatch z) h
  | @dT a kvs ea =>
    cases (show u = Value.ref a from rx)
    obtain ⟨_, _, xs, _, o, es, ep, h1, h2, _⟩ := (show ObjOk X.prog X.w H s.heap a (.dT kvs) from I.hok a _ ea)
    exact PySem.W.kia_one PySem.W.kitx_dict I.kIn ⟨o, h1, h2.1⟩ e (fun z => nomatch z) h
  | @ins a C dx fs ea cl ha hn htk hm =>
    cases (show u = Value.ref a from rx)
    obtain ⟨mA, O, _⟩ := ins_get I.hok ea
    obtain ⟨od, J, _⟩ := O.look
    exact PySem.W.kia_one (PySem.W.kitx_own (cl.get _) cl.hd ha hn htk hm) I.kIn J e (fun z => nomatch z) h
end
end L2

namespace L2
open PySem PySem.Spec PyProof.Rows

/-! ### room -/
structure Room (k : Nat) (A : Around) : Prop where
  hd : A.handled = none
  dp : A.depth + 3 * k + 5 < recursionLimit
  un : A.units + 16 * k + 200 < cLine
  gd : A.guards = some []
theorem Room.mono {j k : Nat} {A : Around} (r : Room k A) (h : j ≤ k) : Room j A := ⟨r.hd, by have := r.dp; omega, by have := r.un; omega, r.gd⟩
theorem Room.deeper {k : Nat} {A : Around} (r : Room (k + 1) A) (env : Env) : Room k (A.deeper env) :=
  ⟨r.hd, by have := r.dp; show A.depth + 1 + 3 * k + 5 < _; omega, by have := r.un; show A.units + 3 + 16 * k + 200 < _; omega, r.gd⟩
theorem Room.depth {k : Nat} {A : Around} (r : Room k A) : A.depth < recursionLimit := by have := r.dp; omega
theorem Room.units {k : Nat} {A : Around} (r : Room k A) : A.units + 64 < cLine := by have := r.un; omega
theorem Room.units0 {k : Nat} {A : Around} (r : Room k A) : A.units < cLine := by have := r.un; omega

/-! ### argument lists and displays -/
def tNil : TA := fun _ H Q => Q [] H
def tCons (ta : TE) (tr : TA) : TA := fun σ H Q => ta σ H fun x H1 => tr σ H1 fun xs H2 => Q (x :: xs) H2
section
variable {X : Cx} {e : Expr} {es : List Expr} {te : TE} {t : TA} {pos : Pos}
theorem pa_nil : PA X [] tNil := fun _ _ _ _ H Q I h => Calls.spliced_nil ⟨[], H, I, .nil, h⟩
theorem pa_cons (ha : PE X e te) (hr : PA X es t) (hs : starEach (e :: es) X.env = (false, eval e X.env) :: starEach es X.env := by rfl) : PA X (e :: es) (tCons te t) := by
  intro pos pins s σ H Q I h
  rw [hs]
  show wpAny _ _ (spliced ((false, eval e X.env) :: backTo pos (starEach es X.env))) _ _ s
  refine Calls.spliced_cons (thn (ha pins s σ H _ I h) fun u s1 ⟨x, H1, I1, r1, q1⟩ => ?_)
  exact thn (hr pos pins s1 σ H1 _ I1 q1) fun us s2 ⟨xs, H2, I2, r2, q2⟩ => ⟨x :: xs, H2, I2, .cons r1 r2, q2⟩

/-- a tuple, a list of written items -/
def tTup (t : TA) : TE := fun σ H Q => t σ H fun xs H1 => xs.length ≤ sizeLine ∧ ∀ p, H1 p = none → Q (.ref p) (upd H1 p (.tup xs))
def tLst (t : TA) : TE := fun σ H Q => t σ H fun xs H1 => xs.length ≤ sizeLine ∧ ∀ p, H1 p = none → Q (.ref p) (upd H1 p (.lst xs))
theorem pe_tup {x1} (h : PA X es t) : PE X (.Tuple es x1 pos) (tTup t) := by
  intro pins s σ H Q I hq
  refine wpAny_Tuple_spliced (thn (h pos pins s σ H _ I hq) fun us s1 ⟨xs, H1, I1, r, z, q⟩ => ⟨by rw [← r.length]; exact z, ?_⟩)
  have hf : H1 s1.heap.objs.size = none := I1.hok.fresh (Nat.le_refl _)
  refine ⟨.ref s1.heap.objs.size, upd H1 s1.heap.objs.size (.tup xs), I1.laid (t' := s1.toks) (fun b u e => Heap.get?_push_of_some _ e) (Nat.le_refl _) ?_, rfl, q _ hf⟩
  exact ⟨z, us, r, ⟨_, Heap.get?_push_size _ rfl, rfl, _, rfl⟩, _, Heap.get?_push_size _ rfl, rfl⟩
theorem pe_lst (h : PA X es t) : PE X (.List es pos) (tLst t) := by
  intro pins s σ H Q I hq
  refine wpAny_List_spliced (thn (h pos pins s σ H _ I hq) fun us s1 ⟨xs, H1, I1, r, z, q⟩ => ⟨by rw [← r.length]; exact z, ?_⟩)
  have hf : H1 s1.heap.objs.size = none := I1.hok.fresh (Nat.le_refl _)
  refine ⟨.ref s1.heap.objs.size, upd H1 s1.heap.objs.size (.lst xs), I1.laid (t' := s1.toks) (fun b u e => Heap.get?_push_of_some _ e) (Nat.le_refl _) ?_, rfl, q _ hf⟩
  exact ⟨z, us, 0, r, Heap.get?_push_size _ rfl⟩
end

/-! ### what a def promises -/
/-- a def's promise: the bound arguments in the parameters' order, the heap, the wanted end, the wanted exception -/
abbrev Sp := List V → Hp → VK → XK → Prop
/-- how an exception lies behind a call (file 08 gives it): the callers' frames, abstract heap and state ahead of the call, the wish, the exception, the state -/
abbrev CXT := List Env → Hp → Shared → XK → Value → Shared → Prop

/-- the state at a call -/
structure Env0 (P : Program) (w : World) (K : PySem.W.Frag) (mg : Str → Option Value) (base : Heap) (A : Around) (outer : List Env) (s : Shared) (H : Hp) : Prop where
  frames : A.frames = some outer
  mod : Mod K mg base
  bs : ∀ b o, base.get? b = some o → s.heap.get? b = some o ∧ H b = none
  bsz : base.objs.size ≤ s.heap.objs.size
  funs : s.heap.FunFrames base outer
  frf : ∀ b ∈ frs outer, H b = none
  hok : HOk P w H s.heap
  bare : AllBare s.gens
/-- a call's end -/
def CE (outer : List Env) (P : Program) (w : World) (H : Hp) (s : Shared) (Q : VK) (u : Value) (s' : Shared) : Prop :=
  ∃ v H', s'.os = s.os ∧ AllBare s'.gens ∧ Un (frs outer) [] H H' s.heap s'.heap ∧ HOk P w H' s'.heap ∧ RelV v u ∧ Q v H'
def CR (CX : CXT) (outer : List Env) (P : Program) (w : World) (H : Hp) (s : Shared) (Q : VK) (E : XK) (r : Result) (s' : Shared) : Prop :=
  match r with
  | .ok (.ret u) => CE outer P w H s Q u s'
  | .ok _ => False
  | .error e => CX outer H s E e s'
structure FnOk (P : Program) (w : World) (K : PySem.W.Frag) (mg : Str → Option Value) (base : Heap) (CX : CXT) (k : Nat) (f : Addr) (fd : FuncData) (ps : List Str) (sp : Sp) : Prop where
  len : ∀ vs H Q E, sp vs H Q E → vs.length = ps.length
  run : ∀ (A : Around) (outer : List Env) (s : Shared) (H : Hp) (args : Args) (us : List Value) (vs : List V) (Q : VK) (E : XK), Room k A → Env0 P w K mg base A outer s H → BindsTo s fd args (ps.zip us) → Vals vs us → sp vs H Q E →
    codeAny (model P w) A (.call (.ref f) args) (CR CX outer P w H s Q E) s
section
variable {X : Cx} {pins : List (Addr × Obj)} {σ : St} {H : Hp} {s s' : Shared}
/-- from a body: what a callee wants -/
theorem Inv.env0 (I : Inv X pins σ H s) : Env0 X.prog X.w X.K X.mg X.base X.A X.stack s H :=
  ⟨I.ok.frames, I.ok.mod, I.bs, Nat.le_trans I.ok.bsz I.sz, I.stack, I.stkFree, I.hok, I.bare⟩
/-- behind a call -/
theorem Inv.after {Q : VK} {u : Value} (I : Inv X pins σ H s) (h : CE X.stack X.prog X.w H s Q u s') : EP X pins σ Q u s' := by
  obtain ⟨v, H', os, bare, un, hok, r, q⟩ := h
  obtain ⟨hh, g, d, t, os'⟩ := s'
  obtain rfl : os' = s.os := os
  exact ⟨v, H', I.call (h' := hh) (g' := g) (d' := d) (t' := t) (ch := []) un hok bare (fun b z => absurd z (by simp)), r, q⟩
end

/-! ### calls -/
/-- f(..): the written arguments, then the defaults dvs; E: what is wanted of an exception -/
def tCall (sp : Sp) (dvs : List V) (E : XK) (t : TA) : TE := fun σ H Q => t σ H fun vs H1 => sp (vs ++ dvs) H1 Q E
/-- o.m(..) of an instance of the class at C -/
def tMeth (C : Addr) (m : Str) (sp : Sp) (dvs : List V) (E : XK) (ta : TE) (t : TA) : TE := fun σ H Q => ta σ H fun x H1 => ∃ a dx fs, x = .ref a ∧ H1 a = some (.ins C dx fs) ∧ fs.lookup m = none ∧
  t σ H1 fun vs H2 => sp (x :: (vs ++ dvs)) H2 Q E
/-- C(..): a new instance and its dict, then __init__ -/
def tMake (C : Addr) (sp : Sp) (dvs : List V) (E : XK) (t : TA) : TE := fun σ H Q => t σ H fun vs H1 => ∀ x dx, H1 x = none → H1 dx = none → dx ≠ x →
  sp (.ref x :: (vs ++ dvs)) (upd (upd H1 dx (.own x)) x (.ins C dx [])) (fun v H2 => v = .non ∧ Q (.ref x) H2) E

/-- how the parameters are bound: us the positional arguments, kw the keywords' values by name, ds the defaults that fill up -/
def Binds (K : PySem.W.Frag) (fd : FuncData) (ps : List Str) (ds : List Value) : Prop :=
  ∀ (s : Shared) (us : List Value), K.In s.heap → (us ++ ds).length = ps.length → BindsTo s fd ⟨us, []⟩ (ps.zip (us ++ ds))
/-- every parameter is given -/
theorem Binds.all {K : PySem.W.Frag} {fd : FuncData} {ps : List Str} (h : ∀ us : List Value, us.length = ps.length → bindArgs fd ⟨us, []⟩ = pure (ps.zip us)) : Binds K fd ps [] := fun s us _ hl => by
  rw [List.append_nil] at hl ⊢
  exact .of_eq (h us hl)

/-- an exception of a callee reaches what this body wants of exceptions -/
def Passes (CX : CXT) (X : Cx) (E : XK) : Prop := ∀ (pins : List (Addr × Obj)) (σ : St) (H : Hp) (s : Shared) (e : Value) (s' : Shared), Inv X pins σ H s → CX X.stack H s E e s' → X.xe e s'

section
variable {X : Cx} {CX : CXT} {k : Nat} {f C : Addr} {fd : FuncData} {ps : List Str} {sp : Sp} {dvs : List V} {ds : List Value} {E : XK} {x m : Str} {p pos apos : Pos} {e o : Expr} {es : List Expr} {ta : TE} {t : TA}

/-- the callee runs -/
theorem run_fn {pins : List (Addr × Obj)} {σ : St} {H : Hp} {s : Shared} {Q : VK} {us : List Value} {vs : List V} (F : FnOk X.prog X.w X.K X.mg X.base CX k f fd ps sp) (hr : Room k X.A) (hb : Binds X.K fd ps ds) (hd : Vals dvs ds) (hx : Passes CX X E)
    (I : Inv X pins σ H s) (r : Vals vs us) (h : sp (vs ++ dvs) H Q E) : wpAny (model X.prog X.w) X.A (call (.ref f) us) (EP X pins σ Q) X.xe s := by
  have r2 : Vals (vs ++ dvs) (us ++ ds) := r.append hd
  have hl : (us ++ ds).length = ps.length := by rw [← r2.length]; exact F.len _ _ _ _ h
  refine wpAny_call (codeAny_mono (F.run X.A X.stack s H ⟨us, []⟩ (us ++ ds) (vs ++ dvs) Q E hr I.env0 (hb s us I.kIn hl) r2 h) fun r s' hq => ?_)
  cases r with
  | error e => exact hx pins σ H s e s' I hq
  | ok fl =>
    cases fl with
    | ret u => exact I.after hq
    | next => exact False.elim hq
    | brk => exact False.elim hq
    | cont => exact False.elim hq

theorem pe_call (F : FnOk X.prog X.w X.K X.mg X.base CX k f fd ps sp) (hr : Room k X.A) (hg : Gl X x) (hm : X.mg x = some (.ref f)) (hk : PySem.W.keepIn X.K (.ref f) = true) (hb : Binds X.K fd ps ds) (hd : Vals dvs ds) (hx : Passes CX X E)
    (ha : PA X (e :: es) t) (hdb : (x == ("__debug__" : Str)) = false := by decide) (he : starEach (e :: es) X.env = (false, eval e X.env) :: starEach es X.env := by rfl) (hpl : (backTo pos (starEach es X.env)).any (·.1) = false := by rfl) :
    PE X (.Call (.Name x p) (e :: es) [] pos) (tCall sp dvs E t) := by
  intro pins s σ H Q I h
  refine wpAny_Call_Name_kw (ld_glob I hg hm ?_ hdb)
  refine PySem.W.callWith_K (h₀ := X.base) I.ok.mod.kin hk (thn (ha pos pins s σ H _ I h) fun us s1 ⟨vs, H1, I1, r, q⟩ => ⟨I1.kIn, ?_⟩) he hpl
  exact run_fn F hr hb hd hx I1 r q
/-- what a class must have to be made -/
structure Mk (K : PySem.W.Frag) (C f : Addr) : Prop where
  makes : PySem.W.makesIn K C = true
  init : PySem.W.findIn K (.ref C) "__init__" = some (some (.ref f))
  fn : PySem.W.isFn K (.ref f) = true
  kp : PySem.W.keepIn K (.ref C) = true

end

/-! ### keywords -/
/-- the values of the keywords, from the left -/
def PK (X : Cx) (kws : List Keyword) (t : TA) : Prop :=
  ∀ (pos : Pos) (pins : List (Addr × Obj)) (s : Shared) (σ : St) (H : Hp) (Q : List V → Hp → Prop), Inv X pins σ H s → t σ H Q → wpAny (model X.prog X.w) X.A (evalAll ((backToKw pos (keywordEach kws X.env)).map (·.2))) (AP X pins σ Q) X.xe s
section
variable {X : Cx} {CX : CXT} {k : Nat} {f C : Addr} {fd : FuncData} {ps ks : List Str} {sp : Sp} {E : XK} {x m : Str} {p pos apos kpos : Pos} {e o : Expr} {es : List Expr} {kws : List Keyword} {te ta : TE} {t tk : TA} {nm : Option Str}
theorem pk_nil : PK X [] tNil := fun _ _ _ _ H Q I h => wpAny_evalAll_nil ⟨[], H, I, .nil, h⟩
theorem pk_cons (ha : PE X e te) (hr : PK X kws t) : PK X (⟨nm, e, kpos⟩ :: kws) (tCons te t) := by
  intro pos pins s σ H Q I h
  show wpAny _ _ (evalAll ((do let v ← eval e X.env; standAt pos; pure v) :: (backToKw pos (keywordEach kws X.env)).map (·.2))) _ _ s
  refine wpAny_evalAll_cons (wpAny_bind (thn (ha pins s σ H _ I h) fun u s1 ⟨x, H1, I1, r1, q1⟩ => wpAny_bind (wpAny_standAt (wpAny_pure ?_))))
  exact thn (hr pos pins s1 σ H1 _ I1 q1) fun us s2 ⟨xs, H2, I2, r2, q2⟩ => ⟨x :: xs, H2, I2, .cons r1 r2, q2⟩

/-- how a call with keywords binds: g puts the positional values us and the keywords' values ws (names ks) in the parameters' order, defaults among them -/
structure KBinds (K : PySem.W.Frag) (fd : FuncData) (ps ks : List Str) (g : List Value → List Value → List Value) (gV : List V → List V → List V) : Prop where
  to : ∀ (s : Shared) (us ws : List Value), K.In s.heap → (g us ws).length = ps.length → BindsTo s fd ⟨us, ks.zip ws⟩ (ps.zip (g us ws))
  rel : ∀ {vs : List V} {us : List Value} {zs : List V} {ws : List Value}, Vals vs us → Vals zs ws → Vals (gV vs zs) (g us ws)
def tCallK (sp : Sp) (gV : List V → List V → List V) (E : XK) (t tk : TA) : TE := fun σ H Q => t σ H fun vs H1 => tk σ H1 fun zs H2 => sp (gV vs zs) H2 Q E
variable {g : List Value → List Value → List Value} {gV : List V → List V → List V}
end

/-! ### a def's body keeps its promise -/
/-- names: the parameters first -/
structure FnScope (N P : List Str) (sc : Scope) : Prop where
  kind : sc.kind = .function
  co : sc.isCoroutine = false
  gen : sc.isGenerator = false
  nd : N.Nodup
  pre : N.take P.length = P
  par : ∀ x ∈ P, sc.names.lookup x = some .local ∨ sc.names.lookup x = some .cell
  nofree : ∀ y ∈ sc.names, y.2 ≠ .free

theorem bindL_out {kindOf : Str → Option NameKind} {x : Str} : ∀ {binds : List (Str × Value)} {m : Str → Option Value}, (∀ v, (x, v) ∉ binds) → bindL kindOf binds m x = m x
  | [], _, _ => rfl
  | (n, v) :: r, m, h => by
    unfold bindL
    rw [bindL_out fun w hw => h w (List.mem_cons_of_mem _ hw)]
    split
    · have : x ≠ n := by rintro rfl; exact h v List.mem_cons_self
      simp [this]
    · rfl
theorem bindC_out {kindOf : Str → Option NameKind} {x : Str} : ∀ {binds : List (Str × Value)} {m : Str → Option Value}, (∀ v, (x, v) ∉ binds) → bindC kindOf binds m x = m x
  | [], _, _ => rfl
  | (n, v) :: r, m, h => by
    unfold bindC
    rw [bindC_out fun w hw => h w (List.mem_cons_of_mem _ hw)]
    split
    · rfl
    · have : x ≠ n := by rintro rfl; exact h v List.mem_cons_self
      simp [this]
theorem bindL_get {kindOf : Str → Option NameKind} {x : Str} {v : Value} : ∀ {P : List Str} {vs : List Value} {i : Nat} {m : Str → Option Value}, P.Nodup → P[i]? = some x → vs[i]? = some v → kindOf x = some .local →
    bindL kindOf (P.zip vs) m x = some v
  | [], _, _, _, _, h, _, _ => by simp at h
  | _ :: _, [], _, _, _, _, h, _ => by simp at h
  | p :: P, w :: vs, 0, m, nd, h1, h2, hk => by
    simp at h1 h2; subst h1; subst h2
    show bindL kindOf ((p, w) :: P.zip vs) m p = _
    unfold bindL
    rw [bindL_out fun v hv => (List.nodup_cons.mp nd).1 (List.of_mem_zip hv).1, if_pos hk]
    simp
  | p :: P, w :: vs, i + 1, m, nd, h1, h2, hk => by
    show bindL kindOf ((p, w) :: P.zip vs) m x = _
    unfold bindL
    exact bindL_get (i := i) (List.nodup_cons.mp nd).2 (by simpa using h1) (by simpa using h2) hk
theorem bindC_get {kindOf : Str → Option NameKind} {x : Str} {v : Value} : ∀ {P : List Str} {vs : List Value} {i : Nat} {m : Str → Option Value}, P.Nodup → P[i]? = some x → vs[i]? = some v → kindOf x ≠ some .local →
    bindC kindOf (P.zip vs) m x = some v
  | [], _, _, _, _, h, _, _ => by simp at h
  | _ :: _, [], _, _, _, _, h, _ => by simp at h
  | p :: P, w :: vs, 0, m, nd, h1, h2, hk => by
    simp at h1 h2; subst h1; subst h2
    show bindC kindOf ((p, w) :: P.zip vs) m p = _
    unfold bindC
    rw [bindC_out fun v hv => (List.nodup_cons.mp nd).1 (List.of_mem_zip hv).1, if_neg hk]
    simp
  | p :: P, w :: vs, i + 1, m, nd, h1, h2, hk => by
    show bindC kindOf ((p, w) :: P.zip vs) m x = _
    unfold bindC
    exact bindC_get (i := i) (List.nodup_cons.mp nd).2 (by simpa using h1) (by simpa using h2) hk

/-- the names' values at the entry -/
def start (N : List Str) (vs : List V) : St := vs.map some ++ List.replicate (N.length - vs.length) none

/-- the context of a def's body, at its entry; an exception leaves the frame, then lies as CX says -/
def cxOf (CX : CXT) (P : Program) (w : World) (K : PySem.W.Frag) (mg : Str → Option Value) (base : Heap) (N : List Str) (qual : Str) (scope : Scope) (f : Addr) (cd : Value) (A : Around) (outer : List Env) (s : Shared) (H : Hp) (E : XK) : Cx where
  prog := P
  w := w
  K := K
  mg := mg
  base := base
  A := A.deeper (envOfC qual scope s.heap.objs.size f cd)
  N := N
  s₀ := s
  H₀ := H
  env := envOfC qual scope s.heap.objs.size f cd
  outer := outer
  stack := envOfC qual scope s.heap.objs.size f cd :: outer
  ex := []
  calm := true
  fn := fun _ => true
  pn := []
  xe := fun e s' => wpAny (model P w) (A.deeper (envOfC qual scope s.heap.objs.size f cd)) (leaving (envOfC qual scope s.heap.objs.size f cd) e) (fun _ s'' => CX outer H s E e s'') (fun e' s'' => CX outer H s E e' s'') s'

theorem cell_has {sc : Scope} {n : Nat} {x : Str} (h : sc.names.lookup x = some .cell) : ∃ c, (cellsFrom n sc.names []).lookup x = some c := by
  have q := PySem.W.cellsFrom_some sc.names n [] (.inl h)
  exact Option.isSome_iff_exists.mp q

theorem inv_start {CX : CXT} {P : Program} {w : World} {K : PySem.W.Frag} {mg : Str → Option Value} {base : Heap} {N ps : List Str} {qual : Str} {scope : Scope} {f : Addr} {cd : Value} {A : Around} {outer : List Env} {s s1 : Shared} {H : Hp} {E : XK} {us : List Value} {vs : List V}
    (S : FnScope N ps scope) (hd : A.handled = none) (e0 : Env0 P w K mg base A outer s H) (hl : vs.length = ps.length) (r : Vals vs us)
    (x : InCallC s s.heap.objs.size (bindL (envOfC qual scope s.heap.objs.size f cd).kindOf (ps.zip us) fun _ => none) (cellsFrom (s.heap.objs.size + 1) scope.names []) (bindC (envOfC qual scope s.heap.objs.size f cd).kindOf (ps.zip us) fun _ => none) s1) :
    Inv (cxOf CX P w K mg base N qual scope f cd A outer s H E) [] (start N vs) H s1 := by
  have hpl : ps.length ≤ N.length := by have := congrArg List.length S.pre; rw [List.length_take] at this; omega
  obtain ⟨h1, tk, rfl, hk⟩ := x.done
  have noA : ∀ b : Addr, b ∉ (cxOf CX P w K mg base N qual scope f cd A outer s H E).ex := fun b z => absurd (show b ∈ ([] : List Addr) from z) (by simp)
  refine ⟨⟨e0.mod, S.kind, rfl, rfl, Nat.le_refl _, fun y z c h1 h2 => ?_, fun y hy => ?_, fun y c _ h => ?_, fun _ => hd, Around.frames_deeper e0.frames, .inr ⟨rfl, rfl⟩, fun b z => absurd z (noA b), e0.bs, e0.bsz, fun b _ _ => noA b, fun b z => absurd z (noA b), e0.funs, e0.frf⟩,
    rfl, e0.bare, Un.kept hk, ⟨_, x.toInCall.ns, fun i y v h1 h2 h3 => ?_⟩, fun y c h => ⟨_, x.cell y c h⟩, e0.hok.fresh (Nat.le_refl _), fun y c h => ?_, fun p hp => absurd (show p ∈ ([] : List (Addr × Obj)) from hp) (by simp), e0.hok.kept hk, ?_⟩
  · exact name_of_addr x.apart (PySem.mem_of_lookup h1) (PySem.mem_of_lookup h2)
  · have hy : scope.names.lookup y = some .cell ∨ scope.names.lookup y = some .free := hy
    rcases hy with hy | hy
    · exact cell_has hy
    · exact absurd rfl (S.nofree _ (PySem.mem_of_lookup hy))
  · exact Nat.le_of_lt (x.above y c (PySem.mem_of_lookup h))
  · have hi : i < vs.length := by
      unfold start at h2
      by_cases hi : i < vs.length
      · exact hi
      · rw [List.getElem?_append_right (by simpa using hi)] at h2
        rw [List.getElem?_replicate] at h2
        split at h2 <;> cases h2
    have ha : vs[i]? = some v := by
      unfold start at h2
      rw [List.getElem?_append_left (by simpa using hi), List.getElem?_map] at h2
      cases e : vs[i]? with
      | none => rw [e] at h2; cases h2
      | some a => rw [e] at h2; cases h2; rfl
    obtain ⟨u, hu, rv⟩ := r.get ha
    have hp : ps[i]? = some y := by
      rw [← S.pre, List.getElem?_take_of_lt (by omega)]; exact h1
    have ndP : ps.Nodup := by rw [← S.pre]; exact S.nd.sublist (List.take_sublist _ _)
    refine ⟨u, rv, ?_⟩
    rcases S.par y (List.mem_of_getElem? hp) with k | k
    · exact .inl ⟨k, bindL_get ndP hp hu k⟩
    · obtain ⟨c, e⟩ := cell_has (n := s.heap.objs.size + 1) k
      refine .inr ⟨.inl k, c, e, ?_⟩
      have q := x.cell y c e
      rw [bindC_get ndP hp hu (by show scope.names.lookup y ≠ _; rw [k]; decide)] at q
      exact q
  · exact e0.hok.fresh (Nat.le_of_lt (x.above y c (PySem.mem_of_lookup h)))
  · unfold start
    show _ = N.length
    rw [List.length_append, List.length_map, List.length_replicate]
    omega

/-- THE RULE: a def (or a method) of the text, by its body. The body's reading t is chosen for each entry; it is run at the parameters' values -/
theorem fn_of {CX : CXT} {P : Program} {w : World} {K : PySem.W.Frag} {mg : Str → Option Value} {base : Heap} {k : Nat} {f : Addr} {name qual : Str} {params : Arguments} {body : List Stmt} {scope : Scope} {dV kV doc pm cdv ct oc : Value} {an od : Option Addr}
    {osl : Array (Option Value)} {N ps : List Str} {sp : Sp} (lk : K.lookup f = some ⟨oc, od, .func (PySem.W.fnOf name qual params body scope dV kV doc pm an cdv ct), osl⟩) (hcd : PySem.W.codeIn K cdv qual = true) (S : FnScope N ps scope)
    (len : ∀ vs H Q E, sp vs H Q E → vs.length = ps.length)
    (hbody : ∀ (A : Around) (outer : List Env) (s : Shared) (H : Hp) (vs : List V) (Q : VK) (E : XK), Room k (A.deeper (envOfC qual scope s.heap.objs.size f cdv)) → sp vs H Q E →
      ∃ t, PSs (cxOf CX P w K mg base N qual scope f cdv A outer s H E) body t ∧ t { nx := fun _ H' => Q .non H', rt := Q } (start N vs) H) :
    FnOk P w K mg base CX (k + 1) f (PySem.W.fnOf name qual params body scope dV kV doc pm an cdv ct) ps sp := by
  refine ⟨len, fun A outer s H args us vs Q E hr e0 hb r hsp => ?_⟩
  have hl := len _ _ _ _ hsp
  have KX : K.In s.heap := e0.mod.kin.keeps fun b o e => (e0.bs b o e).1
  have lim : s.heap.NoLimit := e0.mod.nolimit.keeps fun b o e => (e0.bs b o e).1
  have hkind : ∀ y ∈ ps.zip us, scope.names.lookup y.1 = some .local ∨ (scope.names.lookup y.1 = some .cell ∧ ((cellsFrom (s.heap.objs.size + 1) scope.names []).lookup y.1).isSome = true) := fun ⟨n, v⟩ hy => by
    rcases S.par n (List.of_mem_zip hy).1 with q | q
    · exact .inl q
    · exact .inr ⟨q, PySem.W.cellsFrom_some _ _ _ (.inl q)⟩
  refine codeAny_call_function hr.depth (KX _ _ lk) rfl S.co S.gen rfl (PySem.W.codeRec_of KX hcd) (hb _ _ _ _ ?_)
  refine wpAny_newFunctionEnv_cells S.kind hkind fun env he s1 x => ?_
  subst he
  refine ⟨lim.keeps x.toInCall.keep, codeAny_func ?_⟩
  obtain ⟨t, ht, hq⟩ := hbody A outer s H vs Q E (hr.deeper _) hsp
  have I : Inv (cxOf CX P w K mg base N qual scope f cdv A outer s H E) [] (start N vs) H s1 := inv_start S hr.hd e0 hl r x
  refine wpAny_mono (ht [] s1 (start N vs) H _ I hq) (fun fl s' hs => ?_) fun e s' hs => hs
  have fin : ∀ {σ' : St} {H' : Hp} {v : V} {u : Value}, Inv (cxOf CX P w K mg base N qual scope f cdv A outer s H E) [] σ' H' s' → RelV v u → Q v H' → CE outer P w H s Q u s' :=
    fun {σ' H' v u} J rv q => ⟨v, H', J.os, J.bare, J.base, J.hok, rv, q⟩
  cases fl with
  | ret u =>
    obtain ⟨v, σ', H', J, rv, q⟩ := hs
    exact fin J rv q
  | next =>
    obtain ⟨σ', H', J, q⟩ := hs
    exact fin (v := V.non) (u := Value.none) J rfl q
  | brk =>
    obtain ⟨_, _, _, q⟩ := hs
    exact False.elim q
  | cont =>
    obtain ⟨_, _, _, q⟩ := hs
    exact False.elim q
end L2

namespace L2
open PySem PySem.Spec PyProof.Rows
section
variable {X : Cx} {x : Str} {p pos : Pos} {e : Expr} {es : List Expr} {t : TA} {id T : String} {r : List V → Hp → VK → Prop}

def tCB (r : List V → Hp → VK → Prop) (t : TA) : TE := fun σ H Q => t σ H fun vs H1 => r vs H1 Q
/-- f(e, ..), f a built-in function -/
theorem pe_callB (hc : CallR X (.builtin id) r) (hg : Gl X x) (hm : X.mg x = none) (hv : bootBuiltins x = some (.builtin id)) (ha : PA X (e :: es) t) (hn : x ≠ "__name__" := by decide) (hdb : (x == ("__debug__" : Str)) = false := by decide)
    (he : starEach (e :: es) X.env = (false, eval e X.env) :: starEach es X.env := by rfl) (hpl : (backTo pos (starEach es X.env)).any (·.1) = false := by rfl) : PE X (.Call (.Name x p) (e :: es) [] pos) (tCB r t) := by
  intro pins s σ H Q I h
  refine wpAny_Call_Name_kw (ld_blt I hg hm hv ?_ hn hdb)
  exact PyProof.Rows.callWith_builtin1 (thn (ha pos pins s σ H _ I h) fun us s1 ⟨vs, H1, I1, r1, q1⟩ => hc pins s1 σ H1 vs us Q I1 r1 q1) he hpl
/-- T(e, ..), T a built-in type -/
theorem pe_callTy (hc : CallR X (.type T) r) (hg : Gl X x) (hm : X.mg x = none) (hv : bootBuiltins x = some (.type T)) (ha : PA X (e :: es) t) (hn : x ≠ "__name__" := by decide) (hdb : (x == ("__debug__" : Str)) = false := by decide)
    (he : starEach (e :: es) X.env = (false, eval e X.env) :: starEach es X.env := by rfl) (hpl : (backTo pos (starEach es X.env)).any (·.1) = false := by rfl) : PE X (.Call (.Name x p) (e :: es) [] pos) (tCB r t) := by
  intro pins s σ H Q I h
  refine wpAny_Call_Name_kw (ld_blt I hg hm hv ?_ hn hdb)
  exact PyProof.Rows.callWith_type1 (thn (ha pos pins s σ H _ I h) fun us s1 ⟨vs, H1, I1, r1, q1⟩ => hc pins s1 σ H1 vs us Q I1 r1 q1) he hpl
end
end L2

namespace HT
open PySem PyProof.Rows

/-- t < u of tuples of ints -/
def lexLt : List Int → List Int → Bool
  | [], [] => false
  | [], _ :: _ => true
  | _ :: _, [] => false
  | x :: xs, y :: ys => if x = y then lexLt xs ys else decide (x < y)
theorem lexLt_cons (x y : Int) (xs ys : List Int) : lexLt (x :: xs) (y :: ys) = if x = y then lexLt xs ys else decide (x < y) := rfl
theorem lexLt_nil_nil : lexLt [] [] = false := rfl
theorem lexLt_nil_cons (y : Int) (ys : List Int) : lexLt [] (y :: ys) = true := rfl
theorem lexLt_cons_nil (x : Int) (xs : List Int) : lexLt (x :: xs) [] = false := rfl

theorem eqAt_int (A : Around) (s : Shared) (a : Int) (t : Tok) (c : Int) (u : Tok) : ∃ e, SeqAt.EqAt A s (.int a t) (.int c u) e ∧ (e = true ↔ a = c) :=
  ⟨(a == c), SeqAt.EqAt.int_int a t c u, by simp⟩
theorem rcLt_int (A : Around) (s : Shared) (a : Int) (t : Tok) (c : Int) (u : Tok) (prog : Program) (w : World) (E : Value → Shared → Prop) (Q : Value → Shared → Prop) (h : Q (.bool (decide (a < c))) s) :
    wpAny (model prog w) A (richCompare .Lt (.int a t) (.int c u)) Q E s :=
  (PyProof.Rows.lt_int h : wpAny (model prog w) A (compareOp .Lt (.int a t) (.int c u)) Q E s)

section
open PySem.SeqAt
open PySem.AutoSeq1 (wpAny_loadPart')
open PySem.MeetsSeq PySem.MeetsSeq2 PySem.MeetsSeq3

theorem tuple_lt_ints (l b : Addr) (items items2 : Array Value) (n n2 : Nat) (dd dd2 : Option Addr) (sl sl2 : Array (Option Value)) (ns ms : List Int) (hi : IntsAre items.toList ns) (hj : IntsAre items2.toList ms) :
    Meets (Builtin.«tuple.__lt__» ⟨[.ref l, .ref b], []⟩)
      (fun _ R s => s.heap.get? l = some { cls := .type "tuple", dict := dd, data := .seq items n, slots := sl } ∧ s.heap.get? b = some { cls := .type "tuple", dict := dd2, data := .seq items2 n2, slots := sl2 } ∧
        R (.ok (.ret (.bool (lexLt ns ms)))) s) :=
  .of_wp fun prog w A R s h => by
    obtain ⟨hp, g, d, tk, os⟩ := s; obtain ⟨hl, hb, h⟩ := h
    have f2 := AutoSeq1.sub_tuple_tuple
    have z1 : items.size = ns.length := by rw [← hi.length]; simp
    have z2 : items2.size = ms.length := by rw [← hj.length]; simp
    wp_walk using wpAny_loadPart' hl, wpAny_loadPart' hb, wpAny_forIn_list _ (fun rest b s' => b.1 = none ∧ s' = ⟨hp, g, d, tk, os⟩ ∧ ∃ (vs ws : List Value) (ns' ms' : List Int), rest = vs.zip ws ∧
      IntsAre vs ns' ∧ IntsAre ws ms' ∧ ns'.length + items2.size = ms'.length + items.size ∧ R (.ok (.ret (.bool (lexLt ns' ms')))) ⟨hp, g, d, tk, os⟩) _
    case turn =>
      rintro ⟨y, x⟩ rest b s' ⟨hb', rfl, vs, ws, ns', ms', hz, hvi, hwi, hlen, hR⟩
      cases hvi with
      | nil => rw [List.zip_nil_left] at hz; cases hz
      | cons a t hvi' =>
        cases hwi with
        | nil => rw [List.zip_nil_right] at hz; cases hz
        | cons c u hwi' =>
          rw [List.zip_cons_cons] at hz
          injection hz with hyx hrest
          injection hyx with hy hx
          subst hy hx
          rw [lexLt_cons] at hR
          simp only [List.length_cons] at hlen
          obtain ⟨e, he, hiff⟩ := eqAt_int A.in1 ⟨hp, g, d, tk, os⟩ a t c u
          refine wpAny_bind (he prog w _ _ ?_)
          cases e with
          | true =>
            rw [if_pos (hiff.mp rfl)] at hR
            wp_walk
            exact ⟨rfl, rfl, _, _, _, _, hrest, hvi', hwi', by omega, hR⟩
          | false =>
            rw [if_neg (fun q => absurd (hiff.mpr q) Bool.false_ne_true)] at hR
            have hri := rcLt_int A.in1 ⟨hp, g, d, tk, os⟩ a t c u prog w
            wp_walk using hri
            exact ⟨_, rfl, by simpa using hR⟩
    case fin =>
      rintro ⟨b1, b2⟩ s' ⟨hb', rfl, vs, ws, ns', ms', hz, hvi, hwi, hlen, hR⟩
      simp only at hb'
      subst hb'
      have hv : lexLt ns' ms' = decide (items.size < items2.size) := by
        cases hvi with
        | nil =>
          cases hwi with
          | nil =>
            simp only [List.length_nil] at hlen
            rw [lexLt_nil_nil]
            exact (decide_eq_false (by omega)).symm
          | cons c u hw =>
            simp only [List.length_nil, List.length_cons] at hlen
            rw [lexLt_nil_cons]
            exact (decide_eq_true (by omega)).symm
        | cons a t hv =>
          cases hwi with
          | nil =>
            simp only [List.length_nil, List.length_cons] at hlen
            rw [lexLt_cons_nil]
            exact (decide_eq_false (by omega)).symm
          | cons c u hw =>
            rw [List.zip_cons_cons] at hz
            cases hz
      rw [hv] at hR
      wp_walk
      exact ⟨_, rfl, by simpa [Builtin.Tuple.tupleCompareSizes] using hR⟩
    case h =>
      exact ⟨rfl, rfl, items.toList, items2.toList, ns, ms, rfl, hi, hj, by omega, h⟩
end

section
variable {prog : Program} {w : World} {A : Around} {E : Value → Shared → Prop} {s : Shared}

theorem lt_tupInts {l b : Addr} {items items2 : Array Value} {ns ms : List Int} {Q : Value → Shared → Prop} (hl : IsTup s.heap l items) (hb : IsTup s.heap b items2) (hi : IntsAre items.toList ns) (hj : IntsAre items2.toList ms)
    (hu : A.units < cLine) (h : Q (.bool (lexLt ns ms)) s) : wpAny (model prog w) A (compareOp .Lt (.ref l) (.ref b)) Q E s := by
  obtain ⟨⟨cls, dd, data, sl⟩, ho, hc, n, hd⟩ := id hl
  obtain ⟨⟨cls2, dd2, data2, sl2⟩, ho2, hc2, n2, hd2⟩ := id hb
  simp only at hc hd hc2 hd2
  subst hc hd hc2 hd2
  exact richCompare_meets_room (op := .Lt) ⟨_, ho, rfl⟩ ⟨_, ho2, rfl⟩ PySem.F.slot_tuple_lt PySem.F.entry_tuple_lt (PySem.F.args_tuple_lt_2 _ _) (tuple_lt_ints l b items items2 n n2 dd dd2 sl sl2 ns ms hi hj)
    ⟨ho, ho2, show Value.bool (lexLt ns ms) ≠ Value.notImplemented ∧ Q (.bool (lexLt ns ms)) s from ⟨(fun x => nomatch x), h⟩⟩ hu

/-- t + u, t not empty -/
theorem cat_tup {t b : Addr} {vs ws : List Value} {Q : Value → Shared → Prop} (ht : IsTup s.heap t vs.toArray) (hb : IsTup s.heap b ws.toArray) (hv : vs ≠ [])
    (h1 : ws = [] → Q (.ref t) s) (h2 : ws ≠ [] → Q (.ref s.heap.objs.size) { s with heap := s.heap.push { cls := .type "tuple", data := .seq (vs ++ ws).toArray } })
    (hsz : vs.length + ws.length ≤ sizeLine) : wpAny (model prog w) A (binaryOp .Add (.ref t) (.ref b)) Q E s := by
  obtain ⟨⟨cls, dd, data, sl⟩, ho, hc, n, hd⟩ := id ht
  obtain ⟨⟨cls2, dd2, data2, sl2⟩, ho2, hc2, n2, hd2⟩ := id hb
  simp only at hc hd hc2 hd2
  subst hc hd hc2 hd2
  have e : vs.toArray ++ ws.toArray = (vs ++ ws).toArray := by simp
  by_cases hw : ws = []
  · exact concat_meets ⟨_, ho, rfl⟩ ⟨_, ho2, rfl⟩ noFill_tuple_add seq_tuple_add PySem.F.slot_tuple_add PySem.F.entry_tuple_add (PySem.F.args_tuple_add_2 _ _)
      (tuple_addW1 t b vs.toArray ws.toArray n n2 dd dd2 sl sl2 (by simpa using hv) (by simp [hw])) ⟨ho, ho2, h1 hw⟩
  · refine concat_meets ⟨_, ho, rfl⟩ ⟨_, ho2, rfl⟩ noFill_tuple_add seq_tuple_add PySem.F.slot_tuple_add PySem.F.entry_tuple_add (PySem.F.args_tuple_add_2 _ _)
      (tuple_addW2 t b vs.toArray ws.toArray n n2 dd dd2 sl sl2 (by simpa using hv) (by simpa using hw) (by rw [List.size_toArray, List.size_toArray]; exact hsz)) ⟨ho, ho2, ?_⟩
    rw [e]
    exact h2 hw

/-! ### t[a:b], not the whole -/
/-- a slice's bound as a place among n (d where it is left out) -/
def sIx (n d : Nat) : Option Int → Nat
  | none => d
  | some v => if v < 0 then (v + (n : Int)).toNat else min v.toNat n
theorem sIx_none (n d : Nat) : sIx n d none = d := rfl
theorem sIx_nat (n d k : Nat) : sIx n d (some (k : Int)) = min k n := by
  show (if (k : Int) < 0 then ((k : Int) + (n : Int)).toNat else min (k : Int).toNat n) = min k n
  rw [if_neg (by omega), Int.toNat_natCast]
theorem sIx_le (n d : Nat) (hd : d ≤ n) (o : Option Int) : sIx n d o ≤ n := by
  cases o with
  | none => exact hd
  | some v =>
    show (if v < 0 then (v + (n : Int)).toNat else min v.toNat n) ≤ n
    by_cases hv : v < 0
    · rw [if_pos hv]; omega
    · rw [if_neg hv]; exact Nat.min_le_right _ _
theorem clip_eq (v : Int) (n d : Nat) : (if v < 0 then max (v + (n : Int)) 0 else min v (n : Int)) = ((sIx n d (some v) : Nat) : Int) := by
  show (if v < 0 then max (v + (n : Int)) 0 else min v (n : Int)) = (((if v < 0 then (v + (n : Int)).toNat else min v.toNat n) : Nat) : Int)
  by_cases hv : v < 0
  · simp only [if_pos hv]; omega
  · simp only [if_neg hv]; omega
theorem adjust_gen (lo hi : Option Int) (n : Nat) : Builtin.Slice.sliceAdjust lo hi 1 (n : Int) = (((sIx n 0 lo : Nat) : Int), ((sIx n n hi : Nat) : Int)) := by
  have h1 : ¬ ((1 : Int) < 0) := by omega
  unfold Builtin.Slice.sliceAdjust
  simp only [h1, if_false]
  refine Prod.ext ?_ ?_
  · cases lo with
    | none => rfl
    | some v => exact clip_eq v n 0
  · cases hi with
    | none => rfl
    | some v => exact clip_eq v n n
theorem places_gen (i j : Nat) : Builtin.Slice.slicePlaces (i : Int) (j : Int) 1 = j - i := by
  unfold Builtin.Slice.slicePlaces
  have h1 : (1 : Int) > 0 := by omega
  simp only [h1, if_true, Int.ediv_one]
  split <;> omega
theorem slicePart_ {v : Value} {o : Option Int} {Q : Option Int → Shared → Prop} (p : IsPart v o) (h : Q o s) : wpAny (model prog w) A (Builtin.Slice.slicePartIndex v) Q E s := by
  cases p with
  | none => exact slicePart_none h
  | int i t => exact slicePart_int h
theorem sliceApplied_gen {sl : Addr} {vl vu : Value} {lo hi : Option Int} {n : Nat} {Q : Int × Int × Nat → Shared → Prop} (hs : s.heap.IsSliceOf sl vl vu .none) (pl : IsPart vl lo) (pu : IsPart vu hi)
    (h : Q (((sIx n 0 lo : Nat) : Int), 1, sIx n n hi - sIx n 0 lo) s) : wpAny (model prog w) A (Builtin.Slice.sliceApplied (.ref sl) (pure (n : Int))) Q E s := by
  obtain ⟨os, hos, hcs, hds⟩ := id hs
  unfold Builtin.Slice.sliceApplied Builtin.Slice.sliceFields
  refine wpAny_bind (wpAny_bind (wpAny_field hos hds (x := vl) rfl (wpAny_bind (wpAny_field hos hds (x := vu) rfl (wpAny_bind (wpAny_field hos hds (x := .none) rfl (wpAny_pure ?_)))))))
  refine wpAny_bind (slicePart_none ?_)
  show wpAny _ _ (if ((1 : Int) == 0) = true then _ else _) _ _ s
  rw [if_neg (by decide)]
  refine wpAny_bind (slicePart_ pl (wpAny_bind (slicePart_ pu (wpAny_bind (wpAny_pure ?_)))))
  show wpAny _ _ (match Builtin.Slice.sliceAdjust lo hi 1 (n : Int) with | (lo, hi) => pure (lo, (1 : Int), Builtin.Slice.slicePlaces lo hi 1)) _ _ s
  rw [adjust_gen lo hi n]
  show wpAny _ _ (pure (((sIx n 0 lo : Nat) : Int), (1 : Int), Builtin.Slice.slicePlaces ((sIx n 0 lo : Nat) : Int) ((sIx n n hi : Nat) : Int) 1)) _ _ s
  rw [places_gen]
  exact wpAny_pure h
theorem pick_gen (xs : Array Value) (i k : Nat) : ((List.range k).filterMap fun (m : Nat) => xs[((i : Int) + (m : Int) * 1).toNat]?).toArray = ((xs.toList.drop i).take k).toArray := by
  have e : (fun (m : Nat) => xs[((i : Int) + (m : Int) * 1).toNat]?) = fun m => xs[i + m]? := by
    funext m
    have : ((i : Int) + (m : Int) * 1).toNat = i + m := by omega
    rw [this]
  rw [e]
  have := pick_run xs i k
  rw [List.filterMap_map] at this
  have e2 : ((fun x => xs[x]?) ∘ fun x => i + x) = fun m => xs[i + m]? := rfl
  rw [e2] at this
  rw [this]

theorem getItem_tuple_cut {t sl : Addr} {items : Array Value} {vl vu : Value} {lo hi : Option Int} {Q : Value → Shared → Prop} (ht : IsTup s.heap t items) (hs : s.heap.IsSliceOf sl vl vu .none) (pl : IsPart vl lo) (pu : IsPart vu hi)
    (hw : ¬ (sIx items.size 0 lo = 0 ∧ sIx items.size items.size hi = items.size))
    (h : Q (.ref s.heap.objs.size) { s with heap := s.heap.push { cls := .type "tuple", data := .seq ((items.toList.drop (sIx items.size 0 lo)).take (sIx items.size items.size hi - sIx items.size 0 lo)).toArray } })
    (hsz : items.size ≤ sizeLine) : wpAny (model prog w) A (getItem (.ref t) (.ref sl)) Q E s := by
  have htake : sizeOk (.seq ((items.toList.drop (sIx items.size 0 lo)).take (sIx items.size items.size hi - sIx items.size 0 lo)).toArray) := by
    show ((items.toList.drop (sIx items.size 0 lo)).take (sIx items.size items.size hi - sIx items.size 0 lo)).toArray.size ≤ sizeLine
    rw [List.size_toArray, List.length_take, List.length_drop, Array.length_toList]
    omega
  have hj : sIx items.size items.size hi ≤ items.size := sIx_le _ _ (Nat.le_refl _) hi
  obtain ⟨os, hos, hcs, hds⟩ := id hs
  have hTs : s.TypeIs (.ref sl) "slice" := ⟨os, hos, hcs⟩
  unfold getItem
  try with_reducible refine wpAny_holding ?_
  first | refine wpAny_bind (wpAny_pure ?_) | skip
  refine wpAny_bind (wpAny_sequenceKey ht.typeIs (by decide) ?_)
  refine wpAny_bind (wpAny_callSpecial?_slot (name := Str.ofString "__getitem__") ht.typeIs PyProof.Rows.slot_tuple_getitem
    (wpAny_call_entry PyProof.Rows.slot_tuple_getitem ht.typeIs entry_tuple_getitem ?_ (args_tuple_getitem _ _)))
  show wpAny _ _ (Builtin.Tuple.tupleItemsOf (.ref t) >>= _) _ _ s
  refine wpAny_bind (tupleItemsOf_ ht ?_)
  refine wpAny_bind (wpAny_typeOf hTs ?_)
  rw [if_pos (by decide)]
  refine wpAny_bind (sliceApplied_gen hs pl pu ?_)
  have hno : ¬ ((((sIx items.size 0 lo : Nat) : Int) == 0 && (1 : Int) == 1 && (sIx items.size items.size hi - sIx items.size 0 lo) == items.size) = true) := by
    intro q
    rw [Bool.and_eq_true, Bool.and_eq_true] at q
    have q1 : ((sIx items.size 0 lo : Nat) : Int) = 0 := eq_of_beq q.1.1
    have q2 : sIx items.size items.size hi - sIx items.size 0 lo = items.size := eq_of_beq q.2
    exact hw ⟨by omega, by omega⟩
  show wpAny _ _ (if (((sIx items.size 0 lo : Nat) : Int) == 0 && (1 : Int) == 1 && (sIx items.size items.size hi - sIx items.size 0 lo) == items.size) = true then _ else _) _ _ s
  rw [if_neg hno, pick_gen]
  first
    | exact wpAny_bind (m := Builtin.Tuple.tupleExact _) (wpAny_newObj_type (wpAny_pure ⟨_, rfl, wpAny_pure h⟩) htake)
    | exact wpAny_bind (m := Builtin.Tuple.tupleExact _) (wpAny_newObj_type (wpAny_bind (wpAny_pure (wpAny_pure ⟨_, rfl, wpAny_pure h⟩))) htake)
    | exact wpAny_bind (wpAny_bind (m := Builtin.Tuple.tupleExact _) (wpAny_newObj_type (wpAny_pure (wpAny_pure ⟨_, rfl, wpAny_pure h⟩)) htake))
    | exact wpAny_bind (wpAny_bind (m := Builtin.Tuple.tupleExact _) (wpAny_newObj_type (wpAny_pure ⟨_, rfl, wpAny_pure h⟩) htake))
end
end HT

namespace L2
open PySem PySem.Spec PyProof.Rows

/-! ### the parts of a slice -/
abbrev TO := St → Hp → (Option Int → Hp → Prop) → Prop
/-- a slice's part (left out, or an int) -/
def PO (X : Cx) (e : Option Expr) (t : TO) : Prop :=
  ∀ (pins : List (Addr × Obj)) (s : Shared) (σ : St) (H : Hp) (Q : Option Int → Hp → Prop), Inv X pins σ H s → t σ H Q →
    wpAny (model X.prog X.w) X.A (evalPart e X.env) (fun u s' => ∃ o H', Inv X pins σ H' s' ∧ IsPart u o ∧ Q o H') X.xe s
def tNoPart : TO := fun _ H Q => Q none H
def tPart (t : TE) : TO := fun σ H Q => t σ H fun x H1 => ∃ i, x = .int i ∧ Q (some i) H1

theorem intsAre_of {ns : List Int} : ∀ {us : List Value}, Vals (ns.map V.int) us → IntsAre us ns := by
  induction ns with
  | nil => intro us r; rw [List.map_nil] at r; cases r; exact .nil
  | cons n ns ih =>
    intro us r
    rw [List.map_cons] at r
    cases r with
    | cons r1 r2 =>
      obtain ⟨t, e⟩ := r1
      subst e
      exact .cons n t (ih r2)

section
variable {X : Cx} {e : Expr} {te : TE} {lo hi : Option Expr} {tl th : TO} {pos p2 : Pos}

theorem po_none : PO X none tNoPart := by
  intro pins s σ H Q I h
  rw [evalPart_none]
  exact wpAny_pure ⟨none, H, I, .none, h⟩
theorem po_some (h : PE X e te) : PO X (some e) (tPart te) := by
  intro pins s σ H Q I hw
  rw [evalPart_some]
  refine thn (h pins s σ H _ I hw) fun u s1 ⟨x, H1, I1, r1, q1⟩ => ?_
  obtain ⟨i, rfl, q⟩ := q1
  obtain ⟨t, rfl⟩ := r1
  exact ⟨some i, H1, I1, .int i t, q⟩

/-- what a slice of a value is, by values: the slice object stands at sl -/
def SlR (X : Cx) (r : V → Option Int → Option Int → Hp → VK → Prop) : Prop :=
  ∀ (pins : List (Addr × Obj)) (s : Shared) (σ : St) (H : Hp) (x : V) (v vl vu : Value) (lo hi : Option Int) (sl : Addr) (Q : VK), Inv X pins σ H s → RelV x v → s.heap.IsSliceOf sl vl vu .none → IsPart vl lo → IsPart vu hi → r x lo hi H Q →
    ∃ T id, typeLookup (.type T) "__getitem__" = pure (some (.builtin id)) ∧ s.TypeIs v T ∧ wpAny (model X.prog X.w) X.A (getItem v (.ref sl)) (EP X pins σ Q) X.xe s
def tSl (r : V → Option Int → Option Int → Hp → VK → Prop) (te : TE) (tl th : TO) : TE := fun σ H Q => te σ H fun x H1 => tl σ H1 fun l H2 => th σ H2 fun u H3 => r x l u H3 Q
/-- a[lo:hi], any a -/
theorem pe_slice {r : V → Option Int → Option Int → Hp → VK → Prop} (hr : SlR X r) (he : PE X e te) (hl : PO X lo tl) (hu : PO X hi th) : PE X (.Subscript e (.Slice lo hi none p2) pos) (tSl r te tl th) := by
  intro pins s σ H Q I h
  refine Subscript_ (thn (he pins s σ H _ I h) fun v s1 ⟨x, H1, I1, r1, q1⟩ => ?_)
  refine wpAny_Slice (thn (hl pins s1 σ H1 _ I1 q1) fun vl s2 ⟨l, H2, I2, pl, q2⟩ => thn (hu pins s2 σ H2 _ I2 q2) fun vu s3 ⟨u, H3, I3, pu, q3⟩ => ?_)
  rw [evalPart_none]
  refine wpAny_pure ?_
  have I4 : Inv X pins σ H3 { s3 with heap := s3.heap.push { cls := .type "slice", data := .fields #[vl, vu, .none] } } := I3.kept (t' := s3.toks) fun b ob q => Heap.get?_push_of_some _ q
  obtain ⟨T, id, hT, ht, hg⟩ := hr pins { s3 with heap := s3.heap.push { cls := .type "slice", data := .fields #[vl, vu, .none] } } σ H3 x v vl vu l u s3.heap.objs.size Q I4 r1 (Heap.IsSliceOf.new ..) pl pu q3
  show wpAny (model X.prog X.w) X.A (subscriptTail e (.Slice lo hi none p2) v (.ref s3.heap.objs.size)) (EP X pins σ Q) X.xe { s3 with heap := s3.heap.push { cls := .type "slice", data := .fields #[vl, vu, .none] } }
  exact tail_any (ops := [.ref s3.heap.objs.size, v]) ht hT hg (by with_unfolding_all rfl)

/-- the items of xs[lo:hi] -/
def cutV (xs : List V) (lo hi : Option Int) : List V := (xs.drop (HT.sIx xs.length 0 lo)).take (HT.sIx xs.length xs.length hi - HT.sIx xs.length 0 lo)
theorem cutV_length (xs : List V) (lo hi : Option Int) : (cutV xs lo hi).length ≤ xs.length := by
  unfold cutV
  rw [List.length_take, List.length_drop]
  omega
/-- t[lo:hi], not the whole of it (the whole would be t itself) -/
def rSlT (K : PySem.W.Frag) : V → Option Int → Option Int → Hp → VK → Prop := fun x lo hi H Q => ∃ a xs, x = .ref a ∧ SqT K H a xs ∧
  ¬ (HT.sIx xs.length 0 lo = 0 ∧ HT.sIx xs.length xs.length hi = xs.length) ∧ ∀ p, H p = none → Q (.ref p) (upd H p (.tup (cutV xs lo hi)))
theorem sl_tup : SlR X (rSlT X.K) := by
  intro pins s σ H x v vl vu lo hi sl Q I rx hs pl pu h
  obtain ⟨a, xs, rfl, hx, hw, q⟩ := h
  cases rx
  obtain ⟨its, r, ht, hz⟩ := I.tuple hx
  have hlen : its.toArray.size = xs.length := by rw [List.size_toArray]; exact r.length.symm
  refine ⟨"tuple", _, PyProof.Rows.slot_tuple_getitem.lookup, ht.typeIs, ?_⟩
  refine HT.getItem_tuple_cut ht hs pl pu (by rw [hlen]; exact hw) ?_ (by rw [hlen]; exact hz)
  rw [hlen]
  refine ⟨.ref s.heap.objs.size, _, I.laid (t' := s.toks) (o := .tup (cutV xs lo hi)) (fun b ob q => Heap.get?_push_of_some _ q) (Nat.le_refl _) ?_, rfl, q _ (I.hok.fresh (Nat.le_refl _))⟩
  exact ⟨Nat.le_trans (cutV_length xs lo hi) hz, _, (r.drop (HT.sIx xs.length 0 lo)).take (HT.sIx xs.length xs.length hi - HT.sIx xs.length 0 lo), IsTup.new _ _, _, Heap.get?_push_size _ rfl, rfl⟩

/-! ### t < u, t + u -/
def rLtT (K : PySem.W.Frag) : R2 := fun x y H Q => ∃ a b ns ms, x = .ref a ∧ y = .ref b ∧ SqT K H a (ns.map V.int) ∧ SqT K H b (ms.map V.int) ∧ Q (.bl (HT.lexLt ns ms)) H
/-- t + u, t not empty: u empty gives t itself -/
def rCatT (K : PySem.W.Frag) : R2 := fun x y H Q => ∃ a b xs ys, x = .ref a ∧ y = .ref b ∧ SqT K H a xs ∧ SqT K H b ys ∧ xs ≠ [] ∧ xs.length + ys.length ≤ sizeLine ∧
  (ys = [] → Q (.ref a) H) ∧ (ys ≠ [] → ∀ p, H p = none → Q (.ref p) (upd H p (.tup (xs ++ ys))))
theorem Vals.nil_iff {xs : List V} {us : List Value} (r : Vals xs us) : us = [] ↔ xs = [] := by
  cases r with
  | nil => simp
  | cons _ _ => simp
theorem op_catT : OpR X (binaryOp .Add) (rCatT X.K) := by
  intro pins s σ H x y v u Q I rx ry h
  obtain ⟨a, b, xs, ys, rfl, rfl, ha, hb, hx, hz, q1, q2⟩ := h
  cases rx
  cases ry
  obtain ⟨its, r1, p1, _⟩ := I.tuple ha
  obtain ⟨its2, r2, p2, _⟩ := I.tuple hb
  refine HT.cat_tup p1 p2 (fun z => hx (r1.nil_iff.mp z)) (fun z => ⟨.ref a, H, I, rfl, q1 (r2.nil_iff.mp z)⟩) (fun z => ?_) (by rw [← r1.length, ← r2.length]; exact hz)
  refine ⟨.ref s.heap.objs.size, _, I.laid (t' := s.toks) (o := .tup (xs ++ ys)) (fun b ob q => Heap.get?_push_of_some _ q) (Nat.le_refl _) ?_, rfl, q2 (fun w => z (r2.nil_iff.mpr w)) _ (I.hok.fresh (Nat.le_refl _))⟩
  exact ⟨by rw [List.length_append]; exact hz, _, r1.append r2, IsTup.new _ _, _, Heap.get?_push_size _ rfl, rfl⟩
end
end L2

namespace L2
open PySem PySem.Spec PyProof.Rows

/-! ### places -/
/-- the place that an index of any sign means -/
def ixN (n : Nat) (i : Int) : Option Nat := if 0 ≤ i then (if i < n then some i.toNat else none) else if -(n : Int) ≤ i then some (i + n).toNat else none
def atI {α : Type} (xs : List α) (i : Int) : Option α := (ixN xs.length i).bind fun j => xs[j]?
theorem ixN_seq {n : Nat} {i : Int} {j : Nat} (h : ixN n i = some j) : seqIndex? i n = some j ∧ j < n ∧ -(n : Int) ≤ i ∧ i < n := by
  unfold ixN at h
  by_cases h0 : 0 ≤ i
  · rw [if_pos h0] at h
    by_cases h1 : i < n
    · rw [if_pos h1] at h
      have e : i.toNat = j := Option.some.inj h
      exact ⟨by rw [seqIndex_of h0 h1, e], by omega, by omega, h1⟩
    · rw [if_neg h1] at h; cases h
  · rw [if_neg h0] at h
    by_cases h1 : -(n : Int) ≤ i
    · rw [if_pos h1] at h
      have e : (i + n).toNat = j := Option.some.inj h
      exact ⟨by rw [seqIndex_neg (by omega) h1, e], by omega, h1, by omega⟩
    · rw [if_neg h1] at h; cases h
theorem atI_get {α : Type} {xs : List α} {i : Int} {v : α} (h : atI xs i = some v) : ∃ j, seqIndex? i xs.length = some j ∧ xs[j]? = some v ∧ j < xs.length ∧ -(xs.length : Int) ≤ i ∧ i < xs.length := by
  unfold atI at h
  cases e : ixN xs.length i with
  | none => rw [e] at h; cases h
  | some j =>
    rw [e] at h
    obtain ⟨h1, h2, h3, h4⟩ := ixN_seq e
    exact ⟨j, h1, h, h2, h3, h4⟩
theorem atI_nat {α : Type} {xs : List α} {j : Nat} {v : α} (h : xs[j]? = some v) : atI xs (j : Int) = some v := by
  have hj : j < xs.length := (List.getElem?_eq_some_iff.mp h).1
  have e : ixN xs.length (j : Int) = some j := by
    unfold ixN
    rw [if_pos (by omega), if_pos (by omega)]; simp
  unfold atI; rw [e]; exact h
/-! ### what may be subscripted -/
/-- what stands as an index of a plain subscript -/
def PlainIx (b : Expr) : Prop := ∀ o i, subscripted b false o i = operate [o, i] (getItem o i)
/-- a subscript by values -/
def IxR (X : Cx) (r : R2) : Prop :=
  ∀ (value slice : Expr) (pins : List (Addr × Obj)) (s : Shared) (σ : St) (H : Hp) (x y : V) (v u : Value) (Q : VK), Inv X pins σ H s → RelV x v → RelV y u → r x y H Q →
    subscripted slice false v u = operate [v, u] (getItem v u) → wpAny (model X.prog X.w) X.A (subscriptTail value slice v u) (EP X pins σ Q) X.xe s
/-- a call of a builtin's method by values: the receiver, the arguments -/
def MtR (X : Cx) (id : String) (r : V → List V → Hp → VK → Prop) : Prop :=
  ∀ (pins : List (Addr × Obj)) (s : Shared) (σ : St) (H : Hp) (x : V) (xs : List V) (v : Value) (us : List Value) (Q : VK), Inv X pins σ H s → RelV x v → Vals xs us → r x xs H Q →
    wpAny (model X.prog X.w) X.A (call (.builtin id) (v :: us)) (EP X pins σ Q) X.xe s
section
variable {X : Cx} {a b : Expr} {ta tb : TE} {pos : Pos}
/-- a[b] -/
theorem pe_ix {r : R2} (hr : IxR X r) (ha : PE X a ta) (hb : PE X b tb) (hs : PlainIx b) : PE X (.Subscript a b pos) (tOp r ta tb) := by
  intro pins s σ H Q I h
  exact Subscript_ (binT ha hb I h fun v u s2 x y H2 I2 rx ry q => hr a b pins s2 σ H2 x y v u Q I2 rx ry q (hs _ _))

def rIxL (K : PySem.W.Frag) : R2 := fun x y H Q => ∃ p xs i v, x = .ref p ∧ y = .int i ∧ SqL K H p xs ∧ atI xs i = some v ∧ Q v H
def rIxT (K : PySem.W.Frag) : R2 := fun x y H Q => ∃ p xs i v, x = .ref p ∧ y = .int i ∧ SqT K H p xs ∧ atI xs i = some v ∧ Q v H
def rIxS : R2 := fun x y H Q => ∃ z i c, x = .str z ∧ y = .int i ∧ z.length ≤ sizeLine ∧ atI z.cps.toList i = some c ∧ Q (.str ⟨#[c]⟩) H
theorem ix_list : IxR X (rIxL X.K) := by
  intro value slice pins s σ H x y v u Q I rx ry h hs
  obtain ⟨p, xs, i, z, rfl, rfl, hq, he, q⟩ := h
  cases rx
  obtain ⟨t, rfl⟩ := ry
  obtain ⟨its, r, pl, hz⟩ := I.list hq
  obtain ⟨j, h1, h2, h3, h4, h5⟩ := atI_get he
  obtain ⟨w, ew, rw'⟩ := r.get h2
  have hl := r.length
  have hn := line63
  have fin : EP X pins σ Q w s := ⟨z, H, I, rw', q⟩
  by_cases h0 : 0 ≤ i
  · have hj : i.toNat = j := by
      rw [seqIndex_of h0 h5] at h1
      exact Option.some.inj h1
    exact item_listR pl.isList h0 (by omega) (by rw [hj]; simpa using ew) fin hs
  · have hj : (i + (its.toArray.size : Int)).toNat = j := by
      rw [seqIndex_neg (by omega) h4] at h1
      rw [List.size_toArray, ← hl]
      exact Option.some.inj h1
    exact subscriptTail_builtinR (x := w) pl.isList.typeIs slot_list_getitem.lookup
      (wpAny_getItem_list_neg (Q := fun r s' => r = w ∧ EP X pins σ Q r s') pl.isList (by omega) (by rw [List.size_toArray] <;> omega) (by omega) (by rw [hj]; simpa using ew) ⟨rfl, fin⟩) hs
theorem ix_tup : IxR X (rIxT X.K) := by
  intro value slice pins s σ H x y v u Q I rx ry h hs
  obtain ⟨p, xs, i, z, rfl, rfl, hq, he, q⟩ := h
  cases rx
  obtain ⟨t, rfl⟩ := ry
  obtain ⟨its, r, pl, hz⟩ := I.tuple hq
  obtain ⟨j, h1, h2, h3, h4, h5⟩ := atI_get he
  obtain ⟨w, ew, rw'⟩ := r.get h2
  have hl := r.length
  have hn := line63
  have fin : EP X pins σ Q w s := ⟨z, H, I, rw', q⟩
  exact subscriptTail_builtinR (x := w) pl.typeIs slot_tuple_getitem.lookup
    (getItem_tuple (j := j) (Q := fun r s' => r = w ∧ EP X pins σ Q r s') pl (by omega) (by omega) (by rw [List.size_toArray, ← hl]; exact h1) (by simpa using ew) ⟨rfl, fin⟩) hs
/-- list, tuple or str -/
def rIx (K : PySem.W.Frag) : R2 := fun x y H Q => rIxL K x y H Q ∨ rIxT K x y H Q ∨ rIxS x y H Q
/-! ### xs[i] = v, any sign -/
/-- the list's object behind a store -/
theorem mapSeq_set (its : List Value) (n j : Nat) (u : Value) : Obj.mapSeq (·.setIfInBounds j u) { cls := .type "list", data := .seq its.toArray n } = { cls := .type "list", data := .seq (its.set j u).toArray n } := by
  simp [Obj.mapSeq]
theorem Inv.lst {pins : List (Addr × Obj)} {σ : St} {H : Hp} {s : Shared} {p : Addr} {xs : List V} (I : Inv X pins σ H s) (h : H p = some (.lst xs)) :
    ∃ (its : List Value) (n : Nat), Vals xs its ∧ s.heap.get? p = some { cls := .type "list", data := .seq its.toArray n } ∧ xs.length ≤ sizeLine := by
  obtain ⟨z, its, n, r, e⟩ := I.hok p _ h
  exact ⟨its, n, r, e, z⟩
/-- the list at p is written by an update of its object -/
theorem Inv.lstUpd {pins : List (Addr × Obj)} {σ : St} {H : Hp} {s : Shared} {p : Addr} {xs ys : List V} {its its' : List Value} {n n' : Nat} {f : Obj → Obj} (I : Inv X pins σ H s) (h : H p = some (.lst xs))
    (ho : s.heap.get? p = some { cls := .type "list", data := .seq its.toArray n }) (hf : f { cls := .type "list", data := .seq its.toArray n } = { cls := .type "list", data := .seq its'.toArray n' }) (r : Vals ys its') (hz : ys.length ≤ sizeLine) (t : Nat) :
    Inv X pins σ (upd H p (.lst ys)) { s with heap := s.heap.update p f, toks := t } := by
  have e : (s.heap.update p f).get? p = some { cls := .type "list", data := .seq its'.toArray n' } := by
    rw [Heap.get?_update_self f ho (by rw [hf] <;> rfl), hf]
  refine I.write (x := p) (e := p) (by rw [h]; trivial) (.inl rfl) (fun b u hb q => (Heap.get?_update_other _ _ (Ne.symm hb)).trans q) ⟨_, e⟩ ?_
  exact ⟨hz, its', n', r, e⟩
def rSetL : V → V → V → Hp → (Hp → Prop) → Prop := fun o i v H Q => ∃ p xs k j, o = .ref p ∧ i = .int k ∧ H p = some (.lst xs) ∧ ixN xs.length k = some j ∧ Q (upd H p (.lst (xs.set j v)))
theorem set_list : PSet X rSetL := by
  intro pins s σ H o i v ov iv u Q I ro ri rv h
  obtain ⟨p, xs, k, j, rfl, rfl, hp, hj, q⟩ := h
  cases ro
  obtain ⟨t, rfl⟩ := ri
  obtain ⟨its, n, r, ho, hz⟩ := I.lst hp
  obtain ⟨h1, h2, h3, h4⟩ := ixN_seq hj
  have hl := r.length
  have hn := line63
  have I' : Inv X pins σ (upd H p (.lst (xs.set j v))) { s with heap := s.heap.update p (Obj.mapSeq (·.setIfInBounds j u)) } :=
    I.lstUpd hp ho (mapSeq_set its n j u) (r.set rv j) (by rw [List.length_set]; exact hz) s.toks
  by_cases h0 : 0 ≤ k
  · have hk : k.toNat = j := by
      rw [seqIndex_of h0 h4] at h1
      exact Option.some.inj h1
    exact PySem.W.ki_setAt ho h0 (by omega) (by rw [List.size_toArray, ← hl]; exact h4) (by rw [hk]; exact ⟨_, I', q⟩)
  · have hk : (k + (its.toArray.size : Int)).toNat = j := by
      rw [seqIndex_neg (by omega) h3] at h1
      rw [List.size_toArray, ← hl]
      exact Option.some.inj h1
    exact PySem.W.ki_setBack ho (by omega) (by rw [List.size_toArray, ← hl]; exact h3) (by omega) (by rw [hk]; exact ⟨_, I', q⟩)

/-! ### slices -/
theorem slice_bounds (lo hi : Option Int) (n : Nat) : (sliceBounds lo hi none n).1 = ((HT.sIx n 0 lo : Nat) : Int) ∧ (sliceBounds lo hi none n).2.1 = ((HT.sIx n n hi : Nat) : Int) ∧ (sliceBounds lo hi none n).2.2 = 1 := by
  refine ⟨?_, ?_, rfl⟩
  · cases lo with
    | none => simp [sliceBounds, HT.sIx]
    | some i =>
      simp only [sliceBounds, HT.sIx, Option.getD_none, show (1 : Int) > 0 by decide, if_true]
      by_cases h : i < 0
      · simp only [h, if_true] <;> omega
      · simp only [h, if_false] <;> omega
  · cases hi with
    | none => simp [sliceBounds, HT.sIx]
    | some i =>
      simp only [sliceBounds, HT.sIx, Option.getD_none, show (1 : Int) > 0 by decide, if_true]
      by_cases h : i < 0
      · simp only [h, if_true] <;> omega
      · simp only [h, if_false] <;> omega
theorem slicePick_cut (its : List Value) (lo hi : Option Int) : slicePick its.toArray lo hi none = ((its.drop (HT.sIx its.length 0 lo)).take (HT.sIx its.length its.length hi - HT.sIx its.length 0 lo)).toArray := by
  obtain ⟨h1, h2, h3⟩ := slice_bounds lo hi its.toArray.size
  unfold slicePick
  rw [h1, h2, h3]
  simp only [sliceRange_one, pick_run, List.size_toArray] <;> rfl
/-- xs[lo:hi] of a list: a new list -/
def rSlL (K : PySem.W.Frag) : V → Option Int → Option Int → Hp → VK → Prop := fun x lo hi H Q => ∃ a xs, x = .ref a ∧ SqL K H a xs ∧ ∀ p, H p = none → Q (.ref p) (upd H p (.lst (cutV xs lo hi)))
theorem sl_list : SlR X (rSlL X.K) := by
  intro pins s σ H x v vl vu lo hi sl Q I rx hs pl pu h
  obtain ⟨a, xs, rfl, hx, q⟩ := h
  cases rx
  obtain ⟨its, r, ht, hz⟩ := I.list hx
  have hlen := r.length
  refine ⟨"list", _, slot_list_getitem.lookup, ht.isList.typeIs, ?_⟩
  refine wpAny_getItem_list_slice ht.isList hs pl pu .none (by simp) ?_ (by rw [List.size_toArray] <;> omega)
  rw [slicePick_cut, ← hlen]
  refine ⟨.ref s.heap.objs.size, _, I.laid (t' := s.toks) (o := .lst (cutV xs lo hi)) (fun b ob q => Heap.get?_push_of_some _ q) (Nat.le_refl _) ?_, rfl, q _ (I.hok.fresh (Nat.le_refl _))⟩
  exact ⟨Nat.le_trans (cutV_length xs lo hi) hz, _, 0, (r.drop (HT.sIx xs.length 0 lo)).take (HT.sIx xs.length xs.length hi - HT.sIx xs.length 0 lo), Heap.get?_push_size _ rfl⟩

/-! ### in, not in: flat items -/
def flatV : V → Bool
  | .non => true
  | .bl _ => true
  | .int _ => true
  | .str _ => true
  | _ => false
/-- == of flat values -/
def eqV : V → V → Bool
  | .non, .non => true
  | .bl a, .bl b => a == b
  | .bl a, .int b => (if a then 1 else 0) == b
  | .int a, .bl b => a == (if b then 1 else 0)
  | .int a, .int b => a == b
  | .str a, .str b => a == b
  | _, _ => false
theorem eqAt_V {A : Around} {s : Shared} {y x : V} {u v : Value} (ry : RelV y u) (rx : RelV x v) (fy : flatV y = true) (fx : flatV x = true) : SeqAt.EqAt A s u v (eqV y x) := by
  cases y with
  | non =>
    cases ry
    cases x with
    | non => cases rx; exact SeqAt.EqAt.same _
    | bl b => cases rx; exact SeqAt.EqAt.none_bool b
    | int b => obtain ⟨t, rfl⟩ := rx; exact SeqAt.EqAt.none_int b t
    | str b => obtain ⟨t, rfl⟩ := rx; exact SeqAt.EqAt.none_str b t
    | _ => exact absurd (show false = true from fx) Bool.false_ne_true
  | bl a =>
    cases ry
    cases x with
    | non => cases rx; exact SeqAt.EqAt.bool_none a
    | bl b => cases rx; exact SeqAt.EqAt.bool_bool a b
    | int b => obtain ⟨t, rfl⟩ := rx; exact SeqAt.EqAt.bool_int a b t
    | str b => obtain ⟨t, rfl⟩ := rx; exact SeqAt.EqAt.bool_str a b t
    | _ => exact absurd (show false = true from fx) Bool.false_ne_true
  | int a =>
    obtain ⟨t', rfl⟩ := ry
    cases x with
    | non => cases rx; exact SeqAt.EqAt.int_none a t'
    | bl b => cases rx; exact SeqAt.EqAt.int_bool a t' b
    | int b => obtain ⟨t, rfl⟩ := rx; exact SeqAt.EqAt.int_int a t' b t
    | str b => obtain ⟨t, rfl⟩ := rx; exact SeqAt.EqAt.int_str a t' b t
    | _ => exact absurd (show false = true from fx) Bool.false_ne_true
  | str a =>
    obtain ⟨t', rfl⟩ := ry
    cases x with
    | non => cases rx; exact SeqAt.EqAt.str_none a t'
    | bl b => cases rx; exact SeqAt.EqAt.str_bool a t' b
    | int b => obtain ⟨t, rfl⟩ := rx; exact SeqAt.EqAt.str_int a t' b t
    | str b => obtain ⟨t, rfl⟩ := rx; exact SeqAt.EqAt.str_str a t' b t
    | _ => exact absurd (show false = true from fx) Bool.false_ne_true
  | _ => exact absurd (show false = true from fy) Bool.false_ne_true
/-- the items' answers, read off the values (a value's own answer does not lean on its token) -/
def eqU (x : V) (u : Value) : Bool := match u with
  | .none => eqV .non x
  | .bool b => eqV (.bl b) x
  | .int i _ => eqV (.int i) x
  | .str z _ => eqV (.str z) x
  | _ => false
theorem eqU_of {x y : V} {u : Value} (r : RelV y u) (f : flatV y = true) : eqU x u = eqV y x := by
  cases y with
  | non => cases r; rfl
  | bl b => cases r; rfl
  | int i => obtain ⟨t, rfl⟩ := r; rfl
  | str z => obtain ⟨t, rfl⟩ := r; rfl
  | _ => exact absurd (show false = true from f) Bool.false_ne_true
theorem any_eqU {x : V} : ∀ {xs : List V} {us : List Value}, Vals xs us → xs.all flatV = true → us.any (eqU x) = xs.any fun y => eqV y x
  | _, _, .nil, _ => rfl
  | y :: xs, u :: us, .cons r t, f => by
    rw [List.all_cons, Bool.and_eq_true] at f
    rw [List.any_cons, List.any_cons, eqU_of r f.1, any_eqU t f.2]
theorem mem_eqAt {A : Around} {s : Shared} {x : V} {v : Value} (rx : RelV x v) (fx : flatV x = true) : ∀ {xs : List V} {us : List Value}, Vals xs us → xs.all flatV = true → ∀ u ∈ us, SeqAt.EqAt A s u v (eqU x u)
  | _, _, .nil, _ => fun u hu => by cases hu
  | y :: xs, u :: us, .cons r t, f => fun u' hu => by
    rw [List.all_cons, Bool.and_eq_true] at f
    rcases List.mem_cons.mp hu with rfl | hu
    · rw [eqU_of r f.1]; exact eqAt_V r rx f.1 fx
    · exact mem_eqAt rx fx t f.2 u' hu
def inV (x : V) (xs : List V) : Bool := xs.any fun y => eqV y x
/-- x in a list or tuple of flat items -/
def rIn (K : PySem.W.Frag) (neg : Bool) : R2 := fun x y H Q => ∃ p xs, y = .ref p ∧ (SqL K H p xs ∨ SqT K H p xs) ∧ flatV x = true ∧ xs.all flatV = true ∧ Q (.bl (if neg then !inV x xs else inV x xs)) H
theorem op_in_seq : OpR X (compareOp .In) (rIn X.K false) := by
  intro pins s σ H x y v u Q I rx ry h
  obtain ⟨p, xs, rfl, hq, fx, fs, q⟩ := h
  cases ry
  rcases hq with hq | hq
  · obtain ⟨its, r, pl, hz⟩ := I.list hq
    refine SeqAt.in_listAt (eqU x) pl.isList (fun w hw => mem_eqAt rx fx r fs w (by simpa using hw)) ⟨.bl _, H, I, rfl, ?_⟩
    rw [show its.toArray.any (eqU x) = its.any (eqU x) by simp, any_eqU r fs]
    exact q
  · obtain ⟨its, r, pl, hz⟩ := I.tuple hq
    refine SeqAt.in_tupleAt (eqU x) pl (fun w hw => mem_eqAt rx fx r fs w (by simpa using hw)) ⟨.bl _, H, I, rfl, ?_⟩
    rw [show its.toArray.any (eqU x) = its.any (eqU x) by simp, any_eqU r fs]
    exact q
theorem op_notIn_seq : OpR X (compareOp .NotIn) (rIn X.K true) := by
  intro pins s σ H x y v u Q I rx ry h
  obtain ⟨p, xs, rfl, hq, fx, fs, q⟩ := h
  cases ry
  rcases hq with hq | hq
  · obtain ⟨its, r, pl, hz⟩ := I.list hq
    refine SeqAt.notIn_listAt (eqU x) pl.isList (fun w hw => mem_eqAt rx fx r fs w (by simpa using hw)) ⟨.bl _, H, I, rfl, ?_⟩
    rw [show its.toArray.any (eqU x) = its.any (eqU x) by simp, any_eqU r fs]
    exact q
  · obtain ⟨its, r, pl, hz⟩ := I.tuple hq
    refine SeqAt.notIn_tupleAt (eqU x) pl (fun w hw => mem_eqAt rx fx r fs w (by simpa using hw)) ⟨.bl _, H, I, rfl, ?_⟩
    rw [show its.toArray.any (eqU x) = its.any (eqU x) by simp, any_eqU r fs]
    exact q
/-! ### len, list(x), tuple(x) of any list or tuple that is read -/
theorem call_len_seq : CallR X (.builtin "len") (fun xs H Q => ∃ p ys, xs = [.ref p] ∧ (SqL X.K H p ys ∨ SqT X.K H p ys) ∧ Q (.int ys.length) H) := by
  intro pins s σ H xs us Q I r h
  obtain ⟨p, ys, rfl, hq, q⟩ := h
  obtain ⟨u, rfl, rx⟩ := vals1 r
  cases rx
  have hn := line63
  rcases hq with hq | hq
  · obtain ⟨its, r', pl, hz⟩ := I.list hq
    have hlen := r'.length
    exact Calls.call_len_list pl.isList (by simp only [List.size_toArray] <;> omega) ⟨.int ys.length, H, I.tok _, ⟨s.toks + 1, by rw [List.size_toArray, hlen]⟩, q⟩
  · obtain ⟨its, r', pl, hz⟩ := I.tuple hq
    have hlen := r'.length
    exact len_tuple pl (by simp only [List.size_toArray] <;> omega) ⟨.int ys.length, H, I.tok _, ⟨s.toks + 1, by rw [List.size_toArray, hlen]⟩, q⟩
/-! ### the call of a builtin's method: o.m(..) -/
/-- the value is of that builtin type -/
def tyV (K : PySem.W.Frag) (T : String) (x : V) (H : Hp) : Prop := match x with
  | .str _ => T = "str"
  | .int _ => T = "int"
  | .ref p => (T = "list" ∧ ∃ xs, SqL K H p xs) ∨ (T = "tuple" ∧ ((∃ o, K.lookup p = some o ∧ o.cls = .type "tuple" ∧ o.dict = none) ∨ ∃ xs, H p = some (.tup xs))) ∨
      (T = "dict" ∧ ((∃ kvs, H p = some (.dK kvs)) ∨ ∃ kvs, H p = some (.dT kvs))) ∨ (T = "set" ∧ ∃ S n, H p = some (.set S n))
  | _ => False
theorem tyV_is {pins : List (Addr × Obj)} {σ : St} {H : Hp} {s : Shared} {T : String} {x : V} {v : Value} (I : Inv X pins σ H s) (r : RelV x v) (ty : tyV X.K T x H) :
    s.TypeIs v T ∧ ∀ a, v = .ref a → ∃ ob, s.heap.get? a = some ob ∧ ob.dict = none := by
  cases x with
  | str z =>
    obtain ⟨t, rfl⟩ := r
    cases (show T = "str" from ty)
    exact ⟨typeIs_str s z t, fun _ e => nomatch e⟩
  | int i =>
    obtain ⟨t, rfl⟩ := r
    cases (show T = "int" from ty)
    exact ⟨typeIs_int s i t, fun _ e => nomatch e⟩
  | ref p =>
    cases r
    rcases ty with ⟨rfl, xs, hq⟩ | ⟨rfl, ⟨o, hk, hc, hd⟩ | ⟨xs, hx⟩⟩ | ⟨rfl, hk⟩ | ⟨rfl, S, n, hk⟩
    · obtain ⟨its, _, pl, _⟩ := I.list hq
      refine ⟨pl.isList.typeIs, fun a e => ?_⟩
      cases e
      obtain ⟨o, n, e, c, hd, _⟩ := pl
      exact ⟨o, e, hd⟩
    · refine ⟨⟨o, I.kIn p o hk, hc⟩, fun a e => ?_⟩
      cases e
      exact ⟨o, I.kIn _ o hk, hd⟩
    · obtain ⟨_, _, _, ⟨o, e, c, _⟩, o2, e2, hd⟩ := (show ObjOk X.prog X.w H s.heap p (.tup xs) from I.hok p _ hx)
      refine ⟨⟨o, e, c⟩, fun a e3 => ?_⟩
      cases e3
      exact ⟨o2, e2, hd⟩
    · have z : ∃ o, s.heap.get? p = some o ∧ o.ExactDict := by
        rcases hk with ⟨kvs, hk⟩ | ⟨kvs, hk⟩
        · obtain ⟨_, _, _, _, o, _, _, e, ex, _⟩ := I.hok p _ hk
          exact ⟨o, e, ex⟩
        · obtain ⟨_, _, _, _, o, _, _, e, ex, _⟩ := I.hok p _ hk
          exact ⟨o, e, ex⟩
      obtain ⟨o, e, ex⟩ := z
      refine ⟨⟨o, e, ex.1⟩, fun a e2 => ?_⟩
      cases e2
      exact ⟨o, e, ex.2.1⟩
    · obtain ⟨o, _, _, _, e, ex, _⟩ := I.hok p _ hk
      refine ⟨⟨o, e, ex.1⟩, fun a e2 => ?_⟩
      cases e2
      exact ⟨o, e, ex.2.1⟩
  | _ => exact False.elim ty
def tBM0 (K : PySem.W.Frag) (T : String) (r : V → List V → Hp → VK → Prop) (to : TE) : TE := fun σ H Q => to σ H fun x H1 => tyV K T x H1 ∧ r x [] H1 Q
def tBM (K : PySem.W.Frag) (T : String) (r : V → List V → Hp → VK → Prop) (to : TE) (t : TA) : TE := fun σ H Q => to σ H fun x H1 => tyV K T x H1 ∧ t σ H1 fun xs H2 => r x xs H2 Q
variable {o e : Expr} {es : List Expr} {to : TE} {t : TA} {name : Str} {apos cpos : Pos} {T id : String} {r : V → List V → Hp → VK → Prop}
theorem pe_bm (pa : PlainAttrs T) (slot : Slot T name id) (hty : typeOf (.builtin id) = pure (.type "method_descriptor")) (hm : MtR X id r) (ho : PE X o to) (ha : PA X (e :: es) t)
    (hbase : attributeBase o name X.env (eval o X.env) = eval o X.env := by rfl)
    (hfew : ((backTo cpos (starEach (e :: es) X.env)).all (fun x => !x.1) && (backToKw cpos (keywordEach [] X.env)).all (fun x => x.1.isSome)
      && decide ((e :: es).length + ([] : List Keyword).length + (if ([] : List Keyword).isEmpty then 0 else 1) < 30)) = true := by rfl)
    (hline : (apos.endLine == cpos.line) = true := by rfl) (hs : starEach (e :: es) X.env = (false, eval e X.env) :: starEach es X.env := by rfl) (hplain : (backTo cpos (starEach es X.env)).any (·.1) = false := by rfl) :
    PE X (.Call (.Attribute o name apos) (e :: es) [] cpos) (tBM X.K T r to t) := by
  intro pins s σ H Q I h
  refine wpAny_Call_method_late hbase hfew hline rfl (thn (ho pins s σ H _ I h) fun v s1 ⟨x, H1, I1, r1, ty, q1⟩ => ?_)
  obtain ⟨h1, h2⟩ := tyV_is I1 r1 ty
  refine ⟨T, id, pa, slot, hty, h1, h2, ?_⟩
  have hA := ha cpos pins s1 σ H1 _ I1 q1
  rw [hs] at hA ⊢
  refine Calls.callWith_builtin (by show (false || (backTo cpos (starEach es X.env)).any (·.1)) = false; rw [hplain] <;> rfl) (Calls.evalArgs_plain ?_)
  exact thn hA fun us s2 ⟨vs, H2, I2, r2, q2⟩ => hm pins s2 σ H2 x vs v us Q I2 r1 r2 q2
/- xs.append(e), list.index on a module's tuple .. are MtR facts of 06m -/
end
end L2

namespace L2
open PySem PySem.Spec PyProof.Rows

def MtM (X : Cx) (id : String) (r : V → List V → Hp → VK → Prop) : Prop :=
  ∀ (pins : List (Addr × Obj)) (s : Shared) (σ : St) (H : Hp) (x : V) (xs : List V) (v : Value) (us : List Value) (Q : VK), Inv X pins σ H s → RelV x v → Vals xs us → r x xs H Q →
    wpAny (model X.prog X.w) X.A (call (.builtin id) (v :: us)) (EP X pins σ Q) X.xe s

/-! ### lists of values -/
theorem Vals.one : ∀ {x : V} {us : List Value}, Vals [x] us → ∃ u, us = [u] ∧ RelV x u
  | _, _, .cons r .nil => ⟨_, rfl, r⟩
theorem Vals.rep {xs : List V} {us : List Value} (h : Vals xs us) : ∀ k : Nat, Vals (List.replicate k xs).flatten (List.replicate k us).flatten
  | 0 => .nil
  | k + 1 => by
    rw [List.replicate_succ, List.replicate_succ, List.flatten_cons, List.flatten_cons]
    exact Vals.append h (Vals.rep h k)
theorem foldl_rep (its : List Value) : ∀ (k : Nat) (acc : List Value),
    List.foldl (fun x1 x2 => x1 ++ x2) acc.toArray (List.replicate k its.toArray) = (acc ++ (List.replicate k its).flatten).toArray
  | 0, acc => by simp
  | k + 1, acc => by
    have e : acc.toArray ++ its.toArray = (acc ++ its).toArray := by simp
    have e2 : (acc ++ its) ++ (List.replicate k its).flatten = acc ++ (List.replicate (k + 1) its).flatten := by
      rw [List.replicate_succ, List.flatten_cons, List.append_assoc]
    rw [← e2, ← foldl_rep its k (acc ++ its), ← e, List.replicate_succ, List.foldl_cons]

section
variable {X : Cx} {pins : List (Addr × Obj)} {σ : St} {H : Hp} {s : Shared} {l b : Addr} {xs ys zs : List V}

/-! ### the two steps: a tracked list is rewritten, a new list is laid -/
theorem Inv.lset {its its' : List Value} {n : Nat} {f : Array Value → Array Value} {t' : Nat} (I : Inv X pins σ H s) (hH : H l = some (.lst xs))
    (e : s.heap.get? l = some { cls := .type "list", data := .seq its.toArray n }) (hf : f its.toArray = its'.toArray) (hv : Vals ys its') (hz : ys.length ≤ sizeLine) :
    Inv X pins σ (upd H l (.lst ys)) { s with heap := s.heap.update l (Obj.mapSeq f), toks := t' } := by
  have q := PySem.IsL.update e f
  rw [hf] at q
  refine I.write (x := l) (e := l) (by rw [hH]; exact trivial) (.inl rfl) (fun b' u hb hu => (Heap.get?_update_other s.heap (Obj.mapSeq f) (Ne.symm hb)).trans hu) ⟨_, q⟩ ?_
  exact ⟨hz, its', _, hv, q⟩
theorem Inv.lnew {its : List Value} {t' : Nat} (I : Inv X pins σ H s) (hv : Vals ys its) (hz : ys.length ≤ sizeLine) :
    Inv X pins σ (upd H s.heap.objs.size (.lst ys)) { s with heap := s.heap.push { cls := .type "list", data := .seq its.toArray }, toks := t' } :=
  I.laid (fun _ _ q => Heap.get?_push_of_some _ q) (Nat.le_refl _) ⟨hz, its, 0, hv, Heap.get?_push_size _ rfl⟩
theorem Inv.fresh (I : Inv X pins σ H s) : H s.heap.objs.size = none := I.hok.fresh (Nat.le_refl _)
theorem Inv.lstM (I : Inv X pins σ H s) (hH : H l = some (.lst xs)) : xs.length ≤ sizeLine ∧ ∃ (its : List Value) (n : Nat), Vals xs its ∧ xs.length = its.length ∧ s.heap.get? l = some { cls := .type "list", data := .seq its.toArray n } := by
  obtain ⟨z, its, n, r, e⟩ := I.hok l _ hH
  exact ⟨z, its, n, r, r.length, e⟩

theorem notLongL {n : Nat} (h : n ≤ sizeLine) : Builtin.List.listTooLong n = false := by
  unfold Builtin.List.listTooLong
  exact decide_eq_false (by omega)
end

section
variable {X : Cx}

/-! ### methods -/
def rAppend : V → List V → Hp → VK → Prop := fun x vs H Q => ∃ l xs y, x = .ref l ∧ vs = [y] ∧ H l = some (.lst xs) ∧ xs.length < sizeLine ∧ Q .non (upd H l (.lst (xs ++ [y])))
def rExtend : V → List V → Hp → VK → Prop := fun x vs H Q => ∃ l b xs zs, x = .ref l ∧ vs = [.ref b] ∧ H l = some (.lst xs) ∧ H b = some (.lst zs) ∧ xs.length + zs.length ≤ sizeLine ∧ Q .non (upd H l (.lst (xs ++ zs)))
theorem mt_extend : MtM X "list.extend" rExtend := by
  intro pins s σ H x vs v us Q I rx rv h
  obtain ⟨l, b, xs, zs, rfl, rfl, hH, hB, hz, q⟩ := h
  cases rx
  obtain ⟨u, rfl, ru⟩ := rv.one
  cases ru
  obtain ⟨z, its, n, r, hl, e⟩ := I.lstM hH
  obtain ⟨z2, its2, n2, r2, hl2, e2⟩ := I.lstM hB
  have hsz : its.toArray.size + its2.toArray.size ≤ sizeLine := by rw [List.size_toArray, List.size_toArray]; omega
  have hlong : ¬ (!its.toArray.isEmpty && Builtin.List.listTooLong (its.toArray.size + its2.toArray.size)) = true := by
    rw [notLongL hsz, Bool.and_false]
    exact Bool.false_ne_true
  refine call_meets F.slot_list_extend ⟨_, e, rfl⟩ F.entry_list_extend (F.args_list_extend_2 _ _)
    (AutoSeq1.list_extend_list_list_0 l its.toArray n b its2.toArray n2 hlong (by rw [List.size_toArray]; omega) (by omega)) ⟨e, e2, ?_⟩
  refine ⟨.non, _, I.lset (its' := its ++ its2) hH e (by simp) (r.append r2) ?_, rfl, q⟩
  rw [List.length_append]
  omega

def rPop : V → List V → Hp → VK → Prop := fun x vs H Q => ∃ l xs y, x = .ref l ∧ vs = [] ∧ H l = some (.lst xs) ∧ xs[xs.length - 1]? = some y ∧ Q y (upd H l (.lst xs.dropLast))
def rPopAt : V → List V → Hp → VK → Prop := fun x vs H Q => ∃ l xs i k y, x = .ref l ∧ vs = [.int i] ∧ H l = some (.lst xs) ∧ -(2 ^ 63) ≤ i ∧ i < 2 ^ 63 ∧ seqIndex? i xs.length = some k ∧ xs[k]? = some y ∧ Q y (upd H l (.lst (xs.eraseIdx k)))
def rReverse : V → List V → Hp → VK → Prop := fun x vs H Q => ∃ l xs, x = .ref l ∧ vs = [] ∧ H l = some (.lst xs) ∧ Q .non (upd H l (.lst xs.reverse))
def rClear : V → List V → Hp → VK → Prop := fun x vs H Q => ∃ l xs, x = .ref l ∧ vs = [] ∧ H l = some (.lst xs) ∧ Q .non (upd H l (.lst []))
/-! ### list + list, list += list, list * int -/
def rCat : R2 := fun x y H Q => ∃ l b xs zs, x = .ref l ∧ y = .ref b ∧ H l = some (.lst xs) ∧ H b = some (.lst zs) ∧ xs.length + zs.length ≤ sizeLine ∧ ∀ p, H p = none → Q (.ref p) (upd H p (.lst (xs ++ zs)))
theorem op_cat : OpR X (binaryOp .Add) rCat := by
  intro pins s σ H x y v u Q I rx ry h
  obtain ⟨l, b, xs, zs, rfl, rfl, hH, hB, hz, q⟩ := h
  cases rx
  cases ry
  obtain ⟨z, its, n, r, hl, e⟩ := I.lstM hH
  obtain ⟨z2, its2, n2, r2, hl2, e2⟩ := I.lstM hB
  refine PySem.P.add_list e e2 ?_ (by rw [List.size_toArray, List.size_toArray]; omega)
  have ea : its.toArray ++ its2.toArray = (its ++ its2).toArray := by simp
  rw [ea]
  exact ⟨.ref _, _, I.lnew (t' := s.toks) (r.append r2) (by rw [List.length_append]; omega), rfl, q _ I.fresh⟩
/-- a list times an int (a negative one is nothing) -/
def rRep : R2 := fun x y H Q => ∃ l k xs, x = .ref l ∧ y = .int k ∧ H l = some (.lst xs) ∧ -(2 ^ 63) ≤ k ∧ k < 2 ^ 63 ∧ xs.length * k.toNat ≤ sizeLine ∧
  ∀ p, H p = none → Q (.ref p) (upd H p (.lst (List.replicate k.toNat xs).flatten))
theorem len_rep {α : Type} (xs : List α) (k : Nat) : (List.replicate k xs).flatten.length = k * xs.length := by
  induction k with
  | zero => simp
  | succ k ih => rw [List.replicate_succ, List.flatten_cons, List.length_append, ih, Nat.succ_mul, Nat.add_comm]
/-! ### del xs[i] -/
end

/-! ### xs[a:b] = ys -/
section
variable {prog : Program} {w : World} {A : Around} {E : Value → Shared → Prop} {s : Shared}
end

section
variable {X : Cx}
end
end L2

namespace Att
open PySem PySem.W PySem.Calls PyProof.Rows

/-! ### the script -/
theorem ints_of_wellAll {P : Params} {h : Heap} : ∀ (ns : List Int) (vs : List Value), WellAll P h vs (ns.map WData.int) → IntsAre vs ns := by
  intro ns
  induction ns with
  | nil =>
    intro vs w
    rw [List.map_nil] at w
    cases w
    exact .nil
  | cons n ns ih =>
    intro vs w
    rw [List.map_cons] at w
    cases w with
    | cons a b =>
      cases a
      exact .cons _ _ (ih _ b)

theorem script_of {l : OpenLaw} {n : Nat} (hn : l.most = some n) {P : Params} {h : Heap} {args : List WData} {vals : List Value}
    (hpre : l.row.toRowW.claim.pre args = true) (hwl : WellAll P h vals args) :
    ∃ a vs ns, vals = [Value.ref a] ∧ args = [WData.list (ns.map WData.int)] ∧ h.get? a = some { cls := .type "list", data := .seq vs.toArray } ∧ IntsAre vs ns ∧ ns.length ≤ n := by
  have hsh : WShape.hasAll [] args [.list .int] = true := (pre_splitW hpre).1
  have hc : l.pre.holds [] { args := args } = true := (pre_splitW hpre).2
  obtain ⟨d, r, rfl, h1, h2⟩ := hasAllW_cons hsh
  obtain rfl := hasAllW_nil h2
  obtain ⟨xs, rfl, h3⟩ := hasW_list h1
  obtain ⟨ns, rfl⟩ := items_int h3
  have hlen : ns.length ≤ n := by
    unfold OpenLaw.pre at hc
    have h4 : (WTm.not (.lt (.lit (.int (n : Int))) (.len (.arg 0)))).holds [] { args := [.list (ns.map .int)] } = true := by
      have h4 := (holds_andW hc).1
      rw [hn] at h4
      exact h4
    have h5 := condW_of h4 (w_not (w_lt w_lit (w_len_list (w_arg rfl))))
    rw [List.length_map] at h5
    refine Nat.le_of_not_lt fun q => ?_
    have q' : (n : Int) < ((ns.length : Nat) : Int) := by omega
    first
      | (rw [decide_eq_true q'] at h5; exact absurd h5 (by decide))
      | (simp at h5; omega)
  cases hwl with
  | cons w1 w2 =>
    cases w2
    cases w1 with
    | list ho hall => exact ⟨_, _, ns, rfl, rfl, ho, ints_of_wellAll ns _ hall, hlen⟩

theorem post_true (l : OpenLaw) (args : List WData) : l.row.toRowW.claim.post args (.bool true) args = true :=
  postW_of (r := l.row.toRowW) (X := (true == true))
    (show WShape.has [] (.bool true) .bool = true by first | rfl | decide | simp [WShape.has, WShape.arms, WShape.armsAll])
    (show (WTm.eq .res (.lit (.bool true))).value [] { args := args, res := some (.bool true), after := args } = some (.bool (true == true)) from w_eq_bool (w_res rfl) w_lit) rfl

/-! ### the attachment: holds_open's last premise (the goal 'hc' behind k_head) from a wpAny of the law's body -/
/-- the same from a codeAny of the CALL (for a layer whose function contracts speak of calls) -/
theorem attach_call {l : OpenLaw} {n : Nat} {q : Program} {loose : List Str} {XP : (Str → Option Value) → Heap → Prop} {YP : World → Heap → Prop} {d : DefRec}
    (hn : l.most = some n) (hdf : d.params.defaults = [])
    (call : ∀ (w : World) (s₀ s₁ : Shared) (mg mb : Str → Option Value) (fa : Addr) (o : Obj) (pm cd doc : Value) (a : Addr) (vs : List Value) (ns : List Int),
      Ground q loose [] XP w s₀ mg mb s₁.heap → YP w s₁.heap →
      s₁.heap.get? fa = some o → o.data = .func (docDef d.name d.params d.body d.scope pm cd doc) → s₁.heap.CodeRec cd d.name → mg d.name = some (.ref fa) →
      s₁.heap.get? a = some { cls := .type "list", data := .seq vs.toArray } → IntsAre vs ns → ns.length ≤ n → s₁.gens = #[] →
      codeAny (model l.prog w) callerA (.call (.ref fa) ⟨[.ref a], []⟩) (fun r s' => r = .ok (.ret (.bool true)) ∧ OldK s₁.heap s'.heap ∧ s'.os = s₁.os ∧ AllBare s'.gens) s₁) :
    WalkO q loose XP YP l.row.toRowW d [] (fun f vs => PySem.call f vs) := by
  intro w s₀ s₁ mg mb G Y fa o pm cd doc dV kV ho hd hcd hD hmg hg args vals as hpre hlay hrd hwl hlo
  obtain rfl : dV = .none := Dflts.none hD hdf
  obtain rfl : kV = .none := Dflts.noKw hD
  obtain ⟨a, vs, ns, rfl, rfl, hobj, hints, hlen⟩ := script_of hn hpre hwl
  refine enter_call (codeAny_mono (call w s₀ s₁ mg mb fa o pm cd doc a vs ns G Y ho (fd_plain hd) hcd hmg hobj hints hlen hg) fun r s' hq => ?_)
  obtain ⟨rfl, h2, h3, h4⟩ := hq
  exact ⟨.inl ⟨.bool true, .bool true, [], rfl, fun _ => rfl, .bool true, post_true l _, fun _ => ⟨List.Pairwise.nil, fun _ hm => (nomatch hm)⟩⟩, h2, h3, h4⟩

/-! ### rules over ANY heap (no ledger) from facts about the written part K: the library's own take a ledger (News) for what they write -/
section
variable {prog : Program} {w : World} {A : Around} {E : Value → Shared → Prop} {s : Shared} {K : Frag}

/-! the whole heap as the ledger: makes every rule that writes through a ledger a rule over any heap -/
def noObjs (h : Heap) : Heap := { h with objs := #[] }
def ledger (h : Heap) (L d : Addr) : List (Addr × Obj) := (List.range h.objs.size).filterMap fun a => if a = L ∨ a = d then none else (h.get? a).map fun o => (a, o)
end
end Att

namespace L2
open PySem PySem.Spec PyProof.Rows

theorem vals_ints : ∀ {vs : List Value} {ns : List Int}, IntsAre vs ns → Vals (ns.map V.int) vs
  | _, _, .nil => .nil
  | _, _, .cons n t h => .cons ⟨t, rfl⟩ (vals_ints h)

/-- nothing is tracked but the script, known to the object (or it is an object of the module) -/
def Only (H : Hp) : Prop := ∀ b, H b = none ∨ ∃ o xs, H b = some (.frz o (.lst xs))

end L2

namespace L2
open PySem PySem.Spec PyProof.Rows

abbrev KOf {K : PySem.W.Frag} {h : Heap} (_ : K.In h) : PySem.W.Frag := K

end L2

/- THE LAST THEOREM (shape; LID, My.* are yours):
   My.Adr: a structure of the addresses that your layer names (classes, functions); My.Txt K t: a structure (Prop) of the equations over K;
   My.txt_mk : {K} {implicit addresses ..} (e1 : nsIn K mainGlobals "law" = some (some (.ref f))) (e2 : K.lookup f = some ⟨oc, od, .func (fnOf "law" "law" params body scope dV kV doc pm an cdv ct), sl⟩) (e3 : codeIn K cdv "law" = true) .. : ∃ t, My.Txt K t

set_option maxRecDepth 100000 in
set_option maxHeartbeats 0 in
theorem PySem.Challenge.cw_LID_holds : PySem.Challenge.rw_LID.Holds := by
  w_on; o_law; k_head; (case hw => w_witness2)
  k_fill
  refine L2.walk_of (l := PySem.Challenge.rw_LID) (n := 63) (k := 40) (x := "script") (CX := fun w => ..) (sp := fun _ => My.sp_law) rfl (by decide) rfl ⟨rfl, by decide, by decide⟩ (fun w h Y => PySem.W.kIn_of Y) ?F ?S ?C
  case F =>
    intro w mg fa h KX G hmg
    have T : ∃ t, My.Txt (L2.KOf KX) t := by
      dsimp only [L2.KOf]                          -- K must stand as «<heap const> w.params» for k_is
      refine' My.txt_mk ?e1 ?e2 ?e3 ..
      (case e1 => PySem.W.k_is)                    -- in the order: a name -> its address -> its object -> its parts
      (case e2 => PySem.W.k_is)
      ..
    obtain ⟨t, T⟩ := T
    have e0 := hmg.symm.trans (PySem.W.mg_of KX G T.law)
    cases e0                                       -- fa is the law's own address
    exact ⟨_, fun s u => .of_eq rfl, fun base kb nb => My.law_fn T kb nb⟩     -- if «.of_eq rfl» comes too early: refine' ⟨_, ?b, fun base kb nb => My.law_fn T kb nb⟩; exact fun s u => .of_eq rfl
  case S => exact fun w H a ns hl hO hS => ..
  case C => exact ..
(the tactic k_is has no namespace: write k_is) -/

/-! SHORT WORDS over the layer: a def of the text, its body, what a loop and a test want. -/
namespace L2
open PySem PySem.Spec PyProof.Rows

/-! ### the text by places -/
/-- the j-th statement of a class's body -/
def inClass (s : Stmt) (j : Nat) : Stmt := match s with
  | .ClassDef _ _ _ body _ _ _ _ _ _ _ => body.getD j (.Pass ⟨0, 0, 0, 0⟩)
  | _ => .Pass ⟨0, 0, 0, 0⟩
def defArgs (s : Stmt) : Arguments := match s with
  | .FunctionDef _ a _ _ _ _ _ _ _ _ => a
  | _ => { posonlyargs := [], args := [], vararg := none, kwonlyargs := [], kw_defaults := [], kwarg := none, defaults := [] }
def defBody (s : Stmt) : List Stmt := match s with
  | .FunctionDef _ _ b _ _ _ _ _ _ _ => b
  | _ => []
def defScope (s : Stmt) : Scope := match s with
  | .FunctionDef _ _ _ _ _ _ sc _ _ _ => sc
  | _ => { kind := .function, names := [], isGenerator := false, isCoroutine := false }

/-! ### no exception leaves a def -/
abbrev CX0 : CXT := fun _ _ _ _ _ _ => False
abbrev E0 : XK := fun _ _ _ => False
theorem pass0 {X : Cx} : Passes CX0 X E0 := fun _ _ _ _ _ _ _ h => h.elim

/-! ### a def (or method) of the text as it stands behind the top -/
structure Fun (K : PySem.W.Frag) (x qual : Str) (st : Stmt) (f : Addr) (fd : FuncData) : Prop where
  ex : ∃ (oc : Value) (od : Option Addr) (kV doc pm : Value) (an : Option Addr) (cdv ct : Value) (osl : Array (Option Value)),
    fd = PySem.W.fnOf x qual (defArgs st) (defBody st) (defScope st) .none kV doc pm an cdv ct ∧ K.lookup f = some ⟨oc, od, .func fd, osl⟩ ∧ PySem.W.codeIn K cdv qual = true
  kp : PySem.W.keepIn K (.ref f) = true
section
variable {P : Program} {w : World} {K : PySem.W.Frag} {mg : Str → Option Value} {base : Heap}
/-- THE RULE for a def: its body as a term of rules, and the reading of that term -/
theorem Fun.ok {x qual : Str} {st : Stmt} {f : Addr} {fd : FuncData} {N ps : List Str} {k : Nat} {sp : Sp} (F : Fun K x qual st f fd) (S : FnScope N ps (defScope st)) (len : ∀ vs H Q E, sp vs H Q E → vs.length = ps.length)
    (hbody : ∀ (cdv : Value) (A : Around) (outer : List Env) (s : Shared) (H : Hp) (vs : List V) (Q : VK) (E : XK), Room k (A.deeper (envOfC qual (defScope st) s.heap.objs.size f cdv)) → sp vs H Q E →
      ∃ t, PSs (cxOf CX0 P w K mg base N qual (defScope st) f cdv A outer s H E).nox (defBody st) t ∧ t { nx := fun _ H' => Q .non H', rt := Q } (start N vs) H) : FnOk P w K mg base CX0 (k + 1) f fd ps sp := by
  obtain ⟨oc, od, kV, doc, pm, an, cdv, ct, osl, rfl, lk, hcd⟩ := F.ex
  refine fn_of lk hcd S len fun A outer s H vs Q E hr hsp => ?_
  obtain ⟨t, h, q⟩ := hbody cdv A outer s H vs Q E hr hsp
  exact ⟨t, h.nox, q⟩
/-- how its arguments bind (no defaults): h is «fun _ _ _ _ _ _ us hl => match us, hl with | [_, _], _ => rfl», one _ a parameter -/
theorem Fun.binds {x qual : Str} {st : Stmt} {f : Addr} {fd : FuncData} {ps : List Str} (F : Fun K x qual st f fd)
    (h : ∀ (kV doc pm : Value) (an : Option Addr) (cdv ct : Value) (us : List Value), us.length = ps.length → bindArgs (PySem.W.fnOf x qual (defArgs st) (defBody st) (defScope st) .none kV doc pm an cdv ct) ⟨us, []⟩ = pure (ps.zip us)) : Binds K fd ps [] := by
  obtain ⟨oc, od, kV, doc, pm, an, cdv, ct, osl, rfl, lk, hcd⟩ := F.ex
  exact .all (h kV doc pm an cdv ct)
theorem fun_mk {x qual : Str} {st : Stmt} {f : Addr} {oc : Value} {od an : Option Addr} {osl : Array (Option Value)} {kV doc pm cdv ct : Value} (l : K.lookup f = some ⟨oc, od, .func (PySem.W.fnOf x qual (defArgs st) (defBody st) (defScope st) .none kV doc pm an cdv ct), osl⟩)
    (c : PySem.W.codeIn K cdv qual = true) (k : PySem.W.keepIn K (.ref f) = true) : Fun K x qual st f (PySem.W.fnOf x qual (defArgs st) (defBody st) (defScope st) .none kV doc pm an cdv ct) := ⟨⟨oc, od, kV, doc, pm, an, cdv, ct, osl, rfl, l, c⟩, k⟩
end
theorem hu_of {A : Around} {k : Nat} (hr : Room k A) : A.units + 1 < cLine := Nat.lt_of_le_of_lt (Nat.add_le_add_left (by decide : 1 ≤ 64) _) hr.units
/-! ### expressions in short: the name that stands in the i-th slot -/
section
variable {X : Cx}
theorem pv (i : Nat) {x : Str} {pos : Pos} (hN : X.N[i]? = some x := by rfl) (hv : Vis X.env.scope x := by first | exact Or.inl rfl | exact Or.inr (Or.inl rfl) | exact Or.inr (Or.inr rfl)) (hd : (x == ("__debug__" : Str)) = false := by decide)
    (hcd : (x == ("__classdict__" : Str)) = false := by decide) : PE X (.Name x pos) (tVar i) := pe_var hN hv hd hcd
end

/-! ### tests -/
theorem iteF {A B : Prop} (h : B) : if false = true then A else B := by
  rw [if_neg Bool.false_ne_true]
  exact h
theorem iteT {A B : Prop} (h : A) : if true = true then A else B := by
  rw [if_pos rfl]
  exact h
/-! ### heaps -/
/-- all that was tracked is as it was -/
def Same (H H' : Hp) : Prop := ∀ b o, H b = some o → H' b = some o
theorem Same.refl (H : Hp) : Same H H := fun _ _ h => h
theorem Same.trans {H H1 H2 : Hp} (a : Same H H1) (b : Same H1 H2) : Same H H2 := fun c o h => b c o (a c o h)
theorem Same.free {H H' : Hp} (e : Same H H') {l : Addr} (h : H' l = Option.none) : H l = Option.none := by
  cases q : H l with
  | none => rfl
  | some o =>
    rw [e l o q] at h
    cases h
end L2
-- part PDict
set_option Elab.async false
set_option linter.all false
set_option maxRecDepth 100000

namespace L2
open PySem PySem.Spec PyProof.Rows

/-! ### lists of pairs as tables -/
section
variable {κ : Type} [DecidableEq κ]
def valV (kvs : List (κ × V)) (k : κ) : Option V := (kvs.find? fun kv => decide (kv.1 = k)).map (·.2)
/-- in its place, or at the end -/
def putK (kvs : List (κ × V)) (k : κ) (v : V) : List (κ × V) :=
  if (kvs.any fun kv => decide (kv.1 = k)) = true then kvs.map (fun kv => if kv.1 = k then (kv.1, v) else kv) else kvs ++ [(k, v)]
def dropK (kvs : List (κ × V)) (k : κ) : List (κ × V) := kvs.filter fun kv => decide (kv.1 ≠ k)

end


/-! ### a tracked dict, its keys ints and texts or tuples of these -/
/-- raw entries of a dict with tuple keys -/
abbrev KT (H : Hp) : List (List Key × V) → List (List Key × Addr × Value) → Prop := Paired fun p q => p.1 = q.1 ∧ H q.2.1 = some (.tup (p.1.map kV)) ∧ RelV p.2 q.2.2
section
variable {P : Program} {w : World} {H : Hp} {h : Heap} {a : Addr}
end

/-- what the dict at a holds at the key y -/
def DGet (H : Hp) (a : Addr) (y : V) (r : Option V) : Prop :=
  (∃ kvs k, Rd H a (.dK kvs) ∧ y = kV k ∧ r = valV kvs k) ∨ ∃ kvs k b, Rd H a (.dT kvs) ∧ y = .ref b ∧ H b = some (.tup (k.map kV)) ∧ r = valV kvs k
/-- the heap behind a[y] = v -/
def DPut (H : Hp) (a : Addr) (y v : V) (H' : Hp) : Prop :=
  (∃ kvs k, H a = some (.dK kvs) ∧ y = kV k ∧ kvs.length < sizeLine ∧ H' = upd H a (.dK (putK kvs k v))) ∨
  ∃ kvs k b, H a = some (.dT kvs) ∧ y = .ref b ∧ H b = some (.tup (k.map kV)) ∧ kvs.length < sizeLine ∧ H' = upd H a (.dT (putK kvs k v))
section
variable {X : Cx} {pins : List (Addr × Obj)} {σ : St} {H : Hp} {s : Shared} {a : Addr} {y v : V} {u r : Value} {o : Option V} {A : Around} {E : Value → Shared → Prop}

end

section
variable {X : Cx} {pins : List (Addr × Obj)} {σ : St} {H : Hp} {s : Shared} {a : Addr} {kvs : List (Key × V)} {k : Key} {u : Value} {A : Around} {E : Value → Shared → Prop}
end


/-! ### readings and rules -/
/-- the element of a subscription, not a slice -/
def NoSl (i : Expr) : Prop := ∀ ov iv, subscripted i false ov iv = operate [ov, iv] (getItem ov iv)
/-- d[y] -/
def tDGet (td ty : TE) : TE := fun σ H Q => td σ H fun x H1 => ty σ H1 fun y H2 => ∃ a v, x = .ref a ∧ DGet H2 a y (some v) ∧ Q v H2
/-- y in d, y not in d -/
def tDIn (ty td : TE) : TE := fun σ H Q => ty σ H fun y H1 => td σ H1 fun x H2 => ∃ a o, x = .ref a ∧ DGet H2 a y o ∧ Q (.bl o.isSome) H2
def tDNotIn (ty td : TE) : TE := fun σ H Q => ty σ H fun y H1 => td σ H1 fun x H2 => ∃ a o, x = .ref a ∧ DGet H2 a y o ∧ Q (.bl (!o.isSome)) H2
/-- d[y] = v -/
def sDPut (td ty tv : TE) : TS := fun D σ H => tv σ H fun v H1 => td σ H1 fun x H2 => ty σ H2 fun y H3 => ∃ a H4, x = .ref a ∧ DPut H3 a y v H4 ∧ D.nx σ H4
/-- d[y] op= v -/
def sDAug (td ty tv : TE) (rd : V → V → Hp → VK → Prop) : TS := fun D σ H => td σ H fun x H1 => ty σ H1 fun y H2 => ∃ a v, x = .ref a ∧ DGet H2 a y (some v) ∧
  tv σ H2 fun y2 H3 => rd v y2 H3 fun z H4 => ∃ H5, DPut H4 a y z H5 ∧ D.nx σ H5
/-- del d[y] -/
def sDDel (td ty : TE) : TS := fun D σ H => td σ H fun x H1 => ty σ H1 fun y H2 => ∃ a kvs k, x = .ref a ∧ H2 a = some (.dK kvs) ∧ y = kV k ∧ (valV kvs k).isSome = true ∧ D.nx σ (upd H2 a (.dK (dropK kvs k)))

section
variable {X : Cx} {o i e value : Expr} {pos pos' tpos : Pos} {td ty tv : TE}
end


/-! ### displays -/
/-- {}, to be a dict of the kind that is wanted -/
def tDNewK : TE := fun _ H Q => ∀ p, H p = none → Q (.ref p) (upd H p (.dK []))
def tDNewT : TE := fun _ H Q => ∀ p, H p = none → Q (.ref p) (upd H p (.dT []))
section
variable {X : Cx} {pos : Pos}
end

/-- the pairs of a display, from the left -/
def tPairs : List (TE × TE) → St → Hp → (List (V × V) → Hp → Prop) → Prop
  | [], _, H, Q => Q [] H
  | (tk, tv) :: r, σ, H, Q => tk σ H fun x H1 => tv σ H1 fun y H2 => tPairs r σ H2 fun ps H3 => Q ((x, y) :: ps) H3
abbrev VV : List (V × V) → List (Value × Value) → Prop := Paired fun p q => RelV p.1 q.1 ∧ RelV p.2 q.2
def PPs (X : Cx) (pos : Pos) (keys : List (Option Expr)) (values : List Expr) (trs : List (TE × TE)) : Prop :=
  ∀ (pins : List (Addr × Obj)) (s : Shared) (σ : St) (H : Hp) (Q : List (V × V) → Hp → Prop), Inv X pins σ H s → tPairs trs σ H Q →
    wpAny (model X.prog X.w) X.A (evalPairs (pairTrees keys values X.env pos)) (fun vs s' => ∃ ps H', Inv X pins σ H' s' ∧ VV ps vs ∧ Q ps H') X.xe s
def mergeK (kvs more : List (Key × V)) : List (Key × V) := more.foldl (fun acc kv => putK acc kv.1 kv.2) kvs
/-- {k: v, ..} with keys ints and texts; the new dict stands empty while the pairs are made -/
def tDisp (trs : List (TE × TE)) : TE := fun σ H Q => ∀ p, H p = none → tPairs trs σ (upd H p (.dK [])) fun ps H2 => H2 p = some (.dK []) ∧ ∃ kvs : List (Key × V), ps = kvs.map (fun kv => (kV kv.1, kv.2)) ∧ kvs.length ≤ 15 ∧ Q (.ref p) (upd H2 p (.dK (mergeK [] kvs)))
/-! ### methods -/
/-- a method call o.m(e) of a built-in, with one argument: what must be seen of the text -/
structure M1 (X : Cx) (o : Expr) (m : Str) (apos : Pos) (e : Expr) (cpos : Pos) : Prop where
  base : attributeBase o m X.env (eval o X.env) = eval o X.env
  few : ((backTo cpos (starEach [e] X.env)).all (fun x => !x.1) && (backToKw cpos (keywordEach [] X.env)).all (fun x => x.1.isSome)
    && decide (([e] : List Expr).length + ([] : List Keyword).length + (if ([] : List Keyword).isEmpty then 0 else 1) < 30)) = true
  line : (apos.endLine == cpos.line) = true
  trees : backTo cpos (starEach [e] X.env) = [(false, eval e X.env)]
structure M2 (X : Cx) (o : Expr) (m : Str) (apos : Pos) (e f : Expr) (cpos : Pos) : Prop where
  base : attributeBase o m X.env (eval o X.env) = eval o X.env
  few : ((backTo cpos (starEach [e, f] X.env)).all (fun x => !x.1) && (backToKw cpos (keywordEach [] X.env)).all (fun x => x.1.isSome)
    && decide (([e, f] : List Expr).length + ([] : List Keyword).length + (if ([] : List Keyword).isEmpty then 0 else 1) < 30)) = true
  line : (apos.endLine == cpos.line) = true
  trees : backTo cpos (starEach [e, f] X.env) = [(false, eval e X.env), (false, eval f X.env)]

/-- a is a dict, whatever its keys -/
def IsD (H : Hp) (a : Addr) : Prop := (∃ kvs, Rd H a (.dK kvs)) ∨ ∃ kvs, Rd H a (.dT kvs)
section
variable {X : Cx} {pins : List (Addr × Obj)} {σ : St} {H : Hp} {s : Shared} {a : Addr} {y d : V} {u r : Value} {o : Option V} {A : Around} {E : Value → Shared → Prop}
end

def tDGet1 (td ty : TE) : TE := fun σ H Q => td σ H fun x H1 => ∃ a, x = .ref a ∧ IsD H1 a ∧ ty σ H1 fun y H2 => ∃ o, DGet H2 a y o ∧ Q (o.getD .non) H2
def tDGet2 (td ty tx : TE) : TE := fun σ H Q => td σ H fun x H1 => ∃ a, x = .ref a ∧ IsD H1 a ∧ ty σ H1 fun y H2 => tx σ H2 fun z H3 => ∃ o, DGet H3 a y o ∧ Q (o.getD z) H3
/-- d.pop(k): there; d.pop(k, x): there or not -/
def tDPop1 (td ty : TE) : TE := fun σ H Q => td σ H fun x H1 => ∃ a, x = .ref a ∧ IsD H1 a ∧ ty σ H1 fun y H2 => ∃ kvs k v, H2 a = some (.dK kvs) ∧ y = kV k ∧ valV kvs k = some v ∧ Q v (upd H2 a (.dK (dropK kvs k)))
def tDPop2 (td ty tx : TE) : TE := fun σ H Q => td σ H fun x H1 => ∃ a, x = .ref a ∧ IsD H1 a ∧ ty σ H1 fun y H2 => tx σ H2 fun z H3 => ∃ kvs k, H3 a = some (.dK kvs) ∧ y = kV k ∧
  (∀ v, valV kvs k = some v → Q v (upd H3 a (.dK (dropK kvs k)))) ∧ (valV kvs k = none → Q z H3)
section
variable {X : Cx} {o e f : Expr} {apos cpos : Pos} {td ty tx : TE}
end

/-! ### dict(d): a copy -/
section
variable {X : Cx} {pins : List (Addr × Obj)} {σ : St} {H : Hp} {s : Shared} {a : Addr} {kvs : List (Key × V)} {A : Around} {E : Value → Shared → Prop}
end


section
variable {X : Cx} {pins : List (Addr × Obj)} {σ : St} {H : Hp} {s : Shared} {a : Addr} {y : V} {u : Value} {A : Around} {E : Value → Shared → Prop}
end
end L2
namespace L2
open PySem PySem.Spec PyProof.Rows
section
variable {κ : Type} [DecidableEq κ]
end
end L2
-- part PC
set_option Elab.async false
set_option linter.all false
set_option maxRecDepth 100000
/-! COMPREHENSIONS over the hand layer: a list comprehension's block as a context of its own. -/
namespace L2
open PySem PySem.Spec PyProof.Rows

/-- the cells that a block captures -/
def clOf (scope : Scope) (env : Env) : List (Str × Addr) := scope.names.foldl (fun cs y => if y.2 == .free then (y.1, (env.cells.lookup y.1).getD 0) :: cs else cs) []

theorem closureFor_eq {scope : Scope} {env : Env} (h : ∀ y ∈ scope.names, y.2 = .free → ∃ c, env.cells.lookup y.1 = some c) : closureFor scope env = pure (clOf scope env) := by
  unfold closureFor clOf
  have key : ∀ (l : List (Str × NameKind)) (cs : List (Str × Addr)), (∀ y ∈ l, y.2 = .free → ∃ c, env.cells.lookup y.1 = some c) →
      (forIn l cs (fun x r => match x with | (name, kind) => if (kind == NameKind.free) = true then do let c ← cellOf env name; pure (ForInStep.yield ((name, c) :: r)) else pure (ForInStep.yield r)) : Sem (List (Str × Addr)))
        = pure (l.foldl (fun cs y => if y.2 == .free then (y.1, (env.cells.lookup y.1).getD 0) :: cs else cs) cs) := by
    intro l
    induction l with
    | nil => intro cs _; rfl
    | cons y l ih =>
      intro cs hl
      obtain ⟨n, k⟩ := y
      rw [List.forIn_cons, List.foldl_cons]
      by_cases hk : k = .free
      · subst hk
        obtain ⟨c, hc⟩ := hl (n, .free) List.mem_cons_self rfl
        have hc' : env.cells.lookup n = some c := hc
        have e1 : cellOf env n = pure c := by unfold cellOf; rw [hc']
        simp only [beq_self_eq_true, if_true, e1, hc', Option.getD_some, pure_bind]
        exact ih _ fun y hy => hl y (List.mem_cons_of_mem _ hy)
      · have hb : (k == NameKind.free) = false := by simpa using hk
        simp only [hb, Bool.false_eq_true, if_false, pure_bind]
        exact ih _ fun y hy => hl y (List.mem_cons_of_mem _ hy)
  simp only [key scope.names [] h, pure_bind]
  all_goals rfl

theorem clOf_mem {scope : Scope} {env : Env} {x : Str} {c : Addr} (h : (clOf scope env).lookup x = some c) : c = (env.cells.lookup x).getD 0 ∧ (x, NameKind.free) ∈ scope.names := by
  unfold clOf at h
  have key : ∀ (l : List (Str × NameKind)) (cs : List (Str × Addr)), (l.foldl (fun cs y => if y.2 == .free then (y.1, (env.cells.lookup y.1).getD 0) :: cs else cs) cs).lookup x = some c →
      (c = (env.cells.lookup x).getD 0 ∧ (x, NameKind.free) ∈ l) ∨ cs.lookup x = some c := by
    intro l
    induction l with
    | nil => intro cs h; exact .inr h
    | cons y l ih =>
      intro cs h
      obtain ⟨n, k⟩ := y
      rw [List.foldl_cons] at h
      rcases ih _ h with ⟨h1, h2⟩ | h'
      · exact .inl ⟨h1, List.mem_cons_of_mem _ h2⟩
      · by_cases hk : k = .free
        · subst hk
          simp only [beq_self_eq_true, if_true] at h'
          rw [List.lookup_cons] at h'
          cases hx : x == n with
          | true =>
            rw [hx] at h'
            have e : x = n := by simpa using hx
            subst e
            have e' : (env.cells.lookup x).getD 0 = c := Option.some.inj h'
            exact .inl ⟨e'.symm, List.mem_cons_self⟩
          | false => rw [hx] at h'; exact .inr h'
        · have hb : (k == NameKind.free) = false := by simpa using hk
          simp only [hb, Bool.false_eq_true, if_false] at h'
          exact .inr h'
  rcases key _ _ h with h | h
  · exact h
  · simp at h

theorem clOf_has {scope : Scope} {env : Env} {x : Str} (h : (x, NameKind.free) ∈ scope.names) : ∃ c, (clOf scope env).lookup x = some c := by
  unfold clOf
  have key : ∀ (l : List (Str × NameKind)) (cs : List (Str × Addr)), ((x, NameKind.free) ∈ l ∨ ∃ c, cs.lookup x = some c) → ∃ c, (l.foldl (fun cs y => if y.2 == .free then (y.1, (env.cells.lookup y.1).getD 0) :: cs else cs) cs).lookup x = some c := by
    intro l
    induction l with
    | nil =>
      intro cs h
      rcases h with h | h
      · simp at h
      · exact h
    | cons y l ih =>
      intro cs h
      obtain ⟨n, k⟩ := y
      rw [List.foldl_cons]
      refine ih _ ?_
      by_cases hk : k = .free
      · subst hk
        simp only [beq_self_eq_true, if_true]
        rw [List.lookup_cons]
        cases hx : x == n with
        | true => exact .inr ⟨_, rfl⟩
        | false =>
          rcases h with h | h
          · rcases List.mem_cons.mp h with e | h
            · have e1 : x = n := congrArg Prod.fst e
              simp [e1] at hx
            · exact .inl h
          · exact .inr h
      · have hb : (k == NameKind.free) = false := by simpa using hk
        simp only [hb, Bool.false_eq_true, if_false]
        rcases h with h | h
        · rcases List.mem_cons.mp h with e | h
          · exact absurd (congrArg Prod.snd e).symm hk
          · exact .inl h
        · exact .inr h
  exact key _ _ (.inl h)

def rl (env : Env) (y : Str × NameKind) : Str × NameKind := if (y.2 == NameKind.free && env.scope.kind == .function && env.kindOf y.1 == some .cell) then (y.1, NameKind.cell) else y
theorem rl_fst (env : Env) (y : Str × NameKind) : (rl env y).1 = y.1 := by unfold rl; split <;> rfl
theorem rl_free {env : Env} {y : Str × NameKind} (h : y.2 = .free) : (rl env y).2 = .cell ∨ (rl env y).2 = .free := by
  unfold rl; split
  · exact .inl rfl
  · exact .inr h
theorem rl_not {env : Env} {y : Str × NameKind} (h : y.2 ≠ .free) : rl env y = y := by
  have hb : (y.2 == NameKind.free) = false := by simpa using h
  unfold rl; rw [hb]; simp
theorem relabel_names (scope : Scope) (env : Env) : (relabel scope env).names = scope.names.map (rl env) := rfl
theorem relabel_free {scope : Scope} {env : Env} {x : Str} (hc : ∀ y ∈ scope.names, y.2 ≠ .cell) (h : (relabel scope env).names.lookup x = some .cell ∨ (relabel scope env).names.lookup x = some .free) : (x, NameKind.free) ∈ scope.names := by
  rw [relabel_names] at h
  have key : ∀ (l : List (Str × NameKind)), (∀ y ∈ l, y.2 ≠ .cell) → (∃ k, (k = NameKind.cell ∨ k = .free) ∧ (l.map (rl env)).lookup x = some k) → (x, NameKind.free) ∈ l := by
    intro l
    induction l with
    | nil => rintro _ ⟨k, _, h⟩; simp at h
    | cons y l ih =>
      rintro hl ⟨k', hk', h⟩
      obtain ⟨n, k⟩ := y
      have e1 : (rl env (n, k)) = (n, (rl env (n, k)).2) := Prod.ext (rl_fst env _) rfl
      rw [List.map_cons, e1, List.lookup_cons] at h
      cases hx : x == n with
      | true =>
        have e : x = n := by simpa using hx
        subst e
        by_cases hk : k = .free
        · subst hk; exact List.mem_cons_self
        · rw [hx] at h
          rw [rl_not (env := env) (y := (x, k)) hk] at h
          have e : k = k' := Option.some.inj h
          subst e
          rcases hk' with z | z
          · exact absurd z (hl _ List.mem_cons_self)
          · exact absurd z hk
      | false =>
        rw [hx] at h
        exact List.mem_cons_of_mem _ (ih (fun y hy => hl y (List.mem_cons_of_mem _ hy)) ⟨k', hk', h⟩)
  refine key _ hc ?_
  rcases h with h | h
  · exact ⟨_, .inl rfl, h⟩
  · exact ⟨_, .inr rfl, h⟩
theorem relabel_lookup_free {scope : Scope} {env : Env} {x : Str} (h : scope.names.lookup x = some .free) : (relabel scope env).names.lookup x = some .cell ∨ (relabel scope env).names.lookup x = some .free := by
  rw [relabel_names]
  have key : ∀ (l : List (Str × NameKind)), l.lookup x = some .free → (l.map (rl env)).lookup x = some .cell ∨ (l.map (rl env)).lookup x = some .free := by
    intro l
    induction l with
    | nil => intro h; simp at h
    | cons y l ih =>
      intro h
      obtain ⟨n, k⟩ := y
      have e1 : (rl env (n, k)) = (n, (rl env (n, k)).2) := Prod.ext (rl_fst env _) rfl
      rw [List.map_cons, e1, List.lookup_cons]
      rw [List.lookup_cons] at h
      cases hx : x == n with
      | true =>
        rw [hx] at h
        have e : k = .free := Option.some.inj h
        rcases rl_free (env := env) (y := (n, k)) e with z | z
        · exact .inl (congrArg some z)
        · exact .inr (congrArg some z)
      | false => rw [hx] at h; exact ih h
  exact key _ h

/-- the block's context: N' its names (its own first, then those captured), entered at s2, H2, over the iterator's objects fp -/
def blk (X : Cx) (N' : List Str) (scope : Scope) (C : Addr) (s2 : Shared) (H2 : Hp) (fp : List Addr) : Cx :=
  { X with N := N', s₀ := s2, H₀ := H2, env := compEnvC scope (clOf scope X.env) C X.env, outer := X.stack, stack := X.stack, ex := fp, fn := fun _ => false, pn := [], xe := fun _ _ => False }

/-- closed facts of the text: the def's scope, the block's, names; ts own names, cap the captured ones' places in the def's names -/
def compOk (so si : Scope) (N N' : List Str) (ts : Nat) (cap : List Nat) : Bool :=
  decide (si.kind = .function) && si.names.all (fun y => y.2 != .cell) && si.names.all (fun y => y.2 != .local || si.names.lookup y.1 == some .local)
  && si.names.all (fun y => y.2 != .free || so.names.lookup y.1 == some .cell || so.names.lookup y.1 == some .free)
  && decide N'.Nodup && decide (N'.length = ts + cap.length)
  && (List.range cap.length).all (fun k => (N'[ts + k]? == (cap[k]?.bind fun j => N[j]?)) && (N'[ts + k]?.isSome) && (N'[ts + k]?.all fun x => so.names.lookup x != some .local && si.names.lookup x == some .free))
/-- the block's values at its entry -/
def capSt (ts : Nat) (cap : List Nat) (σ : St) : St := List.replicate ts none ++ cap.map fun j => (σ[j]?).join

structure CompS (X : Cx) (N' : List Str) (ts : Nat) (cap : List Nat) (scope : Scope) : Prop where
  kind : scope.kind = .function
  nocell : ∀ y ∈ scope.names, y.2 ≠ .cell
  names : ∀ y ∈ scope.names, y.2 = .local → scope.names.lookup y.1 = some .local
  free : ∀ y ∈ scope.names, y.2 = .free → X.env.kindOf y.1 = some .cell ∨ X.env.kindOf y.1 = some .free
  nd : N'.Nodup
  len : N'.length = ts + cap.length
  capd : ∀ k j, cap[k]? = some j → ∃ x, N'[ts + k]? = some x ∧ X.N[j]? = some x ∧ X.env.kindOf x ≠ some .local ∧ scope.names.lookup x = some .free

theorem lookup_mem {x : Str} {k : NameKind} : ∀ {l : List (Str × NameKind)}, l.lookup x = some k → (x, k) ∈ l
  | [], h => by simp at h
  | (n, j) :: l, h => by
    rw [List.lookup_cons] at h
    cases hx : x == n with
    | true =>
      rw [hx] at h
      have e : x = n := by simpa using hx
      have e' : j = k := Option.some.inj h
      subst e e'
      exact List.mem_cons_self
    | false => rw [hx] at h; exact List.mem_cons_of_mem _ (lookup_mem h)

theorem compS_of {X : Cx} {N' : List Str} {ts : Nat} {cap : List Nat} {scope : Scope} (h : compOk X.env.scope scope X.N N' ts cap = true) : CompS X N' ts cap scope := by
  unfold compOk at h
  simp only [Bool.and_eq_true] at h
  obtain ⟨⟨⟨⟨⟨⟨h1, h2⟩, h3⟩, h4⟩, h5⟩, h6⟩, h7⟩ := h
  refine ⟨of_decide_eq_true h1, fun y hy z => ?_, fun y hy z => ?_, fun y hy z => ?_, of_decide_eq_true h5, of_decide_eq_true h6, fun k j hk => ?_⟩
  · have q := List.all_eq_true.mp h2 y hy
    rw [z] at q; exact absurd q (by decide)
  · have q := List.all_eq_true.mp h3 y hy
    rw [z] at q
    simpa using q
  · have q := List.all_eq_true.mp h4 y hy
    rw [z] at q
    simpa [Env.kindOf] using q
  · have hlt : k < cap.length := (List.getElem?_eq_some_iff.mp hk).1
    have q := List.all_eq_true.mp h7 k (List.mem_range.mpr hlt)
    simp only [Bool.and_eq_true] at q
    obtain ⟨⟨q1, q2⟩, q3⟩ := q
    obtain ⟨x, hx⟩ := Option.isSome_iff_exists.mp q2
    rw [hx] at q1 q3
    rw [hk] at q1
    have e1 : some x = X.N[j]? := by simpa using q1
    have q3' : (X.env.scope.names.lookup x != some .local && scope.names.lookup x == some .free) = true := q3
    simp only [Bool.and_eq_true] at q3'
    refine ⟨x, hx, e1.symm, ?_, by simpa using q3'.2⟩
    have z := q3'.1
    intro e
    have e' : X.env.scope.names.lookup x = some .local := e
    rw [e'] at z
    exact absurd z (by decide)

section
variable {X : Cx} {pins : List (Addr × Obj)} {σ : St} {H : Hp} {s : Shared}

/-- the entry of the block -/
theorem inv_blk {N' : List Str} {ts : Nat} {cap : List Nat} {scope : Scope} {fp : List Addr} {h' : Heap} {t' : Nat} {m : Str → Option Value} {C : Addr} (S : CompS X N' ts cap scope) (I : Inv X pins σ H s) (hf : ∀ b ∈ fp, FpOk X pins H b)
    (ho : ∀ b ∈ fp, ∃ o, s.heap.get? b = some o) (hC : s.heap.objs.size ≤ C) (hn : h'.Ns C m) (k : ∀ b o, s.heap.get? b = some o → h'.get? b = some o) :
    Inv (blk X N' scope C s H fp) [] (capSt ts cap σ) H { s with heap := h', toks := t' } := by
  have sub : ∀ x c, (clOf scope X.env).lookup x = some c → X.env.cells.lookup x = some c := fun x c e => by
    obtain ⟨e1, e2⟩ := clOf_mem e
    obtain ⟨c', hc'⟩ := I.ok.has x (S.free _ e2 rfl)
    rw [hc'] at e1
    rw [hc', e1]; rfl
  have neC : ∀ b o, s.heap.get? b = some o → b ≠ C := fun b o e => Nat.ne_of_lt (Nat.lt_of_lt_of_le (Heap.lt_size e) hC)
  refine ⟨⟨I.ok.mod, ?_, I.ok.glob, I.ok.blt, hC, fun x y c e1 e2 => I.ok.inj x y c (sub x c e1) (sub y c e2), fun x hx => ?_, fun x c z _ => absurd z Bool.false_ne_true, I.ok.hd, I.ok.frames, .inl rfl, fun b hb => ?_, fun b o e => I.bs b o e, Nat.le_trans I.ok.bsz I.sz, fun b o e hb => ?_, fun b hb => ?_, I.stack, I.stkFree⟩,
    rfl, I.bare, Un.kept k, ⟨m, hn, fun i x v e1 e2 e3 => ?_⟩, fun x c e => ?_, I.hok.fresh hC, fun x c e => I.freeC x c (sub x c e), fun p hp => absurd (show p ∈ ([] : List (Addr × Obj)) from hp) (by simp), I.hok.kept k, ?_⟩
  · show (relabel scope X.env).kind = .function
    exact S.kind
  · exact clOf_has (relabel_free S.nocell hx)
  · obtain ⟨o, e⟩ := ho b hb
    refine ⟨neC b o e, fun x c ec => ?_⟩
    exact (hf b hb).2.2.2.2.1 x c (sub x c ec)
  · obtain ⟨e1, e2⟩ := I.bs b o e
    obtain ⟨f0, f1, f2, f3, f4, f5⟩ := hf b hb
    rcases f3 with z | z
    · exact I.ok.noex b o e z
    · exact absurd (Nat.lt_of_lt_of_le (Heap.lt_size (I.ok.bs b o e).1) z) (Nat.lt_irrefl _)
  · intro z
    obtain ⟨f0, f1, f2, f3, f4, f5⟩ := hf b hb
    rcases List.mem_cons.mp (I.stkSub b z) with q | q
    · exact f1 q
    · exact f2 q
  · -- the names' values
    have hlen : ¬ i < ts := fun hlt => by
      unfold capSt at e2
      rw [List.getElem?_append_left (by simpa using hlt), List.getElem?_replicate] at e2
      split at e2 <;> cases e2
    have e2' : (cap.map fun j => (σ[j]?).join)[i - ts]? = some (some v) := by
      unfold capSt at e2
      rw [List.getElem?_append_right (by simpa using hlen), List.length_replicate] at e2
      exact e2
    rw [List.getElem?_map] at e2'
    cases hc : cap[i - ts]? with
    | none => rw [hc] at e2'; cases e2'
    | some j =>
      rw [hc] at e2'
      have e3' : (σ[j]?).join = some v := Option.some.inj e2'
      have e4 : σ[j]? = some (some v) := by
        cases q : σ[j]? with
        | none => rw [q] at e3'; cases e3'
        | some o => rw [q] at e3'; exact congrArg some e3'
      obtain ⟨x', n1, n2, n3, n4⟩ := S.capd _ _ hc
      have ei : ts + (i - ts) = i := by omega
      rw [ei] at n1
      have ex : x = x' := by
        have e1' : N'[i]? = some x := e1
        rw [n1] at e1'; exact (Option.some.inj e1').symm
      subst ex
      obtain ⟨mX, hnX, hl⟩ := I.loc
      have vis : Vis X.env.scope x := by
        rcases S.free _ (lookup_mem n4) rfl with z | z
        · exact .inr (.inl z)
        · exact .inr (.inr z)
      obtain ⟨u, ru, lk⟩ := hl j x v n2 e4 vis
      refine ⟨u, ru, ?_⟩
      rcases lk with ⟨z, _⟩ | ⟨z, c, ec, hcell⟩
      · exact absurd z n3
      · obtain ⟨c', hc'⟩ := clOf_has (env := X.env) (lookup_mem n4)
        have := sub x c' hc'
        rw [ec] at this
        cases this
        refine .inr ⟨?_, c, hc', hcell.keeps k⟩
        exact relabel_lookup_free n4
  · obtain ⟨v, z⟩ := I.cell x c (sub x c e)
    exact ⟨v, z.keeps k⟩
  · show (capSt ts cap σ).length = N'.length
    unfold capSt
    rw [List.length_append, List.length_replicate, List.length_map, S.len]
end

/-! ### the list that is built: an untracked record -/
def AccAt (h : Heap) (D : Addr) (ys : List V) : Prop := ys.length ≤ sizeLine ∧ ∃ (its : List Value) (n : Nat), Vals ys its ∧ h.get? D = some { cls := .type "list", data := .seq its.toArray n }
theorem AccAt.keep {h h' : Heap} {D : Addr} {ys : List V} (a : AccAt h D ys) (k : ∀ o, h.get? D = some o → h'.get? D = some o) : AccAt h' D ys := by
  obtain ⟨z, its, n, r, e⟩ := a
  exact ⟨z, its, n, r, k _ e⟩

/-- a piece's reading: the items so far, the block's values, the heap -/
abbrev TC := List V → St → Hp → (List V → St → Hp → Prop) → Prop
def PIn (Y : Cx) (D : Addr) (m : Sem PySem.Fin → Sem PySem.Fin) (t : TC) : Prop :=
  ∀ (pins : List (Addr × Obj)) (s : Shared) (σ : St) (H : Hp) (ys : List V) (Q : List V → St → Hp → Prop) (k : Sem PySem.Fin) (R : PySem.Fin → Shared → Prop), Inv Y pins σ H s → FpOk Y pins H D → AccAt s.heap D ys → t ys σ H Q →
    (∀ s' ys' σ' H', Inv Y pins σ' H' s' → FpOk Y pins H' D → AccAt s'.heap D ys' → Q ys' σ' H' → wpAny (model Y.prog Y.w) Y.A k R (fun _ _ => False) s') → wpAny (model Y.prog Y.w) Y.A (m k) R (fun _ _ => False) s
/-- the tests of a clause -/
def testsOf (ifs : List Expr) (env : Env) : Sem Bool := forIn ifs true fun c r => if r = true then do let ok ← isTrue c env (eval c env); pure (ForInStep.yield ok) else pure (ForInStep.yield r)
def PTs (Y : Cx) (ifs : List Expr) (t : TT) : Prop :=
  ∀ (pins : List (Addr × Obj)) (s : Shared) (σ : St) (H : Hp) (Q : Bool → Hp → Prop), Inv Y pins σ H s → t σ H Q → wpAny (model Y.prog Y.w) Y.A (testsOf ifs Y.env) (TP Y pins σ Q) Y.xe s
def tTrue : TT := fun _ H Q => Q true H
section
variable {Y : Cx} {D : Addr}
theorem pts_nil : PTs Y [] tTrue := fun pins s σ H Q I h => wpAny_tests_nil ⟨H, I, h⟩
theorem pts_one {c : Expr} {t : TT} (hc : PT Y c t) : PTs Y [c] t := fun pins s σ H Q I h => wpAny_tests_one (hc pins s σ H Q I h)

def tEmit (te : TE) : TC := fun ys σ H Q => te σ H fun v H1 => ys.length < sizeLine ∧ Q (ys ++ [v]) σ H1

theorem AccAt.nocell {h : Heap} {ys : List V} (a : AccAt h D ys) : ∀ b ∈ [D], ∃ o, h.get? b = some o ∧ ∀ v, o.data ≠ .cell v := fun b hb => by
  have e : b = D := by simpa using hb
  subst e
  obtain ⟨z, its, n, r, e⟩ := a
  exact ⟨_, e, fun v z => by
    have z' : Data.seq its.toArray n = Data.cell v := z
    cases z'⟩

/-- pinned through a piece -/
theorem AccAt.through {h : Heap} {pins : List (Addr × Obj)} {σ' : St} {H' : Hp} {s' : Shared} {ys : List V} (a : AccAt h D ys) (I : Inv Y (pins ++ pinsAt [D] h) σ' H' s') : AccAt s'.heap D ys ∧ H' D = none := by
  obtain ⟨z, its, n, r, e⟩ := a
  have q := I.pin (D, _) (List.mem_append_right _ (List.mem_append_right _ (mem_pinsAt (List.mem_singleton.mpr rfl) e)))
  exact ⟨⟨z, its, n, r, q.1⟩, q.2.1⟩

theorem pin_emit {elt : Expr} {te : TE} (hx : Y.xe = fun _ _ => False) (he : PE Y elt te) :
    PIn Y D (fun k => (do let _ ← call (.builtin "list.append") [.ref D, ← eval elt Y.env]) >>= fun _ => k) (tEmit te) := by
  intro pins s σ H ys Q k R I f a h hk
  refine wpAny_bind (wpAny_mono (Q := fun _ s' => ∃ ys' σ' H', Inv Y pins σ' H' s' ∧ FpOk Y pins H' D ∧ AccAt s'.heap D ys' ∧ Q ys' σ' H') ?_ (fun _ s' ⟨ys', σ', H', q1, q2, q3, q4⟩ => hk s' ys' σ' H' q1 q2 q3 q4) fun _ _ z => z)
  have I' := I.pinned (fp := [D]) (fun b hb => by have e : b = D := by simpa using hb
                                                  subst e; exact f) a.nocell
  refine wpAny_bind (wpAny_mono (he _ s σ H _ I' h) (fun u s1 ⟨v, H1, I1, ru, hz, q⟩ => ?_) fun e s1 z => by rw [hx] at z; exact z)
  obtain ⟨a1, n1⟩ := a.through I1
  have f1 : FpOk Y pins H1 D := ⟨n1, f.2⟩
  obtain ⟨z, its, n, r, e⟩ := a1
  have hl := r.length
  refine wpAny_bind (call_meets F.slot_list_append ⟨_, e, rfl⟩ F.entry_list_append (F.args_list_append_2 _ _) (PySem.list_append D its.toArray n u (by rw [List.size_toArray]; omega)) ⟨e, wpAny_pure ?_⟩)
  have q2 := PySem.IsL.update e (·.push u)
  obtain ⟨f0, g1, g2, g3, g4, g5⟩ := f1
  have I2 : Inv Y pins σ H1 { s1 with heap := s1.heap.update D (Obj.mapSeq (·.push u)) } := I1.unpinned.turned (t' := s1.toks) (it := D) (fun b o hb eb => (Heap.get?_update_other s1.heap _ (Ne.symm hb)).trans eb) f0 g1 g3 g4 g5
  refine ⟨ys ++ [v], σ, H1, I2, ⟨f0, g1, g2, g3, g4, g5⟩, ⟨by rw [List.length_append, List.length_singleton]; omega, its ++ [u], (if ((its.toArray.push u).size == its.toArray.size) = true then n else n + 1), r.append (.cons ru .nil), ?_⟩, q⟩
  have e3 : its.toArray.push u = (its ++ [u]).toArray := by simp
  rw [← e3]
  exact q2

/-- what a turn does behind its tests, then k -/
def inner (elt : Expr) (gens : List Comprehension) (scope : Scope) (pos : Pos) (d : Nat) (acc : Value) (env : Env) (k : Sem PySem.Fin) : Sem PySem.Fin :=
  match gens[d + 1]? with
  | some g' => eval g'.iter env >>= fun x => standAt g'.iter.pos >>= fun _ => foldedSetIterable g'.iter env x >>= fun x => holding [x] (pyIter x) >>= fun itv =>
      runOwn (.compStart (.ListComp elt gens scope pos) (d + 1) itv acc env) env >>= fun _ => k
  | none => (do let _ ← call (.builtin "list.append") [acc, ← eval elt env]) >>= fun _ => k

set_option maxHeartbeats 400000 in
theorem compTurn_eq (elt tg iter : Expr) (ifs : List Expr) (gens : List Comprehension) (scope : Scope) (pos : Pos) (d : Nat) (it acc : Value) (env : Env) (hg : gens[d]? = some ⟨tg, iter, ifs, 0⟩) (h2 : ∀ g', gens[d + 1]? = some g' → g'.is_async = 0) :
    compTurn (.ListComp elt gens scope pos) d it acc env = (standAt iter.pos >>= fun _ => pyNext it >>= fun r => match r with
      | none => pure (.done .next)
      | some v => letOwnedTupleGo tg it v >>= fun _ => assign tg env v >>= fun _ => testsOf ifs env >>= fun ok =>
        if ok = true then inner elt gens scope pos d acc env (again (.compLoop (.ListComp elt gens scope pos) d it acc env)) else again (.compLoop (.ListComp elt gens scope pos) d it acc env)) := by
  unfold compTurn inner
  dsimp only
  rw [hg]
  generalize hn : gens[d + 1]? = o
  cases o with
  | none => rfl
  | some g' =>
    have e := h2 g' hn
    obtain ⟨t', i', f', a'⟩ := g'
    have e' : a' = 0 := e
    subst e'
    rfl

def tNestW (g : TG) (tt : TT) (ti : TC) (J : It) : TC := fun ys σ H Q => ∃ W : Nat → Nat → List V → St → Hp → Prop, (∃ m, W 0 m ys σ H) ∧ ∀ i m ys σ H, W i m ys σ H →
  (J.stop i H ∧ Q ys σ H) ∨ (J.go i H ∧ ∃ N : List V → St → Hp → Prop, (∀ ys' σ' H', N ys' σ' H' → ∃ m', m' < m ∧ W (i + 1) m' ys' σ' H') ∧
    ∀ x H', J.yld i H x H' → g x σ H' fun σ2 H2 => tt σ2 H2 fun b H3 => if b = true then ti ys σ2 H3 N else N ys σ2 H3)

theorem comp_loop {elt tg iter : Expr} {ifs : List Expr} {gens : List Comprehension} {scope : Scope} {pos : Pos} {d : Nat} {it : Addr} {fp : List Addr} {tn : Nat → Heap → Prop} {J : It} {g : TG} {tt : TT} {ti : TC} {pins : List (Addr × Obj)} {s : Shared} {σ : St} {H : Hp} {ys : List V} {Q : List V → St → Hp → Prop}
    (hx : Y.xe = fun _ _ => False) (hc : Y.calm = true) (hg : gens[d]? = some ⟨tg, iter, ifs, 0⟩) (T : Turn Y.prog Y.w Y.K tg J fp it tn) (hf : ∀ b ∈ fp, FpOk Y pins H b) (st : tn 0 s.heap) (hD : D ∉ fp)
    (h2 : ∀ g', gens[d + 1]? = some g' → g'.is_async = 0) (pg : PG Y tg g) (pt : PTs Y ifs tt) (pi : PIn Y D (inner elt gens scope pos d (.ref D) Y.env) ti)
    (I : Inv Y pins σ H s) (f : FpOk Y pins H D) (a : AccAt s.heap D ys) (h : tNestW g tt ti J ys σ H Q) :
    codeAny (model Y.prog Y.w) Y.A (.compLoop (.ListComp elt gens scope pos) d (.ref it) (.ref D) Y.env) (fun r s' => match r with
      | .ok _ => ∃ ys' σ' H', Inv Y pins σ' H' s' ∧ FpOk Y pins H' D ∧ AccAt s'.heap D ys' ∧ Q ys' σ' H'
      | .error _ => False) s := by
  obtain ⟨W, ⟨m0, w0⟩, turn⟩ := h
  have stat : ∀ {H' : Hp}, (∀ b ∈ fp, H' b = none) → ∀ b ∈ fp, FpOk Y pins H' b := fun hn b hb => ⟨hn b hb, (hf b hb).2⟩
  refine codeAny_loop rfl (fun n s' => ∃ i ys' σ' H', Inv Y pins σ' H' s' ∧ FpOk Y pins H' D ∧ AccAt s'.heap D ys' ∧ tn i s'.heap ∧ (∀ b ∈ fp, H' b = none) ∧ W i n ys' σ' H') (fun n s3 hI => ?_) m0 ⟨0, ys, σ, H, I, f, a, st, fun b hb => (hf b hb).1, w0⟩
  obtain ⟨i, ys3, σ3, H3, I3, f3, a3, st3, fr3, w3⟩ := hI
  show wpAny _ Y.A ((compTurn (.ListComp elt gens scope pos) d (.ref it) (.ref D) Y.env).onRaise (fun x => do noteFrame x Y.env; theTreesLotGoes x)) _ _ s3
  refine wpAny_noted (wpAny_mono (E := fun _ _ => False) ?_ (fun _ _ q => q) fun _ _ z => z.elim)
  rw [compTurn_eq elt tg iter ifs gens scope pos d (.ref it) (.ref D) Y.env hg h2]
  refine wpAny_bind (wpAny_standAt (wpAny_bind ?_))
  have aD : ∀ {h h' : Heap}, (∀ b o, b ∉ fp → h.get? b = some o → h'.get? b = some o) → ∀ {zs}, AccAt h D zs → AccAt h' D zs := fun k _ q => q.keep fun o e => k D o hD e
  have I3' := I3.pinned (fp := [D]) (fun b hb => by have e : b = D := by simpa using hb
                                                    subst e; exact f3) a3.nocell
  have stat' : ∀ b ∈ fp, FpOk Y (pins ++ pinsAt [D] s3.heap) H3 b := fun b hb => by
    obtain ⟨g0, g1, g2, g3, g4, g5⟩ := stat fr3 b hb
    refine ⟨g0, g1, g2, g3, g4, fun p hp => ?_⟩
    rcases List.mem_append.mp hp with z | z
    · exact g5 p (List.mem_append_left _ z)
    · rcases List.mem_append.mp z with z | z
      · exact g5 p (List.mem_append_right _ z)
      · intro q
        have e : p.1 = D := by simpa using (of_pinsAt z).1
        exact hD (by rw [← e, q]; exact hb)
  rcases turn i n ys3 σ3 H3 w3 with ⟨stop, qn⟩ | ⟨go, N, hN, step⟩
  · refine wpAny_mono (T.done Y rfl rfl rfl hc i _ s3 σ3 H3 (fun _ _ => False) I3' stat' st3 stop) (fun r s4 ⟨hr, I4⟩ => ?_) fun _ _ z => z
    subst hr
    obtain ⟨a4, n4⟩ := a3.through I4
    exact wpAny_pure ⟨ys3, σ3, H3, I4.unpinned, f3, a4, qn⟩
  · refine wpAny_mono (T.item Y rfl rfl rfl hc i _ s3 σ3 H3 (fun _ _ => False) I3' stat' st3 go) (fun r s4 ⟨u, hr, h4⟩ => ?_) fun _ _ z => z
    subst hr
    refine wpAny_bind (wpAny_mono h4 (fun _ s5 ⟨x, H5, I5, r5, y5, st5, fr5⟩ => ?_) fun _ _ z => z)
    obtain ⟨a5, n5⟩ := a3.through I5
    have f5 : FpOk Y pins H5 D := ⟨n5, f3.2⟩
    -- pin the iterator and the list
    have ho5 : ∀ b ∈ D :: fp, ∃ o, s5.heap.get? b = some o ∧ ∀ v, o.data ≠ .cell v := fun b hb => by
      rcases List.mem_cons.mp hb with e | hb
      · exact a5.nocell b (by simp [e])
      · exact T.obj _ _ st5 b hb
    have I5' := I5.unpinned.pinned (fp := D :: fp) (fun b hb => by
      rcases List.mem_cons.mp hb with e | hb
      · rw [e]; exact f5
      · exact stat fr5 b hb) ho5
    refine wpAny_bind (wpAny_mono (pg _ s5 σ3 H5 x u _ I5' r5 (step x H5 y5)) (fun _ s6 ⟨σ6, H6, I6, q6⟩ => ?_) fun _ _ z => by rw [hx] at z; exact z)
    refine wpAny_bind (wpAny_mono (pt _ s6 σ6 H6 _ I6 q6) (fun b s7 ⟨H7, I7, q7⟩ => ?_) fun _ _ z => by rw [hx] at z; exact z)
    -- behind the tests
    have pinD : ∀ {σ7 : St} {H7 : Hp} {s7 : Shared}, Inv Y (pins ++ pinsAt (D :: fp) s5.heap) σ7 H7 s7 → AccAt s7.heap D ys3 ∧ H7 D = none := fun {σ7 H7 s7} J => by
      obtain ⟨z, its, n, r, e⟩ := id a5
      have q := J.pin (D, _) (List.mem_append_right _ (List.mem_append_right _ (mem_pinsAt List.mem_cons_self e)))
      exact ⟨⟨z, its, n, r, q.1⟩, q.2.1⟩
    have pinF : ∀ {σ7 : St} {H7 : Hp} {s7 : Shared}, Inv Y (pins ++ pinsAt (D :: fp) s5.heap) σ7 H7 s7 → tn (i + 1) s7.heap ∧ ∀ b ∈ fp, H7 b = none := fun {σ7 H7 s7} J => by
      refine ⟨T.keep _ _ _ st5 fun b hb o e => (J.pin (b, o) (List.mem_append_right _ (List.mem_append_right _ (mem_pinsAt (List.mem_cons_of_mem _ hb) e)))).1, fun b hb => ?_⟩
      obtain ⟨o, e, dd⟩ := T.obj _ _ st5 b hb
      exact (J.pin (b, o) (List.mem_append_right _ (List.mem_append_right _ (mem_pinsAt (List.mem_cons_of_mem _ hb) e)))).2.1
    cases b with
    | false =>
      simp only [Bool.false_eq_true, if_false] at q7 ⊢
      obtain ⟨m', hm, w7⟩ := hN _ _ _ q7
      obtain ⟨a7, n7⟩ := pinD I7
      obtain ⟨t7, r7⟩ := pinF I7
      exact wpAny_pure ⟨rfl, m', hm, i + 1, ys3, σ6, H7, I7.unpinned, ⟨n7, f3.2⟩, a7, t7, r7, w7⟩
    | true =>
      simp only [if_true] at q7 ⊢
      obtain ⟨a7, n7⟩ := pinD I7
      obtain ⟨t7, r7⟩ := pinF I7
      have I7' := I7.unpinned.pinned (fp := fp) (stat r7) (T.obj _ _ t7)
      have f7 : FpOk Y (pins ++ pinsAt fp s7.heap) H7 D := by
        obtain ⟨g0, g1, g2, g3, g4, g5⟩ := f3
        refine ⟨n7, g1, g2, g3, g4, fun p hp => ?_⟩
        rcases List.mem_append.mp hp with z | z
        · exact g5 p (List.mem_append_left _ z)
        · rcases List.mem_append.mp z with z | z
          · exact g5 p (List.mem_append_right _ z)
          · intro q
            exact hD (by rw [← q]; exact (of_pinsAt z).1)
      refine pi _ s7 σ6 H7 ys3 N _ _ I7' f7 a7 q7 fun s8 ys8 σ8 H8 I8 f8 a8 q8 => ?_
      obtain ⟨m', hm, w8⟩ := hN _ _ _ q8
      refine wpAny_pure ⟨rfl, m', hm, i + 1, ys8, σ8, H8, I8.unpinned, ⟨f8.1, f3.2⟩, a8, T.keep _ _ _ t7 fun b hb o e => (I8.pin (b, o) (List.mem_append_right _ (List.mem_append_right _ (mem_pinsAt hb e)))).1, fun b hb => ?_, w8⟩
      obtain ⟨o, e, dd⟩ := T.obj _ _ t7 b hb
      exact (I8.pin (b, o) (List.mem_append_right _ (List.mem_append_right _ (mem_pinsAt hb e)))).2.1

theorem comp_start {elt tg iter : Expr} {ifs : List Expr} {gens : List Comprehension} {scope : Scope} {pos : Pos} {d : Nat} {it : Addr} {R : Result → Shared → Prop} {s : Shared} {A : Around} {prog : Program} {w : World} {env : Env} {acc : Value} {fp : List Addr} {tn : Nat → Heap → Prop} {J : It} {K : PySem.W.Frag}
    (hg : gens[d]? = some ⟨tg, iter, ifs, 0⟩) (T : Turn prog w K tg J fp it tn) {i : Nat} (st : tn i s.heap) (h : codeAny (model prog w) A (.compLoop (.ListComp elt gens scope pos) d (.ref it) acc env) R s) :
    codeAny (model prog w) A (.compStart (.ListComp elt gens scope pos) d (.ref it) acc env) R s := by
  refine codeAny_of_tree ?_
  show wpAny _ _ ((compStart (.ListComp elt gens scope pos) d (.ref it) acc env).onRaise (fun x => do noteFrame x env; standAt theWindowsPlace)) _ _ s
  refine wpAny_notedAt ?_
  have hg' : (clausesOf (.ListComp elt gens scope pos))[d]? = some ⟨tg, iter, ifs, 0⟩ := hg
  unfold compStart
  rw [hg']
  show wpAny _ _ (ask >>= _) _ _ s
  refine wpAny_bind (wpAny_askSetting (wpAny_ite ?_))
  split
  · first
      | exact wpAny_bind (wpAny_pure (wpAny_pure (And.intro rfl h)))
      | exact wpAny_pure (And.intro rfl h)
  · refine wpAny_bind (wpAny_rule ?_)
    show wpAny _ _ (standAt iter.pos >>= _) _ _ s
    exact wpAny_bind (wpAny_standAt (wpAny_bind (T.self A i s _ _ st (wpAny_pure (And.intro rfl h)))))

def tNest (wi : TI) (g : TG) (tt : TT) (ti : TC) : TC := fun ys σ H Q => wi σ H fun J H1 => tNestW g tt ti J ys σ H1 Q

/-- a further for of the comprehension -/
theorem pin_nest {elt tg iter : Expr} {ifs : List Expr} {gens : List Comprehension} {scope : Scope} {pos : Pos} {d : Nat} {wi : TI} {g : TG} {tt : TT} {ti : TC}
    (hx : Y.xe = fun _ _ => False) (hc : Y.calm = true) (hg : gens[d + 1]? = some ⟨tg, iter, ifs, 0⟩) (hi : PI Y tg iter wi) (pg : PG Y tg g) (pt : PTs Y ifs tt) (pi : PIn Y D (inner elt gens scope pos (d + 1) (.ref D) Y.env) ti)
    (hs : ∀ x, foldedSetIterable iter Y.env x = pure x) (h2 : ∀ g', gens[d + 1 + 1]? = some g' → g'.is_async = 0) : PIn Y D (inner elt gens scope pos d (.ref D) Y.env) (tNest wi g tt ti) := by
  intro pins s σ H ys Q k R I f a h hk
  unfold inner
  rw [hg]
  have I' := I.pinned (fp := [D]) (fun b hb => by have e : b = D := by simpa using hb
                                                  subst e; exact f) a.nocell
  refine wpAny_bind (wpAny_mono (hi _ s σ H _ I' h) (fun v s1 h1 => ?_) fun _ _ z => by rw [hx] at z; exact z)
  refine wpAny_bind (wpAny_standAt (wpAny_bind (wpAny_of_eq (hs v) (wpAny_bind (wpAny_holding (wpAny_mono h1 (fun itv s2 h2 => ?_) fun _ _ z => by rw [hx] at z; exact z))))))
  obtain ⟨it, fp, tn, J, H2, e, I2, T, st2, f2, q2⟩ := h2
  subst e
  obtain ⟨a2, n2⟩ := a.through I2
  have fD : FpOk Y pins H2 D := ⟨n2, f.2⟩
  have hD : D ∉ fp := fun z => by
    obtain ⟨z1, its, n, r, e⟩ := a
    exact (f2 D z).2.2.2.2.2 (D, _) (List.mem_append_right _ (List.mem_append_right _ (mem_pinsAt (List.mem_singleton.mpr rfl) e))) rfl
  have f2' : ∀ b ∈ fp, FpOk Y pins H2 b := fun b hb => by
    obtain ⟨g0, g1, g2, g3, g4, g5⟩ := f2 b hb
    exact ⟨g0, g1, g2, g3, g4, fun p hp => g5 p (by
      rcases List.mem_append.mp hp with z | z
      · exact List.mem_append_left _ z
      · exact List.mem_append_right _ (List.mem_append_left _ z))⟩
  refine wpAny_bind (wpAny_runOwn (codeAny_mono (comp_start hg T st2 (comp_loop (Q := Q) hx hc hg T f2' st2 hD h2 pg pt pi I2.unpinned fD a2 q2)) fun r s' hr => ?_))
  cases r with
  | ok fl =>
    obtain ⟨ys', σ', H', q1, q2, q3, q4⟩ := hr
    exact hk s' ys' σ' H' q1 q2 q3 q4
  | error e => exact hr.elim
end

/-! ### the comprehension as an expression, and stored at once -/
section
variable {X : Cx} {pins : List (Addr × Obj)} {σ : St} {H H' : Hp} {s s' : Shared}
/-- behind the block -/
theorem blk_exit {N' : List Str} {scope : Scope} {C D : Addr} {fp : List Addr} {σ' : St} {ys : List V} {pl : List (Addr × Obj)} {h' : Heap} (I : Inv X pins σ H s) (hf : ∀ b ∈ fp, FpOk X pins H b) (hC : s.heap.objs.size ≤ C) (hD : s.heap.objs.size ≤ D) (hDC : D ≠ C)
    (J : Inv (blk X N' scope C s H fp) pl σ' H' s') (n : H' D = none) (a : AccAt s'.heap D ys) (sb : Heap.SameBut C s'.heap h') : Inv X pins σ (upd H' D (.lst ys)) { s' with heap := h' } := by
  have neC : ∀ b o, s.heap.get? b = some o → b ≠ C := fun b o e => Nat.ne_of_lt (Nat.lt_of_lt_of_le (Heap.lt_size e) hC)
  have neD : ∀ b o, s.heap.get? b = some o → b ≠ D := fun b o e => Nat.ne_of_lt (Nat.lt_of_lt_of_le (Heap.lt_size e) hD)
  have neD' : ∀ b o, H b = some o → b ≠ D := fun b o e => Nat.ne_of_lt (Nat.lt_of_lt_of_le (I.hok.lt e) hD)
  have fC : H' C = none := J.free
  have u : Un (frs X.stack) fp H H' s.heap s'.heap := J.base
  refine I.call' (s' := { s' with heap := h' }) (ch := fp) J.os ⟨fun b o e nb hb hx => (sb.2 b (neC b o e)).trans (u.keep b o e nb hb hx), fun b o e nb hb hx => ?_, fun b o e nb hx => by rw [upd_ne (neD b o e)]; exact u.free b o e nb hx, fun b o e hx => ?_,
    fun b xs e => by rw [upd_ne (neD' b _ e)]; exact u.tups b xs e, fun b o xs e => by rw [upd_ne (neD' b _ e)]; exact u.frzs b o xs e, fun b ps e => by rw [upd_ne (neD' b _ e)]; exact u.tbls b ps e⟩ (fun b v e => ?_) J.bare fun b hb => ?_
  · obtain ⟨sl, q⟩ := u.slot b o e nb hb hx
    exact ⟨sl, (sb.2 b (neC b o e)).trans q⟩
  · obtain ⟨o', q⟩ := u.there b o e hx
    exact ⟨o', (sb.2 b (neC b o e)).trans q⟩
  · by_cases hb : b = D
    · subst hb
      rw [upd_same] at e
      cases e
      obtain ⟨z, its, k, r, q⟩ := a
      exact ⟨z, its, k, r, (sb.2 b hDC).trans q⟩
    · rw [upd_ne hb] at e
      refine (J.hok b v e).stay (fun c w hc q => (sb.2 c ?_).trans q) (fun c q => by rw [upd_ne (ne_of_none q n)]; exact q) fun c xs q => by rw [upd_ne (ne_of_none q n)]; exact q
      rcases hc with z | z
      · rw [z]; exact ne_of_none e fC
      · exact ne_of_none z fC
  · obtain ⟨f0, f1, f2, f3, f4, f5⟩ := hf b hb
    exact ⟨f3, f1, f4, f5⟩

theorem comp_block {elt tg iter : Expr} {ifs : List Expr} {rest : List Comprehension} {scope : Scope} {pos : Pos} {N' : List Str} {ts : Nat} {cap : List Nat} {it : Addr} {fp : List Addr} {tn : Nat → Heap → Prop} {J : It} {g : TG} {tt : TT} {ti : TC} {Q : List V → Hp → Prop} {E : Value → Shared → Prop} {RR : Value → Addr → Result → Shared → Prop}
    (S : CompS X N' ts cap scope) (hc : X.calm = true) (I : Inv X pins σ H s) (T : Turn X.prog X.w X.K tg J fp it tn) (st : tn 0 s.heap) (hf : ∀ b ∈ fp, FpOk X pins H b)
    (h2 : ∀ g', (Comprehension.mk tg iter ifs 0 :: rest)[0 + 1]? = some g' → g'.is_async = 0)
    (pg : ∀ C, PG (blk X N' scope C s H fp) tg g) (pt : ∀ C, PTs (blk X N' scope C s H fp) ifs tt)
    (pi : ∀ C D, PIn (blk X N' scope C s H fp) D (inner elt (⟨tg, iter, ifs, 0⟩ :: rest) scope pos 0 (.ref D) (blk X N' scope C s H fp).env) ti)
    (h : tNestW g tt ti J [] (capSt ts cap σ) H fun ys _ H2 => Q ys H2)
    (hRR : ∀ C D s' σ' H' ys fl, s.heap.objs.size ≤ C → s.heap.objs.size ≤ D → D ≠ C → Inv (blk X N' scope C s H fp) [] σ' H' s' → H' D = none → AccAt s'.heap D ys → Q ys H' → RR (.ref D) C (.ok fl) s') :
    wpAny (model X.prog X.w) X.A (newList []) (fun acc s₃ => wpAny (model X.prog X.w) X.A (newFunctionEnv scope X.env.globals (clOf scope X.env) [] X.env.qual none .none (some X.env)) (fun cenv s₄ =>
      codeAny (model X.prog X.w) X.A (.compStart (.ListComp elt (⟨tg, iter, ifs, 0⟩ :: rest) scope pos) 0 (.ref it) acc { cenv with scope := relabel scope X.env }) (RR acc cenv.locals) s₄) E s₃) E s := by
  refine wpAny_newObj_type (wpAny_newFunctionEnv S.nocell (by intro y hy; simp at hy) (fun h₁ hns₁ hsb₁ => ?_) S.kind)
  dsimp only at hns₁ hsb₁ ⊢
  generalize hH2 : s.heap.push { cls := .type "list", dict := none, data := .seq ([] : List Value).toArray } = h0 at hns₁ hsb₁ ⊢
  have hC : h0.objs.size = s.heap.objs.size + 1 := by rw [← hH2, Heap.size_push]
  have hDC : s.heap.objs.size ≠ h0.objs.size := by rw [hC]; exact Nat.ne_of_lt (Nat.lt_succ_self _)
  have hCle : s.heap.objs.size ≤ h0.objs.size := by rw [hC]; exact Nat.le_succ _
  have neC : ∀ b o, s.heap.get? b = some o → b ≠ h0.objs.size := fun b o e => Nat.ne_of_lt (Nat.lt_of_lt_of_le (Heap.lt_size e) hCle)
  have old : ∀ b o, s.heap.get? b = some o → h₁.get? b = some o := fun b o e => hsb₁.extBut b o (neC b o e) (Heap.get?_push_of_some _ (hH2 ▸ Heap.get?_push_of_some _ e))
  have hacc : h₁.get? s.heap.objs.size = some { cls := .type "list", data := .seq ([] : List Value).toArray 0 } := hsb₁.extBut _ _ hDC (Heap.get?_push_of_some _ (hH2 ▸ Heap.get?_push_size _ rfl))
  have ho : ∀ b ∈ fp, ∃ o, s.heap.get? b = some o := fun b hb => let ⟨o, e, _⟩ := T.obj _ _ st b hb; ⟨o, e⟩
  have I1 : Inv (blk X N' scope h0.objs.size s H fp) [] (capSt ts cap σ) H { s with heap := h₁, toks := s.toks + ([] : List (Str × Value)).length } := inv_blk S I hf ho hCle hns₁ old
  have fresh := I.hok.fresh (a := s.heap.objs.size) (Nat.le_refl _)
  have fpY : ∀ b ∈ fp, FpOk (blk X N' scope h0.objs.size s H fp) [] H b := fun b hb => by
    obtain ⟨f0, f1, f2, f3, f4, f5⟩ := hf b hb
    refine ⟨f0, (I1.ok.exf b hb).1, I1.ok.exfs b hb, .inl hb, (I1.ok.exf b hb).2, fun p hp => absurd (show p ∈ ([] : List (Addr × Obj)) from hp) (by simp)⟩
  have fD : FpOk (blk X N' scope h0.objs.size s H fp) [] H s.heap.objs.size := by
    refine ⟨fresh, hDC, fun z => ?_, .inr (Nat.le_refl _), fun x c e z => ?_, fun p hp => absurd (show p ∈ ([] : List (Addr × Obj)) from hp) (by simp)⟩
    · obtain ⟨_, o, ho', _⟩ := I.stack.mem z
      exact absurd (Heap.lt_size ho') (Nat.lt_irrefl _)
    · obtain ⟨e1, e2⟩ := clOf_mem e
      obtain ⟨c', hc'⟩ := I.ok.has x (S.free _ e2 rfl)
      obtain ⟨v, q⟩ := I.cell x c' hc'
      rw [hc'] at e1
      have e3 : c = c' := e1
      have l := q.lt
      rw [← e3, z] at l
      exact absurd l (Nat.lt_irrefl _)
  have aD : AccAt h₁ s.heap.objs.size [] := ⟨Nat.zero_le _, [], 0, .nil, hacc⟩
  have hDf : s.heap.objs.size ∉ fp := fun z => by obtain ⟨o, e⟩ := ho _ z; exact absurd (Heap.lt_size e) (Nat.lt_irrefl _)
  have st1 : tn 0 h₁ := T.keep _ _ _ st fun b _ o e => old b o e
  have run := comp_start (elt := elt) (gens := ⟨tg, iter, ifs, 0⟩ :: rest) (scope := scope) (pos := pos) (d := 0) rfl T st1
    (comp_loop (Y := blk X N' scope h0.objs.size s H fp) (D := s.heap.objs.size) (Q := fun ys _ H2 => Q ys H2) (elt := elt) (gens := ⟨tg, iter, ifs, 0⟩ :: rest) (scope := scope) (pos := pos) (d := 0) rfl hc rfl T fpY st1 hDf h2 (pg _) (pt _) (pi _ _) I1 fD aD h)
  refine codeAny_mono run fun r s' hr => ?_
  cases r with
  | error e => exact hr.elim
  | ok fl =>
    obtain ⟨ys', σ', H', q1, q2, q3, q4⟩ := hr
    exact hRR _ _ s' σ' H' ys' fl hCle (Nat.le_refl _) hDC q1 q2.1 q3 q4
end

/-- a comprehension: the first for's iterable is the def's, all else the block's -/
def tComp (wi : TI) (ts : Nat) (cap : List Nat) (g : TG) (tt : TT) (ti : TC) : TE := fun σ H Q => wi σ H fun J H1 => tNestW g tt ti J [] (capSt ts cap σ) H1 fun ys _ H2 => ∀ p, H2 p = none → Q (.ref p) (upd H2 p (.lst ys))
section
variable {X : Cx} {elt tg iter : Expr} {ifs : List Expr} {rest : List Comprehension} {scope : Scope} {pos : Pos} {wi : TI} {g : TG} {tt : TT} {ti : TC}
theorem pe_comp (N' : List Str) (ts : Nat) (cap : List Nat) (hi : PI X tg iter wi) (pg : ∀ C s H fp, PG (blk X N' scope C s H fp) tg g) (pt : ∀ C s H fp, PTs (blk X N' scope C s H fp) ifs tt)
    (pi : ∀ C s H fp D, PIn (blk X N' scope C s H fp) D (inner elt (⟨tg, iter, ifs, 0⟩ :: rest) scope pos 0 (.ref D) (blk X N' scope C s H fp).env) ti)
    (ok : compOk X.env.scope scope X.N N' ts cap = true := by rfl) (hc : X.calm = true := by rfl) (h2 : ∀ g', (Comprehension.mk tg iter ifs 0 :: rest)[0 + 1]? = some g' → g'.is_async = 0 := by (intro g' h; cases h <;> rfl))
    (hs : ∀ x, foldedSetIterable iter X.env x = pure x := by intro _; rfl) :
    PE X (.ListComp elt (⟨tg, iter, ifs, 0⟩ :: rest) scope pos) (tComp wi ts cap g tt ti) := by
  intro pins s σ H Q I h
  have S := compS_of ok
  rw [eval_ListComp]
  refine wpAny_comprehension_free (use := none) rfl hs (closureFor_eq fun y hy e => I.ok.has _ (S.free y hy e)) S.kind S.names (thn (hi pins s σ H _ I h) fun v s1 h1 => thn h1 fun itv s2 h2' => ?_)
  obtain ⟨it, fp, tn, J, H2, e, I2, T, st2, f2, q2⟩ := h2'
  subst e
  refine comp_block (RR := fun acc C => compPost (model X.prog X.w) X.A X.xe none _ acc C) S hc I2 T st2 f2 h2 (fun C => pg C _ _ _) (fun C => pt C _ _ _) (fun C D => pi C _ _ _ D) q2 ?_
  intro C D s' σ' H' ys fl hC hD hDC J' n a q
  obtain ⟨m, hn, _⟩ := J'.loc
  exact ⟨m, hn, fun h' sb => ⟨.ref D, _, blk_exit I2 f2 hC hD hDC J' n a sb, rfl, q D n⟩⟩

/-- x = [..], stored ahead of the block's names' going -/
theorem ps_setC (N' : List Str) (ts : Nat) (cap : List Nat) {i : Nat} {x : Str} {px spos : Pos} (hN : X.N.Nodup) (hix : X.N[i]? = some x) (hx : Loc X.env.scope x) (hi : PI X tg iter wi) (pg : ∀ C s H fp, PG (blk X N' scope C s H fp) tg g) (pt : ∀ C s H fp, PTs (blk X N' scope C s H fp) ifs tt)
    (pi : ∀ C s H fp D, PIn (blk X N' scope C s H fp) D (inner elt (⟨tg, iter, ifs, 0⟩ :: rest) scope pos 0 (.ref D) (blk X N' scope C s H fp).env) ti)
    (hsw : swapsWith (.ListComp elt (⟨tg, iter, ifs, 0⟩ :: rest) scope pos) (some (.Name x px)) spos.line X.env = pure true := by rfl)
    (ok : compOk X.env.scope scope X.N N' ts cap = true := by rfl) (hc : X.calm = true := by rfl) (h2 : ∀ g', (Comprehension.mk tg iter ifs 0 :: rest)[0 + 1]? = some g' → g'.is_async = 0 := by (intro g' h; cases h <;> rfl))
    (hs : ∀ x, foldedSetIterable iter X.env x = pure x := by intro _; rfl) (hfn : X.fn x = true ∨ X.env.scope.names.lookup x = some .local := by first | exact .inl rfl | exact .inr rfl | assumption) :
    PS X (.Assign [.Name x px] (.ListComp elt (⟨tg, iter, ifs, 0⟩ :: rest) scope pos) spos) (tAsg (tComp wi ts cap g tt ti) (gName i)) := by
  intro pins s σ H D I h
  have S := compS_of ok
  rw [exec_Assign_Name_used _ _ _ _ hsw]
  refine wpAny_bind (wpAny_standAt (wpAny_bind ?_))
  show wpAny _ X.A (do let _ ← comprehension (.ListComp elt (⟨tg, iter, ifs, 0⟩ :: rest) scope pos) scope X.env _ (newList []) false (eval iter X.env) (some (assign (.Name x px) X.env))) _ _ s
  refine wpAny_bind (wpAny_mono (wpAny_comprehension_free (use := some (assign (.Name x px) X.env)) (Q := fun _ s' => ∃ σ' H', Inv X pins σ' H' s' ∧ D.nx σ' H') rfl hs (closureFor_eq fun y hy e => I.ok.has _ (S.free y hy e)) S.kind S.names
    (thn (hi pins s σ H _ I h) fun v s1 h1 => thn h1 fun itv s2 h2' => ?_)) (fun _ s' hq => wpAny_pure (wpAny_pure hq)) fun _ _ e => e)
  obtain ⟨it, fp, tn, J, H2, e, I2, T, st2, f2, q2⟩ := h2'
  subst e
  refine comp_block (RR := fun acc C => compPost (model X.prog X.w) X.A X.xe (some (assign (.Name x px) X.env)) _ acc C) S hc I2 T st2 f2 h2 (fun C => pg C _ _ _) (fun C => pt C _ _ _) (fun C D => pi C _ _ _ D) q2 ?_
  intro C B s' σ' H' ys fl hC hB hBC J' n a q
  obtain ⟨m, hn, _⟩ := J'.loc
  have IX : Inv X pins σ (upd H' B (.lst ys)) s' := blk_exit I2 f2 hC hB hBC J' n a (Heap.SameBut.refl C s'.heap)
  have fC := I2.fpOk (H' := upd H' B (.lst ys)) (b := C) hC (by rw [upd_ne (Ne.symm hBC)]; exact J'.free)
  obtain ⟨f0, f1, f2', f3, f4, f5⟩ := fC
  show wpAny _ X.A (assign (.Name x px) X.env (.ref B)) _ _ s'
  refine wpAny_assign_Name (store_ok2 (v := .ref B) (u := .ref B) IX hN hix hx rfl (fun s'' I'' ⟨c, sb, hcc⟩ => ?_) hfn)
  have hCc : C ≠ c := by
    rcases hcc with z | z
    · rw [z]; exact f1
    · exact (f4 x c z).symm
  refine ⟨m, Heap.Ns.sameBut hn sb hCc, fun h' sb' => ?_⟩
  refine ⟨σ.set i (some (.ref B)), _, I''.turned (t' := s''.toks) (it := C) (fun b o hb e => (sb'.2 b hb).trans e) f0 f1 f3 f4 f5, q B n⟩
end
end L2
-- part PB
set_option Elab.async false
set_option linter.all false
set_option maxRecDepth 100000
namespace L2
open PySem PySem.Spec PyProof.Rows
section
variable {X : Cx}
/-! ### isinstance(x, c), c a built-in class -/
def tyN (t c : String) : Bool := t == c || (t == "bool" && c == "int")
theorem call_isinst {c : String} : CallR X (.builtin "isinstance") (fun xs H Q => ∃ x t b, xs = [x, .ty c] ∧ TyOf X.K H x t ∧ PySem.W.kitOne X.K t (.type c) = some b ∧ Q (.bl b) H) := by
  intro pins s σ H xs us Q I r h
  obtain ⟨x, t, b, rfl, ty, e, q⟩ := h
  obtain ⟨u, v, rfl, ru, rv⟩ := vals2 r
  cases rv
  exact isinst_ok I ru ty e fun tk => ⟨.bl b, H, I.tok tk, rfl, q⟩

/-! ### all(xs), xs a list of bools -/
theorem call_all (hc : X.calm = true := by rfl) : CallR X (.builtin "all") (fun xs H Q => ∃ (p : Addr) (bs : List Bool), xs = [.ref p] ∧ SqL X.K H p (bs.map V.bl) ∧ Q (.bl (bs.all id)) H) := by
  intro pins s σ H xs us Q I r h
  obtain ⟨p, bs, rfl, hp, q⟩ := h
  obtain ⟨u, rfl, ru⟩ := vals1 r
  cases ru
  obtain ⟨its, rv, pl, hz⟩ := I.list hp
  have hb : ∀ (i : Nat) (v : Value), its.toArray[i]? = some v → v = .bool (bs.getD i false) := fun i v e => by
    have e' : its[i]? = some v := by simpa using e
    have hl := rv.length
    have hi : i < its.length := (List.getElem?_eq_some_iff.mp e').1
    have hi' : i < (bs.map V.bl).length := by omega
    obtain ⟨u, hu, ru⟩ := rv.get (i := i) (x := (bs.map V.bl)[i]) (by simp)
    rw [e'] at hu
    cases hu
    rw [List.getElem_map] at ru
    have hi2 : i < bs.length := by simpa using hi'
    have e2 : bs.getD i false = bs[i] := by simp [List.getD_eq_getElem?_getD, hi2]
    rw [e2]
    exact ru
  refine call_all_walk (wpAny_pyIter_list pl.isList ?_)
  have hne : p ≠ s.heap.objs.size := Nat.ne_of_lt (by obtain ⟨o, n, e, _⟩ := pl; exact Heap.lt_size e)
  refine ⟨s.heap.objs.size, _, _, _, _, _, fun i => bs.getD i false, rfl, Walks.list (A := X.A.in1) (show X.A.in1.handled = none from I.ok.hd hc) s.heap.objs.size p hne its.toArray, ⟨⟨_, Heap.get?_push_size _ rfl, rfl, rfl⟩, pl.isList.at fun o e => Heap.get?_push_of_some _ e⟩, fun i v s' Q' E' hP hQ => ?_, fun h' tk hk => ?_⟩
  · rw [hb i v hP]
    exact wpAny_truthy_bool hQ
  · have e : (List.range its.toArray.size).all (fun i => bs.getD i false) = bs.all id := by
      have hl : its.toArray.size = bs.length := by have := rv.length; rw [List.length_map] at this; simpa using this.symm
      rw [hl, Bool.eq_iff_iff, List.all_eq_true, List.all_eq_true]
      constructor
      · intro h b hb
        obtain ⟨i, hi, e⟩ := List.mem_iff_getElem.mp hb
        have := h i (List.mem_range.mpr hi)
        rw [List.getD_eq_getElem?_getD, List.getElem?_eq_getElem hi, Option.getD_some, e] at this
        exact this
      · intro h i hi
        have hi' := List.mem_range.mp hi
        rw [List.getD_eq_getElem?_getD, List.getElem?_eq_getElem hi', Option.getD_some]
        exact h _ (List.getElem_mem hi')
    rw [e]
    refine ⟨.bl (bs.all id), H, I.kept fun b o eb => hk b o ?_ (Heap.get?_push_of_some _ eb), rfl, q⟩
    intro z
    have e1 : b = s.heap.objs.size := by simpa using z
    exact absurd (Heap.lt_size eb) (by rw [e1]; exact Nat.lt_irrefl _)

/-! ### set(xs), xs a list of ints; its len -/
def setN (ns : List Int) : Nat := (PyProof.Rows.firstMet (fun i => ns.getD i 0) ns.length).length
theorem call_set_ints (hc : X.calm = true := by rfl) : CallR X (.type "set") (fun xs H Q => ∃ (p : Addr) (ns : List Int), xs = [.ref p] ∧ SqL X.K H p (ns.map V.int) ∧ ns.length ≤ 1000 ∧ ∀ q S, H q = none → Q (.ref q) (upd H q (.set S (setN ns)))) := by
  intro pins s σ H xs us Q I r h
  obtain ⟨p, ns, rfl, hp, hn, q⟩ := h
  obtain ⟨u, rfl, ru⟩ := vals1 r
  cases ru
  obtain ⟨its, rv, pl, hz⟩ := I.list hp
  have hl := rv.length
  rw [List.length_map] at hl
  refine call_set_list (I.ok.hd hc) pl.isList (intsAre_of rv) (by rw [List.size_toArray, ← hl]; unfold scanBound; omega) fun h' tk hs hk => ?_
  have e : its.toArray.size = ns.length := by simp [hl]
  rw [e] at hs
  exact ⟨.ref s.heap.objs.size, _, I.laid (a := s.heap.objs.size) (o := .set _ (setN ns)) (fun b o eb => hk b o (Heap.lt_size eb) eb) (Nat.le_refl _) hs, rfl, q _ _ I.fresh⟩
theorem call_len_setN : CallR X (.builtin "len") (fun xs H Q => ∃ p S n, xs = [.ref p] ∧ H p = some (.set S n) ∧ Q (.int n) H) := by
  intro pins s σ H xs us Q I r h
  obtain ⟨p, S, n, rfl, hp, q⟩ := h
  obtain ⟨u, rfl, ru⟩ := vals1 r
  cases ru
  obtain ⟨o, es, ep, t, h1, h2, h3, h4, h5, h6, h7, h8⟩ := (show ObjOk X.prog X.w H s.heap p (.set S n) from I.hok p _ hp)
  refine call_len_set h1 h2 h3 h7 (by have : scanBound = 4096 := rfl; omega) ⟨.int n, H, I.tok _, ⟨_, by rw [h8]⟩, q⟩

/-! ### range(n) as a thing, list(range(n)) -/
def upTo (n : Nat) : List V := (List.range n).map fun (i : Nat) => V.int (i : Int)
/-! ### () + t -/
theorem op_catT0 : OpR X (binaryOp .Add) (fun x y H Q => ∃ a b ys, x = .ref a ∧ y = .ref b ∧ SqT X.K H a [] ∧ SqT X.K H b ys ∧ Q (.ref b) H) := by
  intro pins s σ H x y u v Q I rx ry h
  obtain ⟨a, b, ys, rfl, rfl, ha, hb, q⟩ := h
  cases rx
  cases ry
  obtain ⟨its, rv, pl, hz⟩ := I.tuple ha
  obtain ⟨its2, rv2, pl2, hz2⟩ := I.tuple hb
  cases rv
  obtain ⟨⟨cls, dd, data, sl⟩, ho, hcl, n, hd⟩ := id pl
  obtain ⟨⟨cls2, dd2, data2, sl2⟩, ho2, hc2, n2, hd2⟩ := id pl2
  simp only at hcl hd hc2 hd2
  subst hcl hd hc2 hd2
  exact concat_meets ⟨_, ho, rfl⟩ ⟨_, ho2, rfl⟩ noFill_tuple_add seq_tuple_add PySem.F.slot_tuple_add PySem.F.entry_tuple_add (PySem.F.args_tuple_add_2 _ _)
      (tuple_addW0 a b #[] its2.toArray n n2 dd dd2 sl sl2 rfl) ⟨ho, ho2, ⟨.ref b, H, I, rfl, q⟩⟩
end
end L2
-- part PD0
set_option Elab.async false
set_option linter.all false
set_option maxRecDepth 100000
namespace L2
open PySem PySem.Spec PyProof.Rows
/-! ### comprehension loops in the forms one uses -/
theorem nest_tup {K : PySem.W.Frag} {a : Addr} {xs : List V} {g : TG} {tt : TT} {ti : TC} {ys : List V} {σ : St} {H : Hp} {Q : List V → St → Hp → Prop} (Pv : Nat → List V → St → Hp → Prop) (h0 : Pv 0 ys σ H)
    (hl : ∀ i ys σ H, i ≤ xs.length → Pv i ys σ H → SqT K H a xs)
    (hs : ∀ i x ys σ H, xs[i]? = some x → Pv i ys σ H → g x σ H fun σ2 H2 => tt σ2 H2 fun b H3 => if b = true then ti ys σ2 H3 (Pv (i + 1)) else Pv (i + 1) ys σ2 H3)
    (hd : ∀ ys σ H, Pv xs.length ys σ H → Q ys σ H) : tNestW g tt ti (Itt K a) ys σ H Q := by
  refine ⟨fun i m ys σ H => m = xs.length - i ∧ i ≤ xs.length ∧ Pv i ys σ H, ⟨xs.length, by simp, Nat.zero_le _, h0⟩, ?_⟩
  rintro i m ys σ H ⟨rfl, hi, p⟩
  have q := hl i ys σ H hi p
  by_cases hlt : i < xs.length
  · refine .inr ⟨⟨xs, xs[i], q, by simp [hlt]⟩, Pv (i + 1), fun ys' σ' H' p' => ⟨xs.length - (i + 1), by omega, rfl, hlt, p'⟩, fun x H' y => ?_⟩
    obtain ⟨e, y⟩ := y
    subst e
    exact hs i x ys σ _ (y xs q) p
  · have e : i = xs.length := by omega
    subst e
    exact .inl ⟨⟨xs, q, Nat.le_refl _⟩, hd ys σ H p⟩
theorem nest_list {K : PySem.W.Frag} {a : Addr} {xs : List V} {g : TG} {tt : TT} {ti : TC} {ys : List V} {σ : St} {H : Hp} {Q : List V → St → Hp → Prop} (Pv : Nat → List V → St → Hp → Prop) (h0 : Pv 0 ys σ H)
    (hl : ∀ i ys σ H, i ≤ xs.length → Pv i ys σ H → SqL K H a xs)
    (hs : ∀ i x ys σ H, xs[i]? = some x → Pv i ys σ H → g x σ H fun σ2 H2 => tt σ2 H2 fun b H3 => if b = true then ti ys σ2 H3 (Pv (i + 1)) else Pv (i + 1) ys σ2 H3)
    (hd : ∀ ys σ H, Pv xs.length ys σ H → Q ys σ H) : tNestW g tt ti (Itl K a) ys σ H Q := by
  refine ⟨fun i m ys σ H => m = xs.length - i ∧ i ≤ xs.length ∧ Pv i ys σ H, ⟨xs.length, by simp, Nat.zero_le _, h0⟩, ?_⟩
  rintro i m ys σ H ⟨rfl, hi, p⟩
  have q := hl i ys σ H hi p
  by_cases hlt : i < xs.length
  · refine .inr ⟨⟨xs, xs[i], q, by simp [hlt]⟩, Pv (i + 1), fun ys' σ' H' p' => ⟨xs.length - (i + 1), by omega, rfl, hlt, p'⟩, fun x H' y => ?_⟩
    obtain ⟨e, y⟩ := y
    subst e
    exact hs i x ys σ _ (y xs q) p
  · have e : i = xs.length := by omega
    subst e
    exact .inl ⟨⟨xs, q, Nat.le_refl _⟩, hd ys σ H p⟩
theorem nest_range {lo : Int} {n : Nat} {g : TG} {tt : TT} {ti : TC} {ys : List V} {σ : St} {H : Hp} {Q : List V → St → Hp → Prop} (Pv : Nat → List V → St → Hp → Prop) (h0 : Pv 0 ys σ H)
    (hs : ∀ i ys σ H, i < n → Pv i ys σ H → g (.int (lo + i)) σ H fun σ2 H2 => tt σ2 H2 fun b H3 => if b = true then ti ys σ2 H3 (Pv (i + 1)) else Pv (i + 1) ys σ2 H3)
    (hd : ∀ ys σ H, Pv n ys σ H → Q ys σ H) : tNestW g tt ti (Itr lo n) ys σ H Q := by
  refine ⟨fun i m ys σ H => m = n - i ∧ i ≤ n ∧ Pv i ys σ H, ⟨n, by simp, Nat.zero_le _, h0⟩, ?_⟩
  rintro i m ys σ H ⟨rfl, hi, p⟩
  by_cases hlt : i < n
  · refine .inr ⟨hlt, Pv (i + 1), fun ys' σ' H' p' => ⟨n - (i + 1), by omega, rfl, hlt, p'⟩, fun x H' y => ?_⟩
    obtain ⟨e, y⟩ := y
    subst e y
    exact hs i ys σ _ hlt p
  · have e : i = n := by omega
    subst e
    exact .inl ⟨Nat.le_refl _, hd ys σ H p⟩
/-- a block's own name as a target -/
theorem pb {X : Cx} {N' : List Str} {scope : Scope} {C : Addr} {s : Shared} {H : Hp} {fp : List Addr} (i : Nat) {x : Str} {pos : Pos} (hN : N'.Nodup := by decide +kernel) (hi : N'[i]? = some x := by rfl) (hx : (relabel scope X.env).names.lookup x = some .local := by rfl) :
    PG (blk X N' scope C s H fp) (.Name x pos) (gName i) := pg_name (X := blk X N' scope C s H fp) hN hi (.inl hx) (.inr hx)
/-! ### a def known by its promise -/
def Def (P : Program) (w : World) (K : PySem.W.Frag) (mg : Str → Option Value) (base : Heap) (k : Nat) (x : Str) (ps : List Str) (sp : Sp) : Prop :=
  ∃ f fd, FnOk P w K mg base CX0 k f fd ps sp ∧ mg x = some (.ref f) ∧ PySem.W.keepIn K (.ref f) = true ∧ Binds K fd ps []
section
variable {X : Cx} {k : Nat} {x : Str} {ps : List Str} {sp : Sp} {e : Expr} {es : List Expr} {t : TA} {p pos : Pos}
theorem pe_callD (d : Def X.prog X.w X.K X.mg X.base k x ps sp) (hr : Room k X.A) (ha : PA X (e :: es) t) (hg : Gl X x := by rfl) (hdb : (x == ("__debug__" : Str)) = false := by decide)
    (he : starEach (e :: es) X.env = (false, eval e X.env) :: starEach es X.env := by rfl) (hpl : (backTo pos (starEach es X.env)).any (·.1) = false := by rfl) :
    PE X (.Call (.Name x p) (e :: es) [] pos) (tCall sp [] E0 t) := by
  obtain ⟨f, fd, F, hm, hk, hb⟩ := d
  exact pe_call F hr hg hm hk hb .nil pass0 ha hdb he hpl
end
/-! ### plain things -/
def PlT (K : PySem.W.Frag) (H : Hp) (x : V) : Prop := ∃ T, TyOf K H x (.type T)
def whole : V → Bool
  | .int _ => true
  | _ => false
def wholeIn : V → Int → Int → Bool
  | .int i, a, b => decide (a ≤ i) && decide (i ≤ b)
  | _, _, _ => false
def tupH : Option HO → Option (List V)
  | some (.tup xs) => some xs
  | _ => none
def tupOf (H : Hp) : V → Option (List V)
  | .ref a => tupH (H a)
  | _ => none
theorem tupOf_r {H : Hp} {a : Addr} : tupOf H (.ref a) = tupH (H a) := rfl
theorem tupOf_ref {H : Hp} {a : Addr} {xs : List V} (h : H a = some (.tup xs)) : tupOf H (.ref a) = some xs := by rw [tupOf_r, h]; rfl
theorem tupH_some {o : Option HO} {xs : List V} (h : tupH o = some xs) : o = some (.tup xs) := by
  cases o with
  | none => cases h
  | some o => cases o <;> first | (cases h; rfl) | cases h
theorem tupOf_some {H : Hp} {x : V} {xs : List V} (h : tupOf H x = some xs) : ∃ a, x = .ref a ∧ H a = some (.tup xs) := by
  cases x with
  | ref a => exact ⟨a, rfl, tupH_some h⟩
  | _ => cases h
theorem Same.tupOf {H H' : Hp} (s : Same H H') {x : V} {xs : List V} (h : L2.tupOf H x = some xs) : L2.tupOf H' x = some xs := by
  obtain ⟨a, rfl, q⟩ := tupOf_some h
  exact tupOf_ref (s _ _ q)
theorem Same.plT {K : PySem.W.Frag} {H H' : Hp} (s : Same H H') {x : V} (h : PlT K H x) : PlT K H' x := by
  obtain ⟨T, t⟩ := h
  cases t with
  | non => exact ⟨_, .non⟩
  | bl y => exact ⟨_, .bl y⟩
  | int i => exact ⟨_, .int i⟩
  | str y => exact ⟨_, .str y⟩
  | flt y => exact ⟨_, .flt y⟩
  | lst e => exact ⟨_, .lst (s _ _ e)⟩
  | frz e => exact ⟨_, .frz (s _ _ e)⟩
  | tup e => exact ⟨_, .tup (s _ _ e)⟩
  | dK e => exact ⟨_, .dK (s _ _ e)⟩
  | dT e => exact ⟨_, .dT (s _ _ e)⟩
def isIntV : V → Bool
  | .int _ => true
  | .bl _ => true
  | _ => false
def isBlV : V → Bool
  | .bl _ => true
  | _ => false
theorem kit_int {K : PySem.W.Frag} {H : Hp} {x : V} {T : String} (t : TyOf K H x (.type T)) : PySem.W.kitOne K (.type T) (.type "int") = some (isIntV x) := by cases t <;> rfl
theorem kit_bool {K : PySem.W.Frag} {H : Hp} {x : V} {T : String} (t : TyOf K H x (.type T)) : PySem.W.kitOne K (.type T) (.type "bool") = some (isBlV x) := by cases t <;> rfl
theorem kit_tuple {K : PySem.W.Frag} {H : Hp} {x : V} {T : String} (t : TyOf K H x (.type T)) : PySem.W.kitOne K (.type T) (.type "tuple") = some (tupOf H x).isSome := by
  cases t with
  | tup e => rw [tupOf_ref e]; rfl
  | lst e => rw [tupOf_r, e]; rfl
  | frz e => rw [tupOf_r, e]; rfl
  | dK e => rw [tupOf_r, e]; rfl
  | dT e => rw [tupOf_r, e]; rfl
  | _ => rfl
theorem isInt_whole (x : V) : whole x = (isIntV x && !isBlV x) := by cases x <;> rfl
end L2
-- part PD1
set_option Elab.async false
set_option linter.all false
set_option maxRecDepth 100000
namespace L2
open PySem PySem.Spec PyProof.Rows
/-- three plain local names at once -/
def tPar3 (i j k : Nat) (ta : TA) : TS := fun D σ H => ta σ H fun vs H1 => ∃ v w z, vs = [v, w, z] ∧ D.nx (((σ.set k (some z)).set j (some w)).set i (some v)) H1
/-- all that was tracked is as it was, but what stands at p -/
def SameX (p : Addr) (H H' : Hp) : Prop := ∀ b o, H b = some o → b ≠ p → H' b = some o
theorem SameX.trans {p : Addr} {H H1 H2 : Hp} (a : SameX p H H1) (b : SameX p H1 H2) : SameX p H H2 := fun c o h n => b c o (a c o h n) n
theorem Same.x {p : Addr} {H H1 : Hp} (a : Same H H1) : SameX p H H1 := fun c o h _ => a c o h
theorem SameX.upd {p : Addr} {H : Hp} {o : HO} : SameX p H (L2.upd H p o) := fun b u h n => by rw [upd_ne n]; exact h
/-! ### xs == [] -/
theorem op_eqE {X : Cx} (hu : X.A.units < cLine) : OpR X (compareOp .Eq) (fun x y H Q => ∃ (a b : Addr) (xs : List V), x = .ref a ∧ y = .ref b ∧ SqL X.K H a xs ∧ SqL X.K H b [] ∧ Q (.bl xs.isEmpty) H) := by
  intro pins s σ H x y u v Q I rx ry h
  obtain ⟨a, b, xs, rfl, rfl, ha, hb, q⟩ := h
  cases rx
  cases ry
  obtain ⟨its, rv, pl, hz⟩ := I.list ha
  obtain ⟨its2, rv2, pl2, hz2⟩ := I.list hb
  cases rv2
  cases rv with
  | nil => exact SeqAt.eq_listAt (e := fun _ => true) pl.isList pl2.isList rfl hu (fun j h1 h2 => absurd h2 (by simp)) ⟨.bl true, H, I, rfl, q⟩
  | cons r t => exact SeqAt.eq_list_lengthsAt pl.isList pl2.isList (by simp) hu ⟨.bl false, H, I, rfl, q⟩
/-! ### xs != [] -/
end L2
-- part PE
set_option Elab.async false
set_option linter.all false
set_option maxRecDepth 100000
namespace L2
open PySem PySem.Spec PyProof.Rows
/-! ### enumerate(t), t a tuple -/
section
variable {prog : Program} {w : World} {A : Around} {E : Value → Shared → Prop} {s : Shared}
theorem nextT_item {j t : Addr} {i : Nat} {its : Array Value} {x : Value} {Q : Value → Shared → Prop} (h1 : s.heap.IsTupleIter j t i) (h2 : s.heap.IsTuple t its) (hx : its[i]? = some x)
    (k : ∀ h', h'.IsTupleIter j t (i + 1) → Heap.SameBut j s.heap h' → Q x { s with heap := h' }) : wpAny (model prog w) A (Builtin.SmallTypes.nextOf (.ref j)) Q E s := by
  obtain ⟨o, eo, co, dO⟩ := id h1
  obtain ⟨ot, et, _, nt, dt⟩ := h2
  unfold Builtin.SmallTypes.nextOf
  refine wpAny_bind (wpAny_callSpecial?_slot (name := Str.ofString "__next__") h1.typeIs F.slot_tuple_iterator_next (wpAny_call_entry F.slot_tuple_iterator_next h1.typeIs F.entry_tuple_iterator_next ?_ (F.args_tuple_iterator_next_1 _)))
  show wpAny _ _ (field (.ref j) 0 >>= _) _ _ s
  refine wpAny_bind (wpAny_field eo dO (x := .ref t) rfl ?_)
  show wpAny _ _ (if (Value.ref t == Value.none) = true then _ else _) _ _ s
  rw [if_neg (show ¬ ((Value.ref t == Value.none) = true) from Bool.false_ne_true)]
  show wpAny _ _ (field (.ref j) 1 >>= _) _ _ s
  refine wpAny_bind (wpAny_field eo dO (x := .int i 0) rfl ?_)
  show wpAny _ _ (seqItems? (.ref t) >>= _) _ _ s
  refine wpAny_bind (wpAny_seqItems et dt ?_)
  simp only [Int.toNat_natCast, hx]
  refine wpAny_bind (wpAny_setField eo dO (by simp) (wpAny_pure ⟨x, rfl, wpAny_pure (k _ ⟨_, Heap.get?_update_self _ eo (Obj.isFreed_of_fields (Obj.data_mapFields dO _)), (Obj.cls_mapFields ..).trans co, ?_⟩ (Heap.SameBut.update ..))⟩))
  rw [Obj.data_mapFields dO]
  simp [rawInt]
theorem nextT_end {j t : Addr} {i : Nat} {its : Array Value} {Q : Value → Shared → Prop} (hh : A.handled = none) (h1 : s.heap.IsTupleIter j t i) (h2 : s.heap.IsTuple t its) (hx : its[i]? = none)
    (k : ∀ h' e, Heap.ExtBut j s.heap h' → (∃ o, h'.get? e = some o ∧ o.cls = .type "StopIteration") → E (.ref e) { s with heap := h' }) : wpAny (model prog w) A (Builtin.SmallTypes.nextOf (.ref j)) Q E s := by
  obtain ⟨o, eo, co, dO⟩ := id h1
  obtain ⟨ot, et, _, nt, dt⟩ := h2
  unfold Builtin.SmallTypes.nextOf
  refine wpAny_bind (wpAny_callSpecial?_slot (name := Str.ofString "__next__") h1.typeIs F.slot_tuple_iterator_next (wpAny_call_entry F.slot_tuple_iterator_next h1.typeIs F.entry_tuple_iterator_next ?_ (F.args_tuple_iterator_next_1 _)))
  show wpAny _ _ (field (.ref j) 0 >>= _) _ _ s
  refine wpAny_bind (wpAny_field eo dO (x := .ref t) rfl ?_)
  show wpAny _ _ (if (Value.ref t == Value.none) = true then _ else _) _ _ s
  rw [if_neg (show ¬ ((Value.ref t == Value.none) = true) from Bool.false_ne_true)]
  show wpAny _ _ (field (.ref j) 1 >>= _) _ _ s
  refine wpAny_bind (wpAny_field eo dO (x := .int i 0) rfl ?_)
  show wpAny _ _ (seqItems? (.ref t) >>= _) _ _ s
  refine wpAny_bind (wpAny_seqItems et dt ?_)
  simp only [Int.toNat_natCast, hx]
  refine wpAny_bind (wpAny_rule (wpAny_bind (wpAny_setField eo dO (by simp) ?_)))
  show wpAny _ _ (newExc (.type "StopIteration") [] >>= _) _ _ _
  refine wpAny_bind ?_
  simp only [newExc, newTuple]
  refine wpAny_bind (wpAny_newObj_type ?_ (by size_fits))
  refine wpAny_bind (m := firstArgMember _ _) (wpAny_of_eq (a := Value.none) (by first | rfl | (simp only [firstArgMember]; rfl)) (wpAny_newObj_type ?_ (by size_fits)))
  simp only [raiseNew]
  refine wpAny_bind (wpAny_handled ?_)
  first | rw [show A.in1.handled = none from hh] | rw [hh]
  exact wpAny_bind (wpAny_pure (wpAny_throw (k _ _ (((Heap.SameBut.update ..).extBut.push _).push _) ⟨_, Heap.get?_push_size _ rfl, rfl⟩)))
end
theorem drawsT {prog : Program} {w : World} {A : Around} (hh : A.handled = none) (j t : Addr) (hne : t ≠ j) (its : Array Value) :
    Draws prog w A j [j, t] its.size (fun i v => its[i]? = some v) (fun i h => h.IsTupleIter j t i ∧ h.IsTuple t its) where
  live := fun _ _ st => let ⟨o, ho, _⟩ := st.1; ⟨o, ho⟩
  frame := fun _ _ _ st hk => ⟨st.1.at fun o e => hk j (by simp) o e, st.2.at fun o e => hk t (by simp) o e⟩
  item := fun i s Q E hi st hQ => nextT_item st.1 st.2 (x := its[i]) (by simp [hi]) fun h' a b => hQ _ h' s.toks (by simp [hi]) ⟨a, st.2.extBut b.extBut hne⟩ b
  done := fun s Q E st hE => nextT_end hh st.1 st.2 (by simp) hE
section
variable {prog : Program} {w : World} {A : Around} {E : Value → Shared → Prop} {s : Shared}
theorem enum_newT (l : Addr) (its : Array Value) (n : Nat) (dct : Option Addr) (sl : Array (Option Value)) :
    Meets (Builtin.«enumerate.__new__» ⟨[.type "enumerate", .ref l], []⟩) (fun _ R s => s.heap.get? l = some { cls := .type "tuple", dict := dct, data := .seq its n, slots := sl } ∧
      R (.ok (.ret (.ref (s.heap.push { cls := .type "tuple_iterator", data := .fields #[.ref l, .int 0 0] }).objs.size)))
        { s with heap := (s.heap.push { cls := .type "tuple_iterator", data := .fields #[.ref l, .int 0 0] }).push { cls := .type "enumerate", data := .fields #[.none, .bool false, .ref s.heap.objs.size, rawInt 0, .none, .none] } }) :=
  .of_wp fun prog w A R s h => by
    obtain ⟨hp, g, d, tk, os⟩ := s
    obtain ⟨hl, h⟩ := h
    have hsub := sub_enumerate
    have hL : Heap.IsTuple (Shared.heap ⟨hp, g, d, tk, os⟩) l its := ⟨_, hl, rfl, n, rfl⟩
    wp_walk using AutoSeq1.wpAny_loadPart' hl
    refine wpAny_stack_any fun st => wpAny_pure ?_
    split
    · rename_i c _ _ _ _ _
      cases (c == Value.type "enumerate") <;> (wp_walk using AutoSeq1.wpAny_loadPart' hl, wpAny_pyIter_tuple hL; exact ⟨_, rfl, h⟩)
    · wp_walk using AutoSeq1.wpAny_loadPart' hl, wpAny_pyIter_tuple hL
      exact ⟨_, rfl, h⟩
theorem call_enumT {l : Addr} {its : Array Value} {Q : Value → Shared → Prop} (hL : s.heap.IsTuple l its)
    (h : ∀ h', IsEnum h' (s.heap.objs.size + 1) s.heap.objs.size 0 .none → h'.IsTupleIter s.heap.objs.size l 0 → (∀ b o, s.heap.get? b = some o → h'.get? b = some o) → Q (.ref (s.heap.objs.size + 1)) { s with heap := h' }) :
    wpAny (model prog w) A (call (.type "enumerate") [.ref l]) Q E s := by
  obtain ⟨⟨c, dct, dt, sl⟩, hl, hc, n, hd⟩ := hL
  replace hc : c = .type "tuple" := hc
  replace hd : dt = .seq its n := hd
  subst hc hd
  refine callType_new F.called_enumerate (by decide) (F.typeCall_enumerate_1 _) (F.newCall_enumerate_1 _) (fun obj => F.args_object_init_2 obj _) F.entry_enumerate_new (enum_newT l its n dct sl) ⟨hl, ?_⟩
  have hz : (s.heap.push { cls := .type "tuple_iterator", data := .fields #[.ref l, .int 0 0] }).objs.size = s.heap.objs.size + 1 := Heap.size_push ..
  show _ ∧ _
  rw [hz]
  have he : IsEnum ((s.heap.push { cls := .type "tuple_iterator", data := .fields #[.ref l, .int 0 0] }).push { cls := .type "enumerate", data := .fields #[.none, .bool false, .ref s.heap.objs.size, rawInt 0, .none, .none] }) (s.heap.objs.size + 1) s.heap.objs.size 0 .none := by
    have q := Heap.get?_push_size (s.heap.push { cls := .type "tuple_iterator", data := .fields #[.ref l, .int 0 0] }) (o := { cls := .type "enumerate", data := .fields #[.none, .bool false, .ref s.heap.objs.size, rawInt 0, .none, .none] }) rfl
    rw [hz] at q
    exact q
  exact ⟨⟨_, he, rfl⟩, h _ he ⟨_, Heap.get?_push_of_some _ (Heap.get?_push_size _ rfl), rfl, rfl⟩ fun b o x => Heap.get?_push_of_some _ (Heap.get?_push_of_some _ x)⟩
end
/-- the pairs (i, item), each a new tuple -/
def Ite (K : PySem.W.Frag) (t : Addr) : It :=
  ⟨fun i H => ∃ xs x, SqT K H t xs ∧ xs[i]? = some x, fun i H x H' => ∃ (T : Addr) (y : V), x = .ref T ∧ H T = none ∧ H' = upd H T (.par [.int (i : Int), y]) ∧ ∀ xs, SqT K H t xs → xs[i]? = some y, fun i H => ∃ xs, SqT K H t xs ∧ xs.length = i⟩
theorem turn_enum {P : Program} {w : World} {K : PySem.W.Frag} {elts : List Expr} {kk : Nat} {pos : Pos} (t e j : Addr) (hej : e ≠ j) (hte : t ≠ e) (htj : t ≠ j) :
    Turn P w K (.Tuple elts kk pos) (Ite K t) [e, j] e (fun i h => (∃ old, IsEnum h e j i old) ∧ h.IsTupleIter j t i) where
  mem := by simp
  obj := fun i h st b hb => by
    obtain ⟨⟨old, he⟩, o, ho, hc, hd⟩ := st
    rcases List.mem_cons.mp hb with rfl | hb
    · exact ⟨_, he, fun v z => by cases z⟩
    · rw [List.mem_singleton.mp hb]
      exact ⟨o, ho, fun v z => by rw [hd] at z; cases z⟩
  keep := fun i h h' st k => ⟨let ⟨old, he⟩ := st.1; ⟨old, k e (by simp) _ he⟩, st.2.at fun o q => k j (by simp) o q⟩
  item := by
    intro X hP hw hK hc i pins s σ H E I hf st hg
    subst hP hw hK
    obtain ⟨xs, x, hq, hx⟩ := hg
    obtain ⟨its, rv, p, hz⟩ := I.tuple hq
    obtain ⟨u, hu, ru⟩ := rv.get hx
    have hl := rv.length
    have hil : i < its.toArray.size := by
      have := (List.getElem?_eq_some_iff.mp hu).1
      simpa using this
    have W := WalksT.enumerateD (prog := X.prog) (w := X.w) (A := X.A) (drawsT (A := X.A.in1) (show X.A.in1.handled = none from I.ok.hd hc) j t htj its.toArray) e hej (by simp [hej, hte.symm]) (by simp)
    have hT : s.heap.IsTuple t its.toArray := p
    refine W.item i s _ _ hil ⟨st.1, st.2, hT⟩ fun T vals h' tk hP hTs hTup hmid hk => ⟨_, rfl, W.go elts kk pos i T _ _ _ hmid fun h'' st'' hk'' => ?_⟩
    obtain ⟨tk2, x2, hx2, rfl⟩ := hP
    have hx2' : its[i]? = some x2 := by simpa using hx2
    rw [hu] at hx2'
    cases hx2'
    have hTn : H T = none := I.hok.fresh hTs
    have both : ∀ b o, b ∉ [e, j] → s.heap.get? b = some o → h''.get? b = some o := fun b o hb q => hk'' b o hb (hk b o hb q)
    have hTw : T ∉ [e, j] := W.apart _ _ _ hmid
    have hTT : h''.IsTuple T #[.int i tk2, u] := hTup.at fun o q => hk'' T o hTw q
    have neT : ∀ b o, s.heap.get? b = some o → b ≠ T := fun b o q => Nat.ne_of_lt (Nat.lt_of_lt_of_le (Heap.lt_size q) hTs)
    have neT' : ∀ b o, H b = some o → b ≠ T := fun b o q => ne_of_none q hTn
    have trk : ∀ b o, H b = some o → b ∉ [e, j] := fun b o q z => by
      have := (hf b z).1
      rw [this] at q; cases q
    refine ⟨.ref T, upd H T (.par [.int (i : Int), x]), ?_, rfl, ⟨T, x, rfl, hTn, rfl, fun ys hy => by rw [I.tuple_inj hy hq]; exact hx⟩, ⟨st''.1, st''.2.1⟩, fun b hb => ?_⟩
    · refine (show Inv X pins σ (upd H T (.par [.int (i : Int), x])) { s with heap := h'', toks := tk } from ?_)
      refine I.call (g' := s.gens) (d' := s.drawn) (t' := tk) (h' := h'') (ch := [e, j]) ⟨fun b o q _ _ hx => both b o hx q, fun b o q _ _ hx => ⟨o.slots, both b o hx q⟩, fun b o q n hx => by rw [upd_ne (neT b o q)]; exact n, fun b o q hx => ⟨o, both b o hx q⟩,
        fun b ys q => by rw [upd_ne (neT' b _ q)]; exact q, fun b o u q => by rw [upd_ne (neT' b _ q)]; exact q, fun b ps q => ⟨#[], by rw [upd_ne (neT' b _ q), q]; simp⟩⟩ (fun b v q => ?_) I.bare fun b hb => ?_
      · by_cases hb : b = T
        · subst hb
          rw [upd_same] at q
          cases q
          exact ⟨by show 2 ≤ sizeLine; decide, [.int i tk2, u], .cons ⟨tk2, rfl⟩ (.cons ru .nil), hTT⟩
        · rw [upd_ne hb] at q
          refine (I.hok b v q).stay (fun c z hc' q' => both c z ?_ q') (fun c q' => by rw [upd_ne (neT' c _ q')]; exact q') fun c ys q' => by rw [upd_ne (neT' c _ q')]; exact q'
          rcases hc' with z' | z'
          · rw [z']; exact trk b v q
          · exact trk c _ z'
      · obtain ⟨f0, f1, f2, f3, f4, f5⟩ := hf b hb
        exact ⟨f3, f1, f4, f5⟩
    · rw [upd_ne (fun z => hTw (by rw [← z]; exact hb))]
      exact (hf b hb).1
  done := by
    intro X hP hw hK hc i pins s σ H E I hf st hg
    subst hP hw hK
    obtain ⟨xs, hq, hx⟩ := hg
    obtain ⟨its, rv, p, hz⟩ := I.tuple hq
    have hl := rv.length
    have W := WalksT.enumerateD (prog := X.prog) (w := X.w) (A := X.A) (drawsT (A := X.A.in1) (show X.A.in1.handled = none from I.ok.hd hc) j t htj its.toArray) e hej (by simp [hej, hte.symm]) (by simp)
    have hn : i = its.toArray.size := by rw [List.size_toArray]; omega
    have hT : s.heap.IsTuple t its.toArray := p
    rw [hn] at st
    refine W.done s _ _ ⟨st.1, st.2, hT⟩ fun h' tk hk => ⟨rfl, ?_⟩
    have trk : ∀ b o, H b = some o → b ∉ [e, j] := fun b o q z => by
      have := (hf b z).1
      rw [this] at q; cases q
    refine I.call (g' := s.gens) (d' := s.drawn) (t' := tk) (h' := h') (ch := [e, j]) ⟨fun b o q _ _ hx => hk b o hx q, fun b o q _ _ hx => ⟨o.slots, hk b o hx q⟩, fun b o q n hx => n, fun b o q hx => ⟨o, hk b o hx q⟩, fun b ys q => q, fun b o u q => q, fun b ps q => ⟨#[], by rw [q]; simp⟩⟩ (fun b v q => ?_) I.bare fun b hb => ?_
    · refine (I.hok b v q).stay (fun c z hc' q' => hk c z ?_ q') (fun _ q' => q') fun _ _ q' => q'
      rcases hc' with z' | z'
      · rw [z']; exact trk b v q
      · exact trk c _ z'
    · obtain ⟨f0, f1, f2, f3, f4, f5⟩ := hf b hb
      exact ⟨f3, f1, f4, f5⟩
  self := fun A i s Q E st h => let ⟨old, he⟩ := st.1; wpAny_pyIter_enum he h
section
variable {X : Cx} {elts : List Expr} {kk : Nat} {tp : Pos}
def iEnum (K : PySem.W.Frag) (ta : TA) : TI := fun σ H R => ta σ H fun vs H1 => ∃ t, vs = [.ref t] ∧ (∃ xs, SqT K H1 t xs) ∧ R (Ite K t) H1
theorem pi_enum {a : Expr} {ta : TA} {p pos : Pos} (hg : Gl X "enumerate") (hm : X.mg "enumerate" = none) (ha : PA X [a] ta) (hs : starEach [a] X.env = [(false, eval a X.env)] := by rfl) : PI X (.Tuple elts kk tp) (.Call (.Name "enumerate" p) [a] [] pos) (iEnum X.K ta) := by
  intro pins s σ H R I h
  refine Call_ (ld_blt I hg hm boot_enumerate (PyProof.Rows.callWith_type1 (thn (ha pos pins s σ H _ I h) fun us s1 ⟨vs, H1, I1, r1, q1⟩ => ?_) hs rfl))
  obtain ⟨t, e, ⟨xs, hq⟩, q⟩ := q1
  subst e
  obtain ⟨u, rfl, ru⟩ := vals1 r1
  cases ru
  obtain ⟨its, rv, pl, hz⟩ := I1.tuple hq
  have hT : s1.heap.IsTuple t its.toArray := pl
  have ht : t < s1.heap.objs.size := by obtain ⟨o, ho, _⟩ := hT; exact Heap.lt_size ho
  refine call_enumT hT fun h' he hj hk => wpAny_pyIter_enum he ?_
  have I2 : Inv X pins σ H1 { s1 with heap := h' } := I1.kept (t' := s1.toks) hk
  refine ⟨s1.heap.objs.size + 1, [s1.heap.objs.size + 1, s1.heap.objs.size], _, _, H1, rfl, I2, turn_enum t _ _ (Nat.succ_ne_self _) (Nat.ne_of_lt (Nat.lt_succ_of_lt ht)) (Nat.ne_of_lt ht), ⟨⟨_, he⟩, hj⟩, fun b hb => ?_, q⟩
  have hbs : s1.heap.objs.size ≤ b := by
    rcases List.mem_cons.mp hb with z | z
    · rw [z]; exact Nat.le_succ _
    · rw [List.mem_singleton.mp z]; exact Nat.le_refl _
  exact I1.fpOk hbs (I1.hok.fresh hbs)
end
theorem nest_enum {K : PySem.W.Frag} {a : Addr} {xs : List V} {g : TG} {tt : TT} {ti : TC} {ys : List V} {σ : St} {H : Hp} {Q : List V → St → Hp → Prop} (Pv : Nat → List V → St → Hp → Prop) (h0 : Pv 0 ys σ H)
    (hl : ∀ i ys σ H, i ≤ xs.length → Pv i ys σ H → SqT K H a xs)
    (hs : ∀ i x T ys σ H, xs[i]? = some x → H T = none → Pv i ys σ H → g (.ref T) σ (upd H T (.par [.int (i : Int), x])) fun σ2 H2 => tt σ2 H2 fun b H3 => if b = true then ti ys σ2 H3 (Pv (i + 1)) else Pv (i + 1) ys σ2 H3)
    (hd : ∀ ys σ H, Pv xs.length ys σ H → Q ys σ H) : tNestW g tt ti (Ite K a) ys σ H Q := by
  refine ⟨fun i m ys σ H => m = xs.length - i ∧ i ≤ xs.length ∧ Pv i ys σ H, ⟨xs.length, by simp, Nat.zero_le _, h0⟩, ?_⟩
  rintro i m ys σ H ⟨rfl, hi, p⟩
  have q := hl i ys σ H hi p
  by_cases hlt : i < xs.length
  · refine .inr ⟨⟨xs, xs[i], q, by simp [hlt]⟩, Pv (i + 1), fun ys' σ' H' p' => ⟨xs.length - (i + 1), by omega, rfl, hlt, p'⟩, fun x H' y => ?_⟩
    obtain ⟨T, z, e1, e2, e3, e4⟩ := y
    subst e1 e3
    exact hs i z T ys σ H (e4 xs q) e2 p
  · have e : i = xs.length := by omega
    subst e
    exact .inl ⟨⟨xs, q, rfl⟩, hd ys σ H p⟩
end L2
-- part PX
set_option Elab.async false
set_option linter.all false
set_option maxRecDepth 100000
namespace L2
open PySem PySem.Spec PyProof.Rows

/-! ### exceptions of own classes in flight -/
/-- an exception at e, of the class at C, that left a call: outer the callers' frames, H and s at the call, H' and s' now -/
structure Fl (P : Program) (w : World) (outer : List Env) (H : Hp) (s : Shared) (e C : Addr) (H' : Hp) (s' : Shared) : Prop where
  os : s'.os = s.os
  bare : AllBare s'.gens
  un : Un (frs outer) [] H H' s.heap s'.heap
  hok : HOk P w H' s'.heap
  fly : ∃ B a0, Heap.FlyingW B outer e (.ref C) a0 s'.heap ∧ (∀ b o, s.heap.get? b = some o → b ∉ frs outer → ∃ u, B.get? b = some u) ∧ ∀ b o, H' b = some o → ∃ u, B.get? b = some u
/-- the way an exception lies behind a call: some class, as wished -/
def CXR (P : Program) (w : World) : CXT := fun outer H s E ev s' => ∃ e C H', ev = .ref e ∧ Fl P w outer H s e C H' s' ∧ E (.ref e) (some C) H'

section
variable {P : Program} {w : World} {base : Heap} {env : Env} {outer : List Env} {s0 s1 s2 : Shared} {H0 H1 H2 : Hp} {e C L : Addr} {A : Around}
end

/-- raise X(e, ..): the arguments, then the wish of an exception of this class -/
def tRaise (C : Addr) (E : XK) (ta : TA) : TS := fun _ σ H => ta σ H fun vs H1 => vs.length ≤ sizeLine ∧ ∀ e, E (.ref e) (some C) H1
end L2
-- part PY
set_option Elab.async false
set_option linter.all false
set_option maxRecDepth 100000
namespace L2
open PySem PySem.Spec PyProof.Rows
section
variable {X : Cx}
/-- f'text{n}': a text, then a small int -/
def tFs (ta tb : TE) : TE := fun σ H Q => ta σ H fun v H1 => ∃ x, v = .str x ∧ (Str.empty ++ x).length ≤ sizeLine ∧ tb σ H1 fun u H2 => ∃ n : Int, u = .int n ∧ n.natAbs.log2 < 1920 ∧ (Str.empty ++ x ++ (Str.ofString (toString n))).length ≤ sizeLine ∧ ∀ z, Q (.str z) H2
end
/-! ### defs that raise -/
section
variable {P : Program} {w : World} {K : PySem.W.Frag} {mg : Str → Option Value} {base : Heap}
/-- a def known by its promise, one that may raise -/
def DefR (P : Program) (w : World) (K : PySem.W.Frag) (mg : Str → Option Value) (base : Heap) (k : Nat) (x : Str) (ps : List Str) (sp : Sp) : Prop :=
  ∃ f fd, FnOk P w K mg base (CXR P w) k f fd ps sp ∧ mg x = some (.ref f) ∧ PySem.W.keepIn K (.ref f) = true ∧ Binds K fd ps []
end
end L2
-- part PQ
set_option Elab.async false
set_option linter.all false
set_option maxRecDepth 100000
namespace L2
open PySem PySem.Spec PyProof.Rows PySem.Builtin PySem.Builtin.ObjectAttr PySem.Builtin.Getset_descriptor
/-! ### isinstance of an exception of an own class -/
/-- an exception of the class at C, once it is caught: an object of this class -/
def excO (e C : Addr) : HO := .ext fun h => ∃ o, h.get? e = some o ∧ o.cls = .ref C
/-- closed facts of the written part about an own exception class -/
structure ExcK (K : PySem.W.Frag) (C : Addr) : Prop where
  ga : PySem.W.findIn K (.ref C) "__getattribute__" = some (some (.builtin "BaseException.__getattribute__"))
  hook : PySem.W.findIn K (.ref C) "__getattr__" = some none
  cl : PySem.W.findIn K (.ref C) "__class__" = some (some (.builtin "object.__class__"))
  ob : PySem.W.mroIn K C (.type "object") = some true
  bx : PySem.W.mroIn K C (.type "BaseException") = some true
  cls : (PySem.W.clsIn K C).isSome = true
section
variable {prog : Program} {w : World} {A : Around} {E : Value → Shared → Prop} {s : Shared} {K : PySem.W.Frag} {e C : Addr} {o : Obj} {R : Result → Shared → Prop}
end
section
variable {X : Cx}
end
end L2
-- part PTry
set_option Elab.async false
set_option linter.all false
set_option maxRecDepth 100000
namespace L2
open PySem PySem.Spec PyProof.Rows
/-! ### try: f() except S as n: .. -/
/-- within an except suite -/
abbrev Cx.hnd (X : Cx) (e : Value) : Cx := { X with A := X.A.mark (some e), calm := false, xe := fun _ _ => False }
section
variable {X : Cx} {pins : List (Addr × Obj)} {σ : St} {H H' : Hp} {s s' : Shared}
end
/-- the callee of a try, by its value: a def or lambda that stands in the heap; what it promises, and the suite -/
def tTry (X : Cx) (ic ie : Nat) (cS : Addr) (k : Nat) (ts : TS) : TS := fun D σ H => ∃ f fd sp, σ[ic]? = some (some (.ref f)) ∧ (∀ s, HOk X.prog X.w H s → PySem.W.FnAt f s) ∧ FnOk X.prog X.w X.K X.mg X.base (CXR X.prog X.w) k f fd [] sp ∧ (∀ s, BindsTo s fd ⟨[], []⟩ []) ∧
  sp [] H (fun _ _ => False) fun ev c H' => ∃ e C, ev = .ref e ∧ c = some C ∧ PySem.W.exmOne X.K (.ref C) (.ref cS) = some true ∧ (H' e = none → ts { nx := fun σ' H2 => D.nx (σ'.set ie none) H2, rt := fun _ _ => False } (σ.set ie (some (.ref e))) (upd H' e (excO e C)))
end L2
-- part PLam
set_option Elab.async false
set_option linter.all false
set_option maxRecDepth 100000
namespace L2
open PySem PySem.Spec PyProof.Rows
/-! ### lambdas -/
/-- a code object, by its name -/
def codeO (c : Addr) (q : Str) : HO := .ext fun h => h.CodeRec (.ref c) q
/-- a lambda's function object -/
def lamO (f : Addr) (q : Str) (params : Arguments) (body : Expr) (scope : Scope) (cl : List (Str × Addr)) (pm : Value) (c : Addr) (ct : Value) : HO := .ext fun h => h.get? f = some (PySem.W.kla_obj "<lambda>" q params body scope cl pm c ct)
def LamAt (H : Hp) (f : Addr) (q : Str) (params : Arguments) (body : Expr) (scope : Scope) (cl : List (Str × Addr)) : Prop := ∃ pm c ct, H f = some (lamO f q params body scope cl pm c ct) ∧ H c = some (codeO c q)
/-- the table of a code object whose lambdas are all of the name q -/
def TabOk (H : Hp) (q : Str) (ps : Array Value) : Prop := TriplesOk ps.toList ∧ ∀ pos cv, codeAmong pos ps.toList = some cv → ∃ c, cv = .ref c ∧ H c = some (codeO c q)
def TabAt (H : Hp) (P : Addr) (q : Str) : Prop := ∃ ps, H P = some (.tbl ps) ∧ TabOk H q ps
/-- what the def's context has for its lambdas -/
structure LamX (X : Cx) (c P : Addr) : Prop where
  code : X.env.code = .ref c
  hd : PySem.W.CodeHd X.base c P
  bm : ∃ bm ob, X.mg "__builtins__" = some (.ref bm) ∧ bm ≠ builtinsNs ∧ X.base.get? bm = some ob ∧ ob.cls = .type "module" ∧ ob.dict = some builtinsNs ∧ ob.data = .plain
def tLam (X : Cx) (P : Addr) (params : Arguments) (body : Expr) (scope : Scope) : TE := fun σ H Q => TabAt H P (X.env.qual ++ "<lambda>") ∧ ∀ f H', SameX P H H' → H f = none → TabAt H' P (X.env.qual ++ "<lambda>") → LamAt H' f (X.env.qual ++ "<lambda>") params body scope (clOf scope X.env) → Q (.ref f) H'
end L2
-- part PLm2
set_option Elab.async false
set_option linter.all false
set_option maxRecDepth 100000
namespace L2
open PySem PySem.Spec PyProof.Rows
/-- a lambda's body running -/
def cxL (P : Program) (w : World) (K : PySem.W.Frag) (mg : Str → Option Value) (base : Heap) (N : List Str) (q : Str) (scope : Scope) (f : Addr) (cd : Value) (cl : List (Str × Addr)) (A : Around) (outer : List Env) (s : Shared) (H : Hp) (E : XK) : Cx where
  prog := P
  w := w
  K := K
  mg := mg
  base := base
  A := A.deeper (PySem.W.envX q scope s.heap.objs.size f cd cl)
  N := N
  s₀ := s
  H₀ := H
  env := PySem.W.envX q scope s.heap.objs.size f cd cl
  outer := outer
  stack := PySem.W.envX q scope s.heap.objs.size f cd cl :: outer
  ex := []
  calm := true
  fn := fun _ => false
  pn := []
  xe := fun e s' => wpAny (model P w) (A.deeper (PySem.W.envX q scope s.heap.objs.size f cd cl)) (leaving (PySem.W.envX q scope s.heap.objs.size f cd cl) e) (fun _ s'' => CXR P w outer H s E e s'') (fun e' s'' => CXR P w outer H s E e' s'') s'
/-- the cells of a lambda of two free names, and what they hold -/
structure Two (base : Heap) (scope : Scope) (cl : List (Str × Addr)) (x y : Str) (vx vy : V) : Prop where
  kx : scope.names.lookup x = some .free
  ky : scope.names.lookup y = some .free
  only : ∀ z, scope.names.lookup z = some .cell ∨ scope.names.lookup z = some .free → z = x ∨ z = y
  ne : x ≠ y
  cx : ∃ c u, cl.lookup x = some c ∧ base.IsCell c (some u) ∧ RelV vx u
  cy : ∃ c u, cl.lookup y = some c ∧ base.IsCell c (some u) ∧ RelV vy u
  mem : ∀ z c, cl.lookup z = some c → z = x ∨ z = y
  inj : ∀ c, cl.lookup x = some c → cl.lookup y = some c → False
/-! ### a call over a wider ground: all that is not tracked and no frame stands as it is -/
/-- a comprehension whose element knows the def's state at the block's entry -/
def tCompI (wi : TI) (ts : Nat) (cap : List Nat) (g : TG) (tt : TT) (ti : St → TC) : TE := fun σ H Q => wi σ H fun J H1 => tNestW g tt (ti σ) J [] (capSt ts cap σ) H1 fun ys _ H2 => ∀ p, H2 p = none → Q (.ref p) (upd H2 p (.lst ys))
end L2
-- part PLit
set_option Elab.async false
set_option linter.all false
set_option maxRecDepth 100000
namespace L2
open PySem PySem.Spec PyProof.Rows
/-! ### written things: constants, and tuples and lists of them -/
def constV : Const → Option V
  | .int n => some (.int n)
  | .bool b => some (.bl b)
  | .str x => some (.str x)
  | .none => some .non
  | _ => none
/-- a written scalar -/
def scOf : Expr → Option V
  | .Constant c _ _ => constV c
  | .UnaryOp .USub (.Constant (.int n) _ _) _ => some (.int (-n))
  | .BinOp (.Constant (.int a) _ _) .Pow (.Constant (.int b) _ _) _ => if 0 ≤ b ∧ b ≤ 1000000 ∧ a.natAbs < 2 ^ 64 then some (.int (a ^ b.toNat)) else none
  | _ => none
def scsOf : List Expr → Option (List V)
  | [] => some []
  | e :: r => match scOf e, scsOf r with
    | some v, some vs => some (v :: vs)
    | _, _ => none
inductive Lit where
  | sc (v : V)
  | tup (xs : List V)
  | lst (xs : List V)
  | dct
def LitAt (H : Hp) (v : V) : Lit → Prop
  | .sc u => v = u
  | .tup xs => ∃ a : Addr, v = .ref a ∧ H a = some (.tup xs)
  | .lst xs => ∃ a : Addr, v = .ref a ∧ H a = some (.lst xs)
  | .dct => ∃ a : Addr, v = .ref a ∧ H a = some (.dK [])
def litOf : Expr → Option Lit
  | .Tuple es _ _ => match scsOf es with
    | some xs => if xs.length ≤ 1000 then some (.tup xs) else none
    | none => none
  | .List es _ => match scsOf es with
    | some xs => if xs.length ≤ 1000 then some (.lst xs) else none
    | none => none
  | .Dict [] [] _ => some .dct
  | e => (scOf e).map .sc
def litsOf : List Expr → Option (List Lit)
  | [] => some []
  | e :: r => match litOf e, litsOf r with
    | some v, some vs => some (v :: vs)
    | _, _ => none
section
variable {X : Cx}
end
end L2
-- part PZip
set_option Elab.async false
set_option linter.all false
set_option maxRecDepth 100000
namespace L2
open PySem PySem.Spec PyProof.Rows
/-! ### zip(a, b), two lists of one length -/
def Itz (K : PySem.W.Frag) (l1 l2 : Addr) : It :=
  ⟨fun i H => ∃ xs ys x y, SqL K H l1 xs ∧ SqL K H l2 ys ∧ xs[i]? = some x ∧ ys[i]? = some y,
   fun i H v H' => ∃ (T : Addr) (x y : V), v = .ref T ∧ H T = none ∧ H' = upd H T (.par [x, y]) ∧ ∀ xs ys, SqL K H l1 xs → SqL K H l2 ys → xs[i]? = some x ∧ ys[i]? = some y,
   fun i H => ∃ xs ys, SqL K H l1 xs ∧ SqL K H l2 ys ∧ xs.length = i ∧ ys.length = i⟩
theorem zip_apart (n l1 l2 : Nat) (h1 : l1 < n) (h2 : l2 < n) : ZipApart (n + 4) (n + 2) (n + 3) n (n + 1) l1 l2 := by
  constructor <;> intro z <;> refine absurd (show @Eq Nat _ _ from z) ?_ <;> omega
section
variable {X : Cx} {elts : List Expr} {kk : Nat} {tp : Pos}
def iZip (K : PySem.W.Frag) (ta : TA) : TI := fun σ H R => ta σ H fun vs H1 => ∃ l1 l2, vs = [.ref l1, .ref l2] ∧ (∃ xs ys, SqL K H1 l1 xs ∧ SqL K H1 l2 ys) ∧ R (Itz K l1 l2) H1
end
end L2
-- part PMt
set_option Elab.async false
set_option linter.all false
set_option maxRecDepth 100000
namespace L2
open PySem PySem.Spec PyProof.Rows SeqAt
/-! ### t.index(x) -/
def idxBody (items : Array Value) (x : Value) (i : Nat) (_ : Option PySem.Fin × Unit) : Sem (ForInStep (Option PySem.Fin × Unit)) :=
  match items[i]? with
  | some y => (do
    let b ← eqBool y x
    if b = true then (do let v ← retInt (i : Int); pure (ForInStep.done (some v, ()))) else pure (ForInStep.yield (none, ())))
  | _ => pure (ForInStep.yield (none, ()))
def rTIdx (K : PySem.W.Frag) : V → List V → Hp → VK → Prop := fun v vs H Q => ∃ (a : Addr) (xs : List V) (x : V) (j : Nat), v = .ref a ∧ vs = [x] ∧ SqT K H a xs ∧ flatV x = true ∧ xs.all flatV = true ∧ (∃ y, xs[j]? = some y ∧ eqV y x = true) ∧ (∀ m y, m < j → xs[m]? = some y → eqV y x = false) ∧ Q (.int (j : Int)) H
end L2
-- part PMu
set_option Elab.async false
set_option linter.all false
set_option maxRecDepth 100000
namespace L2
open PySem PySem.Spec PyProof.Rows SeqAt
theorem pr_at {α β : Type} {F : α → β → Prop} : ∀ {l₁ : List α} {l₂ : List β} {i : Nat} {x : α}, Paired F l₁ l₂ → l₁[i]? = some x → ∃ y, l₂[i]? = some y ∧ F x y
  | _, _, _, _, .nil, h => by simp at h
  | _, _, 0, _, .cons r _, h => by simp at h; subst h; exact ⟨_, rfl, r⟩
  | _, _, i + 1, _, .cons _ t, h => by
    obtain ⟨y, e, q⟩ := pr_at t (i := i) (by simpa using h)
    exact ⟨y, by simpa using e, q⟩
section
variable {X : Cx}
/-! ### isinstance(x, (A, B)), x an int or a list -/
/-! ### lists that are the same, one deep or two -/
def Eq1 (K : PySem.W.Frag) (H : Hp) (x y : V) : Prop := (∃ i : Int, x = .int i ∧ y = .int i) ∨ ∃ (a b : Addr) (ns : List Int), x = .ref a ∧ y = .ref b ∧ SqL K H a (ns.map V.int) ∧ SqL K H b (ns.map V.int)
def rSameL (K : PySem.W.Frag) (r : Bool) : R2 := fun x y H Q => ∃ (a b : Addr) (xs ys : List V), x = .ref a ∧ y = .ref b ∧ SqL K H a xs ∧ SqL K H b ys ∧ Paired (Eq1 K H) xs ys ∧ Q (.bl r) H
end
/-! ### t[::-1] -/
section
variable {prog : Program} {w : World} {A : Around} {E : Value → Shared → Prop} {s : Shared}
end
section
variable {X : Cx} {e : Expr} {te : TE} {p1 p2 p3 pos : Pos} {j : Nat}
def tRevT (K : PySem.W.Frag) (te : TE) : TE := fun σ H Q => te σ H fun x H1 => ∃ a xs, x = .ref a ∧ SqT K H1 a xs ∧ ∀ p, H1 p = none → Q (.ref p) (upd H1 p (.tup xs.reverse))
end
end L2
-- part P6
set_option Elab.async false
set_option linter.all false
set_option maxRecDepth 100000
namespace L2
open PySem PySem.Spec PyProof.Rows SeqAt
section
variable {X : Cx}
/-! ### sorted of a short list of ints -/
/-! ### list(range(a, b)) -/
def frTo (i : Int) (n : Nat) : List Int := (List.range n).map fun (k : Nat) => i + (k : Int)
/-! ### == of lists of ints -/
theorem ints_vals {ns : List Int} {us : List Value} (r : Vals (ns.map V.int) us) (j : Nat) (h : j < us.length) : ∃ t, us[j] = .int (ns.getD j 0) t := by
  have hl := r.length
  rw [List.length_map] at hl
  have hj : j < ns.length := by omega
  obtain ⟨u, hu, t, ru⟩ := r.get (i := j) (x := .int ns[j]) (by rw [List.getElem?_map, List.getElem?_eq_getElem hj]; rfl)
  rw [List.getElem?_eq_getElem h] at hu
  cases hu
  exact ⟨t, by rw [ru]; simp [hj]⟩
/-! ### l.count(x), l.index(x): flat items -/
theorem count_eqU {x : V} : ∀ {xs : List V} {us : List Value}, Vals xs us → xs.all flatV = true → us.countP (eqU x) = xs.countP fun y => eqV y x
  | _, _, .nil, _ => rfl
  | y :: xs, u :: us, .cons r t, f => by
    rw [List.all_cons, Bool.and_eq_true] at f
    rw [List.countP_cons, List.countP_cons, eqU_of r f.1, count_eqU t f.2]
def rLCnt (K : PySem.W.Frag) : V → List V → Hp → VK → Prop := fun v vs H Q => ∃ (a : Addr) (xs : List V) (x : V), v = .ref a ∧ vs = [x] ∧ SqL K H a xs ∧ flatV x = true ∧ xs.all flatV = true ∧ Q (.int ((xs.countP fun y => eqV y x : Nat) : Int)) H
def rLIdx (K : PySem.W.Frag) : V → List V → Hp → VK → Prop := fun v vs H Q => ∃ (a : Addr) (xs : List V) (x : V) (j : Nat), v = .ref a ∧ vs = [x] ∧ SqL K H a xs ∧ flatV x = true ∧ xs.all flatV = true ∧ (∃ y, xs[j]? = some y ∧ eqV y x = true) ∧ (∀ m y, m < j → xs[m]? = some y → eqV y x = false) ∧ Q (.int (j : Int)) H
/-! ### f'a{n}b{m}c' -/
def tFs5 (ta tb tc td te : TE) : TE := fun σ H Q => ta σ H fun v1 H1 => ∃ x1, v1 = .str x1 ∧ (Str.empty ++ x1).length ≤ sizeLine ∧ tb σ H1 fun v2 H2 => ∃ n : Int, v2 = .int n ∧ n.natAbs.log2 < 1920 ∧ (Str.empty ++ x1 ++ (Str.ofString (toString n))).length ≤ sizeLine ∧
  tc σ H2 fun v3 H3 => ∃ x3, v3 = .str x3 ∧ (Str.empty ++ x1 ++ (Str.ofString (toString n)) ++ x3).length ≤ sizeLine ∧ td σ H3 fun v4 H4 => ∃ m : Int, v4 = .int m ∧ m.natAbs.log2 < 1920 ∧ (Str.empty ++ x1 ++ (Str.ofString (toString n)) ++ x3 ++ (Str.ofString (toString m))).length ≤ sizeLine ∧
  te σ H4 fun v5 H5 => ∃ x5, v5 = .str x5 ∧ (Str.empty ++ x1 ++ (Str.ofString (toString n)) ++ x3 ++ (Str.ofString (toString m)) ++ x5).length ≤ sizeLine ∧ ∀ z, Q (.str z) H5
end
end L2
-- part P7
set_option Elab.async false
set_option linter.all false
set_option maxRecDepth 100000
namespace L2
open PySem PySem.Spec PyProof.Rows
/-- the cell of a lambda of one free name, and what it holds -/
structure One (base : Heap) (scope : Scope) (cl : List (Str × Addr)) (x : Str) (vx : V) : Prop where
  kx : scope.names.lookup x = some .free
  only : ∀ z, scope.names.lookup z = some .cell ∨ scope.names.lookup z = some .free → z = x
  cx : ∃ c u, cl.lookup x = some c ∧ base.IsCell c (some u) ∧ RelV vx u
  mem : ∀ z c, cl.lookup z = some c → z = x
end L2
-- part P8
set_option Elab.async false
set_option linter.all false
set_option maxRecDepth 100000
namespace L2
open PySem PySem.Spec PyProof.Rows
/-! ### zip of two things that are walked, whatever they are -/
/-- an iterator at i over a thing at l: n items, told by f; S says how it stands -/
structure Src (prog : Program) (w : World) (i l : Addr) (n : Nat) (f : Nat → Value) (S : Nat → Heap → Prop) : Prop where
  here : ∀ k h, S k h → ∃ o, h.get? i = some o
  stay : ∀ k h h', S k h → (∀ c, c = i ∨ c = l → ∀ o, h.get? c = some o → h'.get? c = some o) → S k h'
  item : ∀ (A : Around) k (s : Shared) (Q : Value → Shared → Prop) (E : Value → Shared → Prop), k < n → S k s.heap → (∀ h', S (k + 1) h' → Heap.SameBut i s.heap h' → Q (f k) { s with heap := h' }) → wpAny (model prog w) A (Builtin.SmallTypes.nextOf (.ref i)) Q E s
  stop : ∀ (A : Around) (s : Shared) (Q : Value → Shared → Prop) (E : Value → Shared → Prop), A.handled = none → S n s.heap → (∀ h' e, Heap.ExtBut i s.heap h' → (∃ o, h'.get? e = some o ∧ o.cls = .type "StopIteration") → E (.ref e) { s with heap := h' }) → wpAny (model prog w) A (Builtin.SmallTypes.nextOf (.ref i)) Q E s
section
variable {prog : Program} {w : World} {A : Around} {E : Value → Shared → Prop} {s : Shared} {z TI TO i1 i2 l1 l2 : Addr} {n k : Nat} {f g : Nat → Value} {S1 S2 : Nat → Heap → Prop}
end
end L2
-- part P9
set_option Elab.async false
set_option linter.all false
set_option maxRecDepth 100000
namespace L2
open PySem PySem.Spec PyProof.Rows
section
variable {prog : Program} {w : World} {A : Around} {z TI TO i1 i2 l1 l2 : Addr} {n : Nat} {f g : Nat → Value} {S1 S2 : Nat → Heap → Prop}
end
/-! ### zip(s, t), s and t tuples -/
abbrev zt1 (h : Heap) (l1 : Addr) : Heap := h.push { cls := .type "tuple_iterator", data := .fields #[.ref l1, .int 0 0] }
abbrev zt2 (h : Heap) (l1 l2 : Addr) : Heap := (zt1 h l1).push { cls := .type "tuple_iterator", data := .fields #[.ref l2, .int 0 0] }
abbrev zt3 (h : Heap) (l1 l2 : Addr) : Heap := (zt2 h l1 l2).push { cls := .type "tuple", data := .seq #[.ref h.objs.size, .ref (zt1 h l1).objs.size] }
abbrev zt4 (h : Heap) (l1 l2 : Addr) : Heap := (zt3 h l1 l2).push { cls := .type "tuple", data := .seq #[.none, .none] }
abbrev zt5 (h : Heap) (l1 l2 : Addr) : Heap := (zt4 h l1 l2).push { cls := .type "zip", data := .fields #[.none, .bool false, .bool false, .ref (zt2 h l1 l2).objs.size, .ref (zt3 h l1 l2).objs.size] }
end L2
-- part P10
set_option Elab.async false
set_option linter.all false
set_option maxRecDepth 100000
namespace L2
open PySem PySem.Spec PyProof.Rows
/-! ### zip(a, b), two tuples of one length -/
def ItzT (K : PySem.W.Frag) (l1 l2 : Addr) : It :=
  ⟨fun i H => ∃ xs ys x y, SqT K H l1 xs ∧ SqT K H l2 ys ∧ xs.length = ys.length ∧ xs[i]? = some x ∧ ys[i]? = some y,
   fun i H v H' => ∃ (T : Addr) (x y : V), v = .ref T ∧ H T = none ∧ H' = upd H T (.par [x, y]) ∧ ∀ xs ys, SqT K H l1 xs → SqT K H l2 ys → xs[i]? = some x ∧ ys[i]? = some y,
   fun i H => ∃ xs ys, SqT K H l1 xs ∧ SqT K H l2 ys ∧ xs.length = i ∧ ys.length = i⟩
section
variable {X : Cx} {elts : List Expr} {kk : Nat} {tp : Pos}
def iZipT (K : PySem.W.Frag) (ta : TA) : TI := fun σ H R => ta σ H fun vs H1 => ∃ l1 l2, vs = [.ref l1, .ref l2] ∧ (∃ xs ys, SqT K H1 l1 xs ∧ SqT K H1 l2 ys) ∧ R (ItzT K l1 l2) H1
end
end L2
-- part P11
set_option Elab.async false
set_option linter.all false
set_option maxRecDepth 100000
namespace L2
open PySem PySem.Spec PyProof.Rows SeqAt
section
variable {X : Cx}
/-! ### isinstance(x, (A, B)), x plain -/
/-! ### == of tuples of ints -/
theorem op_eqTu (hu : X.A.units < cLine) : OpR X (compareOp .Eq) (fun x y H Q => ∃ (a b : Addr) (ns ms : List Int), x = .ref a ∧ y = .ref b ∧ SqT X.K H a (ns.map V.int) ∧ SqT X.K H b (ms.map V.int) ∧ Q (.bl (decide (ns = ms))) H) := by
  intro pins s σ H x y u v Q I rx ry h
  obtain ⟨a, b, ns, ms, rfl, rfl, ha, hb, q⟩ := h
  cases rx
  cases ry
  obtain ⟨us, r1, p1, _⟩ := I.tuple ha
  obtain ⟨vs, r2, p2, _⟩ := I.tuple hb
  have l1 := r1.length
  have l2 := r2.length
  rw [List.length_map] at l1 l2
  refine eq_tupleAt (e := fun j => ns.getD j 0 == ms.getD j 0) p1 p2 hu (fun j h1 h2 => ?_) ?_
  · obtain ⟨t1, e1⟩ := ints_vals r1 j (by simpa using h1)
    obtain ⟨t2, e2⟩ := ints_vals r2 j (by simpa using h2)
    rw [show us.toArray[j] = us[j]'(by simpa using h1) by simp, show vs.toArray[j] = vs[j]'(by simpa using h2) by simp, e1, e2]
    exact SeqAt.EqAt.int_int _ _ _ _
  · have e : ((List.range (min us.toArray.size vs.toArray.size)).all (fun j => ns.getD j 0 == ms.getD j 0) && us.toArray.size == vs.toArray.size) = decide (ns = ms) := by
      rw [Bool.eq_iff_iff, Bool.and_eq_true, List.all_eq_true, decide_eq_true_eq, beq_iff_eq, List.size_toArray, List.size_toArray]
      constructor
      · rintro ⟨h, hl⟩
        refine List.ext_getElem (by omega) fun i h1 h2 => ?_
        have := h i (by rw [List.mem_range]; omega)
        simpa [h1, h2] using this
      · rintro rfl
        exact ⟨fun j _ => by simp, by omega⟩
    rw [e]
    exact ⟨.bl _, H, I, rfl, q⟩
end
/-! ### lambdas of any free names -/
/-- the cells of a lambda of any free names, and what they hold -/
structure Cells (base : Heap) (scope : Scope) (cl : List (Str × Addr)) (N : List Str) (vs : List V) : Prop where
  len : vs.length = N.length
  only : ∀ z, scope.names.lookup z = some .cell ∨ scope.names.lookup z = some .free → z ∈ N
  at_ : ∀ (i : Nat) x v, N[i]? = some x → vs[i]? = some v → scope.names.lookup x = some .free ∧ ∃ c u, cl.lookup x = some c ∧ base.IsCell c (some u) ∧ RelV v u
  mem : ∀ z c, cl.lookup z = some c → z ∈ N
  inj : ∀ x y c, cl.lookup x = some c → cl.lookup y = some c → x = y
end L2
-- part P12
set_option Elab.async false
set_option linter.all false
set_option maxRecDepth 100000
namespace L2
open PySem PySem.Spec PyProof.Rows
/-! ### t[a:b], all of it too -/
section
variable {prog : Program} {w : World} {A : Around} {E : Value → Shared → Prop} {s : Shared}
end
section
variable {X : Cx}
def rSlA (K : PySem.W.Frag) : V → Option Int → Option Int → Hp → VK → Prop := fun x lo hi H Q => ∃ a xs, x = .ref a ∧ H a = some (.tup xs) ∧ ∀ (c : Addr) H', Same H H' → H' c = some (.tup (cutV xs lo hi)) → Q (.ref c) H'
end
end L2
-- part P13
set_option Elab.async false
set_option linter.all false
set_option maxRecDepth 100000
set_option maxHeartbeats 40000000
namespace L2
open PySem PySem.Spec PyProof.Rows
/-! ### dict of a list of pairs -/
section
variable {prog : Program} {w : World} {A : Around} {E : Value → Shared → Prop} {s : Shared}
/-- the pair at b -/
def PairAt (h : Heap) (b : Addr) (u v : Value) : Prop := ∃ o : Obj, h.get? b = some o ∧ o.cls = .type "tuple" ∧ ∃ n, o.data = .seq #[u, v] n
variable {K : Type} [DecidableEq K] {knd : KeyKind prog w K}
/-- the items are pairs, with the keys and values rs -/
def Prs (knd : KeyKind prog w K) (h : Heap) (d it : Addr) (us : List Value) (rs : List (K × Value)) : Prop := Paired (fun u (r : K × Value) => ∃ b k, u = .ref b ∧ b ≠ d ∧ b ≠ it ∧ PairAt h b k r.2 ∧ knd.is r.1 k = true) us rs
end
section
variable {X : Cx}
/-- the items are pairs, as the heap has them -/
abbrev PrV (H : Hp) : List V → List (Key × V) → Prop := Paired fun y (kv : Key × V) => ∃ b, y = .ref b ∧ H b = some (.tup [kV kv.1, kv.2])
end
end L2
-- part P14
set_option Elab.async false
set_option linter.all false
set_option maxRecDepth 100000
set_option maxHeartbeats 40000000
namespace L2
open PySem PySem.Spec PyProof.Rows
/-! ### t * n, t a tuple -/
theorem noFill_tuple_mul : fillsNumberSlot (.type "tuple") "mul" = pure false :=
  PySem.fillsNumberSlot_seq (id := "tuple.__mul__") (r := some (.builtin "tuple.__rmul__")) PySem.F.slot_tuple_mul.lookup (by decide +kernel) PySem.F.slot_tuple_rmul.lookup (by decide +kernel)
theorem repeat_tuple : seqRepeat? (.type "tuple") = pure (some (.builtin "tuple.__mul__")) := by
  unfold seqRepeat?
  rw [PySem.seqSlot_of (T := "tuple") (name := "__mul__") (id := "tuple.__mul__") PySem.F.slot_tuple_mul.lookup (by decide +kernel), PySem.seqSlot_of (T := "tuple") (name := "__rmul__") (id := "tuple.__rmul__") PySem.F.slot_tuple_rmul.lookup (by decide +kernel)]
  rfl
theorem rmul_int_tuple (a : Int) (t : Tok) (l : Addr) (items : Array Value) (n : Nat) (d : Option Addr) (sl : Array (Option Value)) :
    Meets (Builtin.«int.__rmul__» ⟨[.int a t, .ref l], []⟩) (fun _ R s => s.heap.get? l = some { cls := .type "tuple", dict := d, data := .seq items n, slots := sl } ∧ R (.ok (.ret Value.notImplemented)) s) :=
  .of_wp fun prog w A R s h => by obtain ⟨hp, g, d, tk, os⟩ := s; obtain ⟨hl, h⟩ := h; wp_walk; exact ⟨_, rfl, h⟩
theorem mul_tuple_one (l : Addr) (items : Array Value) (n : Nat) (d : Option Addr) (sl : Array (Option Value)) (u : Tok) :
    Meets (Builtin.«tuple.__mul__» ⟨[.ref l, .int 1 u], []⟩) (fun _ R s => s.heap.get? l = some { cls := .type "tuple", dict := d, data := .seq items n, slots := sl } ∧ R (.ok (.ret (.ref l))) s) :=
  .of_wp fun prog w A R s h => by
    obtain ⟨hp, g, d, tk, os⟩ := s; obtain ⟨hl, h⟩ := h
    wp_walk; exact ⟨_, rfl, h⟩
theorem mul_tuple_many (l : Addr) (items : Array Value) (n : Nat) (d : Option Addr) (sl : Array (Option Value)) (x : Int) (u : Tok) (h0 : items.isEmpty = false) (h1 : (x == 1) = false) (h2 : 1 ≤ x) (hs : items.size * x.toNat ≤ 1000) (hx : x ≤ 1000) (hz : (List.foldl (fun x1 x2 => x1 ++ x2) #[] (List.replicate x.toNat items)).size ≤ sizeLine) :
    Meets (Builtin.«tuple.__mul__» ⟨[.ref l, .int x u], []⟩) (fun _ R s => s.heap.get? l = some { cls := .type "tuple", dict := d, data := .seq items n, slots := sl } ∧ R (.ok (.ret (Value.ref s.heap.objs.size))) { s with heap := s.heap.push { cls := Value.type "tuple", data := Data.seq (List.foldl (fun x1 x2 => x1 ++ x2) #[] (List.replicate x.toNat items)) }, toks := s.toks }) :=
  .of_wp fun prog w A R s h => by
    obtain ⟨hp, g, d, tk, os⟩ := s; obtain ⟨hl, h⟩ := h
    have a1 : decide (x < -(2 ^ 63)) = false := decide_eq_false (by omega)
    have a2 : decide (x ≥ 2 ^ 63) = false := decide_eq_false (by omega)
    have a3 : decide (x ≤ 0) = false := decide_eq_false (by omega)
    have hn : (items.size : Int) * x ≤ 1000 := by
      have e : x = (x.toNat : Int) := by omega
      rw [e]
      exact_mod_cast hs
    have a4 : ¬ ((items.size : Int) * x > (2 ^ 63 - 1) / 8) := by omega
    have a5 : Builtin.Tuple.tupleTooMany ((items.size : Int) * x) = false := by
      unfold Builtin.Tuple.tupleTooMany
      have e := sizeLine_eq
      simp
      omega
    wp_walk
    rw [if_neg (by rw [a1, a2]; decide)]
    have ht : IsTup hp l items := ⟨_, hl, rfl, n, rfl⟩
    refine wpAny_bind (tupleItemsOf_ ht ?_)
    dsimp only
    rw [if_neg (by rw [h0, h1]; decide), if_neg (by rw [a3, h0]; decide), if_neg a4, a5, if_neg Bool.false_ne_true]
    wp_walk; exact ⟨_, rfl, h⟩
section
variable {X : Cx}
/-- a tuple times an int from 1 on -/
def rRepT : R2 := fun x y H Q => ∃ a k xs, x = .ref a ∧ y = .int k ∧ H a = some (.tup xs) ∧ xs ≠ [] ∧ 1 ≤ k ∧ k ≤ 1000 ∧ xs.length * k.toNat ≤ 1000 ∧ ∀ (c : Addr) H', Same H H' → H' c = some (.tup (List.replicate k.toNat xs).flatten) → Q (.ref c) H'
theorem op_repT : OpR X (binaryOp .Mult) rRepT := by
  intro pins s σ H x y v u Q I rx ry h
  obtain ⟨l, k, xs, rfl, rfl, hH, hne, h1, h2, hz, q⟩ := h
  cases rx
  obtain ⟨t, rfl⟩ := ry
  obtain ⟨its, r, pl, _⟩ := I.tuple (SqT.of hH)
  have hl := r.length
  obtain ⟨⟨cls, dd, data, sl⟩, ho, hcl, n, hd⟩ := id pl
  simp only at hcl hd
  subst hcl hd
  have f0 : ∀ m : Nat, List.foldl (fun x1 x2 => x1 ++ x2) #[] (List.replicate m its.toArray) = (List.replicate m its).flatten.toArray := fun m => by
    have := foldl_rep its m []
    rw [List.nil_append] at this
    exact this
  have hsz : its.toArray.size * k.toNat ≤ 1000 := by rw [List.size_toArray, ← hl]; exact hz
  have h0 : its.toArray.isEmpty = false := by
    cases its with
    | nil =>
      cases xs with
      | nil => exact absurd rfl hne
      | cons a b => cases hl
    | cons a b => rfl
  refine wpAny_binaryOp_repeat_ref (T := "tuple") (U := "int") (by decide) ⟨_, ho, rfl⟩ (fun s' => typeIs_int s' k t) noFill_tuple_mul PySem.F.fills_int_mul PySem.F.slot_int_rmul repeat_tuple PySem.F.slot_int_index.lookup
    (call_meets PySem.F.slot_int_rmul (typeIs_int s k t) PySem.F.entry_int_rmul (PySem.F.args_int_rmul_2 _ _) (rmul_int_tuple k t l its.toArray n dd sl)
      ⟨ho, rfl, ⟨_, ho, rfl⟩, ?_⟩)
  by_cases hk : k = 1
  · subst hk
    refine call_meets PySem.F.slot_tuple_mul ⟨_, ho, rfl⟩ PySem.F.entry_tuple_mul (PySem.F.args_tuple_mul_2 _ _) (mul_tuple_one l its.toArray n dd sl t) ⟨ho, ⟨.ref l, H, I, rfl, q l H (Same.refl _) ?_⟩⟩
    rw [hH]
    simp
  · refine call_meets PySem.F.slot_tuple_mul ⟨_, ho, rfl⟩ PySem.F.entry_tuple_mul (PySem.F.args_tuple_mul_2 _ _) (mul_tuple_many l its.toArray n dd sl k t h0 (by simpa using hk) h1 hsz h2 ?_) ⟨ho, ?_⟩
    · rw [f0, List.size_toArray, len_rep, sizeLine_eq]
      rw [List.size_toArray, Nat.mul_comm] at hsz
      omega
    · rw [f0]
      refine ⟨.ref s.heap.objs.size, upd H s.heap.objs.size (.tup (List.replicate k.toNat xs).flatten), ?_, rfl, q _ _ (fun b o hb => by rw [upd_ne (ne_of_none hb I.fresh)]; exact hb) upd_same⟩
      refine I.laid (t' := s.toks) (fun b o e => Heap.get?_push_of_some _ e) (Nat.le_refl _) ⟨by rw [len_rep, sizeLine_eq, Nat.mul_comm]; omega, _, r.rep k.toNat, ?_⟩
      exact ⟨⟨_, Heap.get?_push_size s.heap rfl, rfl, 0, rfl⟩, _, Heap.get?_push_size s.heap rfl, rfl⟩
/-! ### for a, b in enumerate(t) -/
end
end L2
-- part S1
set_option Elab.async false
set_option linter.all false
set_option maxRecDepth 100000
set_option maxHeartbeats 4000000
namespace PyProof.Rows.Tim
open PySem
def gallop' : Bool → Keyed → Array Keyed → Nat → Nat → Nat → StateT SortSt Sem (Option Nat) := sortPriv% PySem.Builtin.gallop
def beyond' (left : Bool) (key : Keyed) (arr : Array Keyed) (base : Nat) (i : Nat) : StateT SortSt Sem (Option Bool) :=
  elem' arr (base + i) >>= fun x => if left = true then lt' x key else lt' key x >>= fun c => pure (c.map fun z => !z)
/-! ### an order that asks nothing of the heap -/
structure Ord (r : Keyed → Keyed → Bool) : Prop where
  asy : ∀ x y, r x y = true → r y x = false
  ntr : ∀ x y z, r y x = false → r z y = false → r z x = false
theorem Ord.irr {r : Keyed → Keyed → Bool} (o : Ord r) (x : Keyed) : r x x = false := by
  cases h : r x x with
  | false => rfl
  | true => have := o.asy x x h; rw [h] at this; cases this
section
variable {prog : Program} {w : World} {A : Around} {E : Value → Shared → Prop} {s : Shared} {κ : SortKind} {a₀ : Array Keyed} {r : Keyed → Keyed → Bool}
/-- what a comparison tells -/
def Cmp (prog : Program) (w : World) (A : Around) (E : Value → Shared → Prop) (s : Shared) (κ : SortKind) (a₀ : Array Keyed) (r : Keyed → Keyed → Bool) : Prop :=
  ∀ (x y : Keyed) (st : SortSt) (Q : Option Bool → SortSt → Prop), x ∈ a₀.toList → y ∈ a₀.toList → kindOf st = κ → Q (some (r x y)) st → wpS (model prog w) A E s (lt' x y) Q st
theorem wpS_elem {arr : Array Keyed} {i : Nat} {x : Keyed} {Q : Keyed → SortSt → Prop} {st : SortSt} (hx : arr[i]? = some x) (h : Q x st) : wpS (model prog w) A E s (elem' arr i) Q st := by
  rw [elem'_eq, hx]
  exact wpS_pure h
def bp (r : Keyed → Keyed → Bool) (left : Bool) (key x : Keyed) : Bool := if left = true then r x key else !r key x
theorem wpS_beyond {left : Bool} {key : Keyed} {arr : Array Keyed} {base i : Nat} {x : Keyed} {Q : Option Bool → SortSt → Prop} {st : SortSt} (hc : Cmp prog w A E s κ a₀ r) (hk : kindOf st = κ) (hx : arr[base + i]? = some x) (mx : x ∈ a₀.toList) (mk : key ∈ a₀.toList) (h : Q (some (bp r left key x)) st) :
    wpS (model prog w) A E s (beyond' left key arr base i) Q st := by
  unfold beyond'
  refine wpS_bind (wpS_elem hx ?_)
  cases left with
  | true =>
    rw [if_pos rfl]
    exact hc _ _ _ _ mx mk hk h
  | false =>
    rw [if_neg Bool.false_ne_true]
    exact wpS_bind (hc _ _ _ _ mk mx hk (wpS_pure h))
theorem wpS_gallop {left : Bool} {key : Keyed} {arr : Array Keyed} {base n hint : Nat} {Q : Option Nat → SortSt → Prop} {st : SortSt} (hc : Cmp prog w A E s κ a₀ r) (hk : kindOf st = κ) (p : Nat → Bool)
    (hp : ∀ i, i < n → ∃ x, arr[base + i]? = some x ∧ x ∈ a₀.toList ∧ p i = bp r left key x) (mk : key ∈ a₀.toList) (mono : ∀ i j, i ≤ j → j < n → p j = true → p i = true) (hh : hint < n)
    (h : ∀ k, k ≤ n → (∀ i, i < k → p i = true) → (∀ i, k ≤ i → i < n → p i = false) → Q (some k) st) : wpS (model prog w) A E s (gallop' left key arr base n hint) Q st := by
  have by_ : ∀ {i : Nat} {Q : Option Bool → SortSt → Prop}, i < n → Q (some (p i)) st → wpS (model prog w) A E s (beyond' left key arr base i) Q st := fun {i Q} hi hq => by
    obtain ⟨x, e, m, ep⟩ := hp i hi
    exact wpS_beyond hc hk e m mk (by rw [← ep]; exact hq)
  have down : ∀ i j, i ≤ j → j < n → p i = false → p j = false := fun i j hij hj hf => by
    cases hh : p j with
    | false => rfl
    | true => rw [mono i j hij hj hh] at hf; cases hf
  show wpS (model prog w) A E s (beyond' left key arr base hint >>= _) _ _
  dsimp only
  refine wpS_bind (by_ hh ?_)
  cases hph : p hint with
  | true =>
    dsimp only
    rw [if_pos rfl]
    refine wpS_bind (wpS_forRange (I := fun x c st' => st' = st ∧ ∃ lastofs ofs, c = (none, lastofs, ofs) ∧ hint + lastofs < n ∧ p (hint + lastofs) = true ∧ lastofs < ofs ∧ x + 1 ≤ ofs) ?step1 ?fin1 ⟨rfl, 0, 1, rfl, hh, hph, by omega, by omega⟩)
    case fin1 =>
      rintro c st' ⟨rfl, lastofs, ofs, rfl, q1, q2, q3, q4⟩
      rw [Nat.max_eq_right (Nat.zero_le n)] at q4
      dsimp only
      refine wpS_bind (wpS_forRange (I := fun x c st2 => st2 = st' ∧ ∃ lo hi, c = (none, lo, hi) ∧ lo ≤ hi ∧ hi ≤ n ∧ (∀ i, i < lo → p i = true) ∧ (∀ i, hi ≤ i → i < n → p i = false) ∧ hi - lo ≤ n - x) ?_ ?_ ⟨rfl, _, _, rfl, (by omega), (by omega), (fun i hi => mono i (hint + lastofs) (by omega) q1 q2), (fun i h1 h2 => by omega), by omega⟩)
      · rintro x c st2 _ hx ⟨rfl, lo, hi, rfl, h1, h2, h3, h4, h5⟩
        dsimp only
        by_cases hge : lo ≥ hi
        · rw [if_pos hge]
          have e : lo = hi := by omega
          subst e
          exact wpS_pure (wpS_pure (h lo h2 h3 h4))
        · rw [if_neg hge]
          have hm : lo + (hi - lo) / 2 < hi := by omega
          generalize em : lo + (hi - lo) / 2 = m at hm
          have hml : lo ≤ m := by omega
          refine wpS_bind (by_ (by omega) ?_)
          cases hpm : p m with
          | true => exact wpS_pure ⟨rfl, m + 1, hi, rfl, by omega, h2, fun i hi' => mono i m (by omega) (by omega) hpm, h4, by omega⟩
          | false => exact wpS_pure ⟨rfl, lo, m, rfl, hml, by omega, h3, fun i h1 h2 => down m i h1 h2 hpm, by omega⟩
      · rintro c st2 ⟨rfl, lo, hi, rfl, h1, h2, h3, h4, h5⟩
        rw [Nat.max_eq_right (Nat.zero_le n)] at h5
        have e : lo = hi := by omega
        subst e
        exact wpS_pure (h lo h2 h3 h4)
    case step1 =>
      rintro x c st' _ hx ⟨rfl, lastofs, ofs, rfl, q1, q2, q3, q4⟩
      dsimp only
      by_cases hge : ofs ≥ n - hint
      · rw [if_pos hge]
        refine wpS_pure ?_
        dsimp only
        refine wpS_bind (wpS_forRange (I := fun x c st2 => st2 = st' ∧ ∃ lo hi, c = (none, lo, hi) ∧ lo ≤ hi ∧ hi ≤ n ∧ (∀ i, i < lo → p i = true) ∧ (∀ i, hi ≤ i → i < n → p i = false) ∧ hi - lo ≤ n - x) ?_ ?_ ⟨rfl, _, _, rfl, (by omega), (by omega), (fun i hi => mono i (hint + lastofs) (by omega) q1 q2), (fun i h1 h2 => by omega), by omega⟩)
        · rintro x c st2 _ hx ⟨rfl, lo, hi, rfl, h1, h2, h3, h4, h5⟩
          dsimp only
          by_cases hge : lo ≥ hi
          · rw [if_pos hge]
            have e : lo = hi := by omega
            subst e
            exact wpS_pure (wpS_pure (h lo h2 h3 h4))
          · rw [if_neg hge]
            have hm : lo + (hi - lo) / 2 < hi := by omega
            generalize em : lo + (hi - lo) / 2 = m at hm
            have hml : lo ≤ m := by omega
            refine wpS_bind (by_ (by omega) ?_)
            cases hpm : p m with
            | true => exact wpS_pure ⟨rfl, m + 1, hi, rfl, by omega, h2, fun i hi' => mono i m (by omega) (by omega) hpm, h4, by omega⟩
            | false => exact wpS_pure ⟨rfl, lo, m, rfl, hml, by omega, h3, fun i h1 h2 => down m i h1 h2 hpm, by omega⟩
        · rintro c st2 ⟨rfl, lo, hi, rfl, h1, h2, h3, h4, h5⟩
          rw [Nat.max_eq_right (Nat.zero_le n)] at h5
          have e : lo = hi := by omega
          subst e
          exact wpS_pure (h lo h2 h3 h4)
      · rw [if_neg hge]
        refine wpS_bind (by_ (by omega) ?_)
        cases hpo : p (hint + ofs) with
        | true => exact wpS_pure ⟨rfl, ofs, 2 * ofs + 1, rfl, by omega, hpo, by omega, by omega⟩
        | false =>
          refine wpS_pure ?_
          dsimp only
          refine wpS_bind (wpS_forRange (I := fun x c st2 => st2 = st' ∧ ∃ lo hi, c = (none, lo, hi) ∧ lo ≤ hi ∧ hi ≤ n ∧ (∀ i, i < lo → p i = true) ∧ (∀ i, hi ≤ i → i < n → p i = false) ∧ hi - lo ≤ n - x) ?_ ?_ ⟨rfl, _, _, rfl, (by omega), (by omega), (fun i hi => mono i (hint + lastofs) (by omega) q1 q2), (fun i h1 h2 => down (hint + ofs) i (by omega) h2 hpo), by omega⟩)
          · rintro x c st2 _ hx ⟨rfl, lo, hi, rfl, h1, h2, h3, h4, h5⟩
            dsimp only
            by_cases hge : lo ≥ hi
            · rw [if_pos hge]
              have e : lo = hi := by omega
              subst e
              exact wpS_pure (wpS_pure (h lo h2 h3 h4))
            · rw [if_neg hge]
              have hm : lo + (hi - lo) / 2 < hi := by omega
              generalize em : lo + (hi - lo) / 2 = m at hm
              have hml : lo ≤ m := by omega
              refine wpS_bind (by_ (by omega) ?_)
              cases hpm : p m with
              | true => exact wpS_pure ⟨rfl, m + 1, hi, rfl, by omega, h2, fun i hi' => mono i m (by omega) (by omega) hpm, h4, by omega⟩
              | false => exact wpS_pure ⟨rfl, lo, m, rfl, hml, by omega, h3, fun i h1 h2 => down m i h1 h2 hpm, by omega⟩
          · rintro c st2 ⟨rfl, lo, hi, rfl, h1, h2, h3, h4, h5⟩
            rw [Nat.max_eq_right (Nat.zero_le n)] at h5
            have e : lo = hi := by omega
            subst e
            exact wpS_pure (h lo h2 h3 h4)
  | false =>
    dsimp only
    rw [if_neg Bool.false_ne_true]
    refine wpS_bind (wpS_forRange (I := fun x c st' => st' = st ∧ ∃ lastofs ofs, c = (none, lastofs, ofs) ∧ lastofs ≤ hint ∧ p (hint - lastofs) = false ∧ lastofs < ofs ∧ x + 1 ≤ ofs) ?step2 ?fin2 ⟨rfl, 0, 1, rfl, by omega, hph, by omega, by omega⟩)
    case fin2 =>
      rintro c st' ⟨rfl, lastofs, ofs, rfl, q1, q2, q3, q4⟩
      rw [Nat.max_eq_right (Nat.zero_le n)] at q4
      dsimp only
      refine wpS_bind (wpS_forRange (I := fun x c st2 => st2 = st' ∧ ∃ lo hi, c = (none, lo, hi) ∧ lo ≤ hi ∧ hi ≤ n ∧ (∀ i, i < lo → p i = true) ∧ (∀ i, hi ≤ i → i < n → p i = false) ∧ hi - lo ≤ n - x) ?_ ?_ ⟨rfl, _, _, rfl, (by omega), (by omega), (fun i hi => by omega), (fun i h1 h2 => down (hint - lastofs) i (by omega) h2 q2), by omega⟩)
      · rintro x c st2 _ hx ⟨rfl, lo, hi, rfl, h1, h2, h3, h4, h5⟩
        dsimp only
        by_cases hge : lo ≥ hi
        · rw [if_pos hge]
          have e : lo = hi := by omega
          subst e
          exact wpS_pure (wpS_pure (h lo h2 h3 h4))
        · rw [if_neg hge]
          have hm : lo + (hi - lo) / 2 < hi := by omega
          generalize em : lo + (hi - lo) / 2 = m at hm
          have hml : lo ≤ m := by omega
          refine wpS_bind (by_ (by omega) ?_)
          cases hpm : p m with
          | true => exact wpS_pure ⟨rfl, m + 1, hi, rfl, by omega, h2, fun i hi' => mono i m (by omega) (by omega) hpm, h4, by omega⟩
          | false => exact wpS_pure ⟨rfl, lo, m, rfl, hml, by omega, h3, fun i h1 h2 => down m i h1 h2 hpm, by omega⟩
      · rintro c st2 ⟨rfl, lo, hi, rfl, h1, h2, h3, h4, h5⟩
        rw [Nat.max_eq_right (Nat.zero_le n)] at h5
        have e : lo = hi := by omega
        subst e
        exact wpS_pure (h lo h2 h3 h4)
    case step2 =>
      rintro x c st' _ hx ⟨rfl, lastofs, ofs, rfl, q1, q2, q3, q4⟩
      dsimp only
      by_cases hge : ofs ≥ hint + 1
      · rw [if_pos hge]
        refine wpS_pure ?_
        dsimp only
        refine wpS_bind (wpS_forRange (I := fun x c st2 => st2 = st' ∧ ∃ lo hi, c = (none, lo, hi) ∧ lo ≤ hi ∧ hi ≤ n ∧ (∀ i, i < lo → p i = true) ∧ (∀ i, hi ≤ i → i < n → p i = false) ∧ hi - lo ≤ n - x) ?_ ?_ ⟨rfl, _, _, rfl, (by omega), (by omega), (fun i hi => by omega), (fun i h1 h2 => down (hint - lastofs) i (by omega) h2 q2), by omega⟩)
        · rintro x c st2 _ hx ⟨rfl, lo, hi, rfl, h1, h2, h3, h4, h5⟩
          dsimp only
          by_cases hge : lo ≥ hi
          · rw [if_pos hge]
            have e : lo = hi := by omega
            subst e
            exact wpS_pure (wpS_pure (h lo h2 h3 h4))
          · rw [if_neg hge]
            have hm : lo + (hi - lo) / 2 < hi := by omega
            generalize em : lo + (hi - lo) / 2 = m at hm
            have hml : lo ≤ m := by omega
            refine wpS_bind (by_ (by omega) ?_)
            cases hpm : p m with
            | true => exact wpS_pure ⟨rfl, m + 1, hi, rfl, by omega, h2, fun i hi' => mono i m (by omega) (by omega) hpm, h4, by omega⟩
            | false => exact wpS_pure ⟨rfl, lo, m, rfl, hml, by omega, h3, fun i h1 h2 => down m i h1 h2 hpm, by omega⟩
        · rintro c st2 ⟨rfl, lo, hi, rfl, h1, h2, h3, h4, h5⟩
          rw [Nat.max_eq_right (Nat.zero_le n)] at h5
          have e : lo = hi := by omega
          subst e
          exact wpS_pure (h lo h2 h3 h4)
      · rw [if_neg hge]
        refine wpS_bind (by_ (by omega) ?_)
        cases hpo : p (hint - ofs) with
        | true =>
          refine wpS_pure ?_
          dsimp only
          refine wpS_bind (wpS_forRange (I := fun x c st2 => st2 = st' ∧ ∃ lo hi, c = (none, lo, hi) ∧ lo ≤ hi ∧ hi ≤ n ∧ (∀ i, i < lo → p i = true) ∧ (∀ i, hi ≤ i → i < n → p i = false) ∧ hi - lo ≤ n - x) ?_ ?_ ⟨rfl, _, _, rfl, (by omega), (by omega), (fun i hi => mono i (hint - ofs) (by omega) (by omega) hpo), (fun i h1 h2 => down (hint - lastofs) i (by omega) h2 q2), by omega⟩)
          · rintro x c st2 _ hx ⟨rfl, lo, hi, rfl, h1, h2, h3, h4, h5⟩
            dsimp only
            by_cases hge : lo ≥ hi
            · rw [if_pos hge]
              have e : lo = hi := by omega
              subst e
              exact wpS_pure (wpS_pure (h lo h2 h3 h4))
            · rw [if_neg hge]
              have hm : lo + (hi - lo) / 2 < hi := by omega
              generalize em : lo + (hi - lo) / 2 = m at hm
              have hml : lo ≤ m := by omega
              refine wpS_bind (by_ (by omega) ?_)
              cases hpm : p m with
              | true => exact wpS_pure ⟨rfl, m + 1, hi, rfl, by omega, h2, fun i hi' => mono i m (by omega) (by omega) hpm, h4, by omega⟩
              | false => exact wpS_pure ⟨rfl, lo, m, rfl, hml, by omega, h3, fun i h1 h2 => down m i h1 h2 hpm, by omega⟩
          · rintro c st2 ⟨rfl, lo, hi, rfl, h1, h2, h3, h4, h5⟩
            rw [Nat.max_eq_right (Nat.zero_le n)] at h5
            have e : lo = hi := by omega
            subst e
            exact wpS_pure (h lo h2 h3 h4)
        | false => exact wpS_pure ⟨rfl, ofs, 2 * ofs + 1, rfl, by omega, hpo, by omega, by omega⟩
end
end PyProof.Rows.Tim
-- part S2
set_option Elab.async false
set_option linter.all false
set_option maxRecDepth 100000
set_option maxHeartbeats 4000000
namespace PyProof.Rows.Tim
open PySem
def setMinGallop' : Nat → StateT SortSt Sem Unit := sortPriv% PySem.Builtin.setMinGallop
def mergeLo' : Array Keyed → Array Keyed → StateT SortSt Sem (Array Keyed) := sortPriv% PySem.Builtin.mergeLo
theorem setMinGallop'_eq (g : Nat) : setMinGallop' g = modify fun s => SortSt.mk' (kindOf s) (arrOf s) (pendingOf s) g (failedOf s) := rfl

abbrev Pw (r : Keyed → Keyed → Bool) (l : List Keyed) : Prop := l.Pairwise fun x y => r y x = false
def SG (st st' : SortSt) : Prop := kindOf st' = kindOf st ∧ arrOf st' = arrOf st ∧ pendingOf st' = pendingOf st ∧ failedOf st' = failedOf st
theorem SG.refl (st : SortSt) : SG st st := ⟨rfl, rfl, rfl, rfl⟩
def Good (r : Keyed → Keyed → Bool) (a b res : Array Keyed) : Prop := res.toList.Perm (a.toList ++ b.toList) ∧ Pw r res.toList
/-- what is out, and what is left of both -/
structure JW (r : Keyed → Keyed → Bool) (a b out : Array Keyed) (ia ib : Nat) : Prop where
  perm : (out.toList ++ (a.toList.drop ia ++ b.toList.drop ib)).Perm (a.toList ++ b.toList)
  srt : Pw r out.toList
  bel : ∀ x ∈ out.toList, ∀ y ∈ a.toList.drop ia ++ b.toList.drop ib, r y x = false
structure MCx (r : Keyed → Keyed → Bool) (a b : Array Keyed) : Prop where
  o : Ord r
  sa : Pw r a.toList
  sb : Pw r b.toList
theorem drop_at {α : Type} {l : List α} {i : Nat} {x : α} (h : l[i]? = some x) : l.drop i = x :: l.drop (i + 1) := by
  obtain ⟨hi, e⟩ := List.getElem?_eq_some_iff.mp h
  rw [List.drop_eq_getElem_cons hi, e]
theorem arr_at {xs : Array Keyed} {i : Nat} {x : Keyed} (h : xs[i]? = some x) : xs.toList[i]? = some x := by rw [Array.getElem?_toList]; exact h
theorem arr_get {xs : Array Keyed} {i : Nat} (h : i < xs.size) : ∃ x, xs[i]? = some x := ⟨xs[i], getElem?_pos xs i h⟩
theorem pw_head {r : Keyed → Keyed → Bool} {l : List Keyed} {i : Nat} {x : Keyed} (o : Ord r) (p : Pw r l) (h : l[i]? = some x) : ∀ y ∈ l.drop i, r y x = false := fun y hy => by
  rw [drop_at h] at hy
  rcases List.mem_cons.mp hy with rfl | hy
  · exact o.irr _
  · have q : Pw r (l.drop i) := List.Pairwise.sublist (List.drop_sublist i l) p
    rw [drop_at h] at q
    exact (List.pairwise_cons.mp q).1 y hy
theorem ext_to (xs : Array Keyed) (i j : Nat) : (xs.extract i j).toList = (xs.toList.drop i).take (j - i) := by
  rw [Array.toList_extract, List.extract_eq_drop_take]
theorem ext_all (xs : Array Keyed) (i : Nat) : (xs.extract i xs.size).toList = xs.toList.drop i := by
  rw [ext_to, List.take_of_length_le (by rw [List.length_drop, Array.length_toList]; exact Nat.le_refl _)]
section
variable {r : Keyed → Keyed → Bool} {a b out : Array Keyed} {ia ib : Nat}
theorem JW.pushA (C : MCx r a b) (J : JW r a b out ia ib) {x : Keyed} (hx : a[ia]? = some x) (h : ∀ y, b[ib]? = some y → r y x = false) : JW r a b (out.push x) (ia + 1) ib := by
  have hx' := arr_at hx
  have hd := drop_at hx'
  have low : ∀ y ∈ a.toList.drop (ia + 1) ++ b.toList.drop ib, r y x = false := fun y hy => by
    rcases List.mem_append.mp hy with hy | hy
    · exact pw_head C.o C.sa hx' y (by rw [hd]; exact List.mem_cons_of_mem _ hy)
    · cases e : b[ib]? with
      | none =>
        rw [← Array.getElem?_toList] at e
        rw [List.drop_eq_nil_of_le (by rw [List.getElem?_eq_none_iff] at e; exact e)] at hy
        cases hy
      | some z =>
        have h1 := pw_head C.o C.sb (arr_at e) y hy
        exact C.o.ntr x z y (h z e) h1
  refine ⟨?_, ?_, fun u hu y hy => ?_⟩
  · rw [Array.toList_push, List.append_assoc]
    have := J.perm
    rw [hd] at this
    exact this
  · rw [Array.toList_push]
    refine List.pairwise_append.mpr ⟨J.srt, List.pairwise_singleton _ _, fun u hu v hv => ?_⟩
    rw [List.mem_singleton.mp hv]
    exact J.bel u hu x (List.mem_append_left _ (by rw [hd]; exact List.mem_cons_self))
  · rw [Array.toList_push] at hu
    rcases List.mem_append.mp hu with hu | hu
    · refine J.bel u hu y ?_
      rcases List.mem_append.mp hy with hy | hy
      · exact List.mem_append_left _ (by rw [hd]; exact List.mem_cons_of_mem _ hy)
      · exact List.mem_append_right _ hy
    · rw [List.mem_singleton.mp hu]
      exact low y hy
theorem JW.pushB (C : MCx r a b) (J : JW r a b out ia ib) {y : Keyed} (hy : b[ib]? = some y) (h : ∀ x, a[ia]? = some x → r x y = false) : JW r a b (out.push y) ia (ib + 1) := by
  have hy' := arr_at hy
  have hd := drop_at hy'
  have low : ∀ z ∈ a.toList.drop ia ++ b.toList.drop (ib + 1), r z y = false := fun z hz => by
    rcases List.mem_append.mp hz with hz | hz
    · cases e : a[ia]? with
      | none =>
        rw [← Array.getElem?_toList] at e
        rw [List.drop_eq_nil_of_le (by rw [List.getElem?_eq_none_iff] at e; exact e)] at hz
        cases hz
      | some x =>
        have h1 := pw_head C.o C.sa (arr_at e) z hz
        exact C.o.ntr y x z (h x e) h1
    · exact pw_head C.o C.sb hy' z (by rw [hd]; exact List.mem_cons_of_mem _ hz)
  refine ⟨?_, ?_, fun u hu z hz => ?_⟩
  · rw [Array.toList_push, List.append_assoc]
    have := J.perm
    rw [hd] at this
    refine List.Perm.trans (List.Perm.append_left _ ?_) this
    exact (show (y :: (a.toList.drop ia ++ b.toList.drop (ib + 1))).Perm _ from List.perm_middle.symm)
  · rw [Array.toList_push]
    refine List.pairwise_append.mpr ⟨J.srt, List.pairwise_singleton _ _, fun u hu v hv => ?_⟩
    rw [List.mem_singleton.mp hv]
    exact J.bel u hu y (List.mem_append_right _ (by rw [hd]; exact List.mem_cons_self))
  · rw [Array.toList_push] at hu
    rcases List.mem_append.mp hu with hu | hu
    · refine J.bel u hu z ?_
      rcases List.mem_append.mp hz with hz | hz
      · exact List.mem_append_left _ hz
      · exact List.mem_append_right _ (by rw [hd]; exact List.mem_cons_of_mem _ hz)
    · rw [List.mem_singleton.mp hu]
      exact low z hz
theorem ext_succ {xs : Array Keyed} {i k : Nat} {x : Keyed} (hx : xs[i + k]? = some x) : xs.extract i (i + (k + 1)) = (xs.extract i (i + k)).push x := by
  obtain ⟨h, e⟩ := Array.getElem?_eq_some_iff.mp hx
  rw [← e, ← Nat.add_assoc, Array.extract_succ_right (by omega) h]
theorem JW.runA (C : MCx r a b) (J : JW r a b out ia ib) : ∀ k, ia + k ≤ a.size → (∀ i, i < k → ∀ x y, a[ia + i]? = some x → b[ib]? = some y → r y x = false) → JW r a b (out ++ a.extract ia (ia + k)) (ia + k) ib
  | 0, _, _ => by
    rw [Nat.add_zero]
    have e : a.extract ia ia = #[] := by simp; omega
    rw [e, Array.append_empty]
    exact J
  | k + 1, hk, h => by
    obtain ⟨x, hx⟩ := arr_get (xs := a) (i := ia + k) (by omega)
    have ih := JW.runA C J k (by omega) fun i hi => h i (by omega)
    have := ih.pushA C hx fun y hy => h k (by omega) x y hx hy
    rw [ext_succ hx, Array.append_push]
    exact this
theorem JW.runB (C : MCx r a b) (J : JW r a b out ia ib) : ∀ k, ib + k ≤ b.size → (∀ i, i < k → ∀ y x, b[ib + i]? = some y → a[ia]? = some x → r x y = false) → JW r a b (out ++ b.extract ib (ib + k)) ia (ib + k)
  | 0, _, _ => by
    rw [Nat.add_zero]
    have e : b.extract ib ib = #[] := by simp; omega
    rw [e, Array.append_empty]
    exact J
  | k + 1, hk, h => by
    obtain ⟨y, hy⟩ := arr_get (xs := b) (i := ib + k) (by omega)
    have ih := JW.runB C J k (by omega) fun i hi => h i (by omega)
    have := ih.pushB C hy fun x hx => h k (by omega) y x hy hx
    rw [ext_succ hy, Array.append_push]
    exact this
theorem JW.done (C : MCx r a b) (J : JW r a b out ia ib) (h : a.size ≤ ia ∨ b.size ≤ ib) : Good r a b (out ++ a.extract ia a.size ++ b.extract ib b.size) := by
  unfold Good
  rw [Array.toList_append, Array.toList_append, ext_all, ext_all]
  refine ⟨by rw [List.append_assoc]; exact J.perm, ?_⟩
  have pa : Pw r (a.toList.drop ia) := List.Pairwise.sublist (List.drop_sublist _ _) C.sa
  have pb : Pw r (b.toList.drop ib) := List.Pairwise.sublist (List.drop_sublist _ _) C.sb
  rw [List.append_assoc]
  refine List.pairwise_append.mpr ⟨J.srt, ?_, J.bel⟩
  rcases h with h | h
  · rw [List.drop_eq_nil_of_le (by rw [Array.length_toList]; exact h), List.nil_append]
    exact pb
  · rw [List.drop_eq_nil_of_le (as := b.toList) (by rw [Array.length_toList]; exact h), List.append_nil]
    exact pa
theorem JW.last (C : MCx r a b) (J : JW r a b out ia ib) (h : ia + 1 = a.size) (hl : ∀ x, a[a.size - 1]? = some x → ∀ y ∈ b.toList, r x y = false) : Good r a b (out ++ b.extract ib b.size ++ a.extract ia a.size) := by
  unfold Good
  rw [Array.toList_append, Array.toList_append, ext_all, ext_all]
  obtain ⟨x, hx⟩ := arr_get (xs := a) (i := ia) (by omega)
  have ed : a.toList.drop ia = [x] := by
    rw [drop_at (arr_at hx), List.drop_eq_nil_of_le (by rw [Array.length_toList]; omega)]
  have P := J.perm
  have B := J.bel
  rw [ed] at P B ⊢
  have pb : Pw r (b.toList.drop ib) := List.Pairwise.sublist (List.drop_sublist _ _) C.sb
  refine ⟨?_, ?_⟩
  · rw [List.append_assoc]
    exact List.Perm.trans (List.Perm.append_left _ List.perm_append_comm) P
  · rw [List.append_assoc]
    refine List.pairwise_append.mpr ⟨J.srt, List.pairwise_append.mpr ⟨pb, List.pairwise_singleton _ _, fun y hy z hz => ?_⟩, fun u hu z hz => B u hu z ?_⟩
    · rw [List.mem_singleton.mp hz]
      exact hl x (by rw [show a.size - 1 = ia by omega]; exact hx) y (List.mem_of_mem_drop hy)
    · rcases List.mem_append.mp hz with hz | hz
      · exact List.mem_append_right _ hz
      · exact List.mem_append_left _ hz
end
theorem mem_arr {xs : Array Keyed} {i : Nat} {x : Keyed} (h : xs[i]? = some x) : x ∈ xs.toList := List.mem_of_getElem? (arr_at h)
theorem pw_le {r : Keyed → Keyed → Bool} {l : List Keyed} {i j : Nat} {x y : Keyed} (o : Ord r) (p : Pw r l) (hx : l[i]? = some x) (hy : l[j]? = some y) (h : i ≤ j) : r y x = false := by
  refine pw_head o p hx y ?_
  have : (l.drop i)[j - i]? = some y := by rw [List.getElem?_drop, show i + (j - i) = j by omega]; exact hy
  exact List.mem_of_getElem? this
theorem lt_le {r : Keyed → Keyed → Bool} {x y z : Keyed} (o : Ord r) (h : r y z = true) (h2 : r y x = false) : r x z = true := by
  cases e : r x z with
  | true => rfl
  | false =>
    have := o.ntr z x y e h2
    rw [h] at this
    cases this
section
variable {prog : Program} {w : World} {A : Around} {E : Value → Shared → Prop} {s : Shared} {κ : SortKind} {a₀ : Array Keyed} {r : Keyed → Keyed → Bool}
theorem wpS_setG {g : Nat} {Q : Unit → SortSt → Prop} {st : SortSt} (h : Q () (SortSt.mk' (kindOf st) (arrOf st) (pendingOf st) g (failedOf st))) : wpS (model prog w) A E s (setMinGallop' g) Q st := by
  rw [setMinGallop'_eq]
  exact wpS_modify h
theorem wpS_mergeLo {a b : Array Keyed} {Q : Array Keyed → SortSt → Prop} {st : SortSt} (hc : Cmp prog w A E s κ a₀ r) (hk : kindOf st = κ) (C : MCx r a b) (ma : ∀ x ∈ a.toList, x ∈ a₀.toList) (mb : ∀ x ∈ b.toList, x ∈ a₀.toList) (na : 1 ≤ a.size) (nb : 1 ≤ b.size)
    (h0 : ∀ y, b[0]? = some y → ∀ x ∈ a.toList, r x y = false) (hl : ∀ x, a[a.size - 1]? = some x → ∀ y ∈ b.toList, r x y = false)
    (h : ∀ res st', SG st st' → Good r a b res → Q res st') : wpS (model prog w) A E s (mergeLo' a b) Q st := by
  show wpS (model prog w) A E s (_ >>= _) _ _
  try dsimp only
  refine wpS_bind (wpS_lift (wpAny_rule ⟨rfl, ?_⟩))
  obtain ⟨y0, hy0⟩ := arr_get (xs := b) (i := 0) (by omega)
  refine wpS_bind (wpS_elem hy0 ?_)
  have J0 : JW r a b #[y0] 0 1 := by
    have e : JW r a b #[] 0 0 := ⟨by simp, .nil, fun x hx => by cases hx⟩
    exact e.pushB C hy0 fun x hx => h0 y0 hy0 x (mem_arr hx)
  by_cases hz0 : (1 == b.size) = true
  · rw [if_pos hz0]
    exact wpS_pure (h _ _ (SG.refl _) (J0.done C (.inr (by have := beq_iff_eq.mp hz0; omega))))
  rw [if_neg hz0]
  by_cases hz1 : (0 + 1 == a.size) = true
  · rw [if_pos hz1]
    exact wpS_pure (h _ _ (SG.refl _) (J0.last C (by have := beq_iff_eq.mp hz1; omega) hl))
  rw [if_neg hz1]
  have hz0' : ¬ (1 = b.size) := fun z => hz0 (beq_iff_eq.mpr z)
  have hz1' : ¬ (0 + 1 = a.size) := fun z => hz1 (beq_iff_eq.mpr z)
  refine wpS_bind (wpS_get ?_)
  refine wpS_bind (wpS_mono (wpS_forRange (I := fun x c st1 => SG st st1 ∧ ∃ out ia ib g, c = (none, out, ia, ib, g) ∧ JW r a b out ia ib ∧ ia + 1 < a.size ∧ ib < b.size ∧ x + 1 ≤ ia + ib) (Q := fun c st1 => SG st st1 ∧ ∃ res, c.fst = some res ∧ Good r a b res) ?step ?fin ⟨SG.refl _, _, _, _, _, rfl, J0, by omega, by omega, by omega⟩) ?post)
  case post =>
    rintro c st1 ⟨sg1, res, ec, gd⟩
    rw [ec]
    exact wpS_pure (h res st1 sg1 gd)
  case fin =>
    rintro c st1 ⟨_, out, ia, ib, g, _, _, i1, i2, i3⟩
    rw [Nat.max_eq_right (Nat.zero_le _)] at i3
    omega
  case step =>
    rintro x c st1 _ hx ⟨sg1, out, ia, ib, g, rfl, J, i1, i2, i3⟩
    dsimp only
    have hk1 : kindOf st1 = κ := by rw [sg1.1]; exact hk
    -- one pair at a time
    refine wpS_bind (wpS_mono (wpS_forRange (I := fun y c st2 => st2 = st1 ∧ ∃ out' ia' ib' ac bc, c = (none, out', ia', ib', ac, bc) ∧ JW r a b out' ia' ib' ∧ ia' + 1 < a.size ∧ ib' < b.size ∧ ia + ib + y ≤ ia' + ib')
      (Q := fun c st2 => st2 = st1 ∧ ((∃ res, c.fst = some res ∧ Good r a b res) ∨ ∃ out' ia' ib' ac bc, c = (none, out', ia', ib', ac, bc) ∧ JW r a b out' ia' ib' ∧ ia' + 1 < a.size ∧ ib' < b.size ∧ ia + ib + 1 ≤ ia' + ib')) ?_ ?_ ⟨rfl, _, _, _, _, _, rfl, J, i1, i2, by omega⟩) ?_)
    · rintro y c st2 _ hy ⟨rfl, out', ia', ib', ac, bc, rfl, J', j1, j2, j3⟩
      dsimp only
      obtain ⟨yb, hyb⟩ := arr_get (xs := b) (i := ib') (by omega)
      obtain ⟨xa, hxa⟩ := arr_get (xs := a) (i := ia') (by omega)
      refine wpS_bind (wpS_elem hyb (wpS_bind (wpS_elem hxa (wpS_bind (hc _ _ _ _ (mb _ (mem_arr hyb)) (ma _ (mem_arr hxa)) hk1 ?_)))))
      dsimp only
      cases hr : r yb xa with
      | true =>
        rw [if_pos rfl]
        refine wpS_bind (wpS_elem hyb ?_)
        have J2 := J'.pushB C hyb (fun x hx => by rw [hxa] at hx; cases hx; exact C.o.asy _ _ hr)
        by_cases hz : (ib' + 1 == b.size) = true
        · rw [if_pos hz]
          exact wpS_pure ⟨rfl, .inl ⟨_, rfl, J2.done C (.inr (by have := beq_iff_eq.mp hz; omega))⟩⟩
        rw [if_neg hz]
        have hz' : ¬ (ib' + 1 = b.size) := fun z => hz (beq_iff_eq.mpr z)
        by_cases hg : bc + 1 ≥ g
        · rw [if_pos hg]
          exact wpS_pure ⟨rfl, .inr ⟨_, _, _, _, _, rfl, J2, by omega, by omega, by omega⟩⟩
        · rw [if_neg hg]
          exact wpS_pure ⟨rfl, _, _, _, _, _, rfl, J2, by omega, by omega, by omega⟩
      | false =>
        rw [if_neg Bool.false_ne_true]
        refine wpS_bind (wpS_elem hxa ?_)
        have J2 := J'.pushA C hxa (fun x hx => by rw [hyb] at hx; cases hx; exact hr)
        by_cases hz : (ia' + 1 + 1 == a.size) = true
        · rw [if_pos hz]
          exact wpS_pure ⟨rfl, .inl ⟨_, rfl, J2.last C (by have := beq_iff_eq.mp hz; omega) hl⟩⟩
        rw [if_neg hz]
        have hz' : ¬ (ia' + 1 + 1 = a.size) := fun z => hz (beq_iff_eq.mpr z)
        by_cases hg : ac + 1 ≥ g
        · rw [if_pos hg]
          exact wpS_pure ⟨rfl, .inr ⟨_, _, _, _, _, rfl, J2, by omega, by omega, by omega⟩⟩
        · rw [if_neg hg]
          exact wpS_pure ⟨rfl, _, _, _, _, _, rfl, J2, by omega, by omega, by omega⟩
    · rintro c st2 ⟨rfl, out', ia', ib', ac, bc, rfl, J', j1, j2, j3⟩
      rw [Nat.max_eq_right (Nat.zero_le _)] at j3
      omega
    rintro c st2 ⟨rfl, ⟨res, ec, gd⟩ | ⟨out', ia', ib', ac, bc, rfl, J', j1, j2, j3⟩⟩
    · rw [ec]
      exact wpS_pure ⟨sg1, res, rfl, gd⟩
    dsimp only
    refine wpS_bind (wpS_lift (wpAny_rule ⟨rfl, ?_⟩))
    -- many at a time
    refine wpS_bind (wpS_mono (wpS_forRange (I := fun y c st2 => SG st st2 ∧ ∃ out ia ib g ac bc, c = (none, out, ia, ib, g, ac, bc) ∧ JW r a b out ia ib ∧ ia + 1 < a.size ∧ ib < b.size ∧ ia' + ib' + y ≤ ia + ib)
      (Q := fun c st2 => SG st st2 ∧ ((∃ res, c.fst = some res ∧ Good r a b res) ∨ ∃ out ia ib g ac bc, c = (none, out, ia, ib, g, ac, bc) ∧ JW r a b out ia ib ∧ ia + 1 < a.size ∧ ib < b.size ∧ ia' + ib' ≤ ia + ib)) ?_ ?_ ⟨sg1, _, _, _, _, _, _, rfl, J', j1, j2, by omega⟩) ?_)
    · clear J i1 i2 hk1
      rintro y c st2 _ hy ⟨sg2, out, ia2, ib2, g, ac, bc, rfl, J, i1, i2, i4⟩
      dsimp only
      revert J i1 i2 i4
      have ii3 : ia + ib + 1 ≤ ia' + ib' := j3
      clear j3 i3
      generalize ia2 = ia
      generalize ib2 = ib
      intro J i1 i2 i4
      by_cases hg1 : g > 1
      · rw [if_pos hg1]
        refine wpS_bind (wpS_setG ?_)
        generalize hg3 : SortSt.mk' _ _ _ _ _ = st3
        have sg3 : SG st st3 := by rw [← hg3]; exact sg2
        have hk3 : kindOf st3 = κ := by rw [sg3.1]; exact hk
        obtain ⟨y2, hy2⟩ := arr_get (xs := b) (i := ib) (by omega)
        refine wpS_bind (wpS_elem hy2 ?_)
        refine wpS_bind (wpS_gallop hc hk3 (fun i => match a[ia + i]? with | some x => !r y2 x | none => false) (fun i hi => ?_) (mb y2 (mem_arr hy2)) (fun i j hij hj hp => ?_) (by omega) fun k kn klo khi => ?_)
        · obtain ⟨x, hx⟩ := arr_get (xs := a) (i := ia + i) (by omega)
          refine ⟨x, hx, ma x (mem_arr hx), ?_⟩
          try dsimp only
          rw [hx]
          rfl
        · obtain ⟨xj, hxj⟩ := arr_get (xs := a) (i := ia + j) (by omega)
          obtain ⟨xi, hxi⟩ := arr_get (xs := a) (i := ia + i) (by omega)
          try dsimp only at hp ⊢
          rw [hxj] at hp
          rw [hxi]
          rw [Bool.not_eq_true'] at hp ⊢
          exact C.o.ntr _ _ _ (pw_le C.o C.sa (arr_at hxi) (arr_at hxj) (by omega)) hp
        try dsimp only
        by_cases hk0 : k > 0
        · rw [if_pos hk0]
          have J1 := J.runA C k (by omega) (fun i hi x y hx hy => by
            rw [hy2] at hy
            cases hy
            have := klo i hi
            try dsimp only at this
            rw [hx, Bool.not_eq_true'] at this
            exact this)
          by_cases hz0 : (ia + k + 1 == a.size) = true
          · rw [if_pos hz0]
            exact wpS_pure ⟨sg3, .inl ⟨_, rfl, J1.last C (by have := beq_iff_eq.mp hz0; omega) hl⟩⟩
          rw [if_neg hz0]
          by_cases hz1 : (ia + k == a.size) = true
          · rw [if_pos hz1]
            exact wpS_pure ⟨sg3, .inl ⟨_, rfl, J1.done C (.inl (by have := beq_iff_eq.mp hz1; omega))⟩⟩
          rw [if_neg hz1]
          have hz0' : ¬ (ia + k + 1 = a.size) := fun z => hz0 (beq_iff_eq.mpr z)
          have hz1' : ¬ (ia + k = a.size) := fun z => hz1 (beq_iff_eq.mpr z)
          refine wpS_bind (wpS_elem hy2 ?_)
          have J2 := J1.pushB C hy2 (fun x hx => by
            have := khi k (Nat.le_refl _) (by omega)
            try dsimp only at this
            rw [hx, Bool.not_eq_false'] at this
            exact C.o.asy _ _ this)
          by_cases hz : (ib + 1 == b.size) = true
          · rw [if_pos hz]
            exact wpS_pure ⟨sg3, .inl ⟨_, rfl, J2.done C (.inr (by have := beq_iff_eq.mp hz; omega))⟩⟩
          rw [if_neg hz]
          have hz' : ¬ (ib + 1 = b.size) := fun z => hz (beq_iff_eq.mpr z)
          obtain ⟨x3, hx3⟩ := arr_get (xs := a) (i := ia + k) (by omega)
          refine wpS_bind (wpS_elem hx3 ?_)
          refine wpS_bind (wpS_gallop hc hk3 (fun i => match b[ib + 1 + i]? with | some y => r y x3 | none => false) (fun i hi => ?_) (ma x3 (mem_arr hx3)) (fun i j hij hj hp => ?_) (by omega) fun k1 k1n klo khi => ?_)
          · obtain ⟨y, hy⟩ := arr_get (xs := b) (i := ib + 1 + i) (by omega)
            refine ⟨y, hy, mb y (mem_arr hy), ?_⟩
            try dsimp only
            rw [hy]
            rfl
          · obtain ⟨yj, hyj⟩ := arr_get (xs := b) (i := ib + 1 + j) (by omega)
            obtain ⟨yi, hyi⟩ := arr_get (xs := b) (i := ib + 1 + i) (by omega)
            try dsimp only at hp ⊢
            rw [hyj] at hp
            rw [hyi]
            exact lt_le C.o hp (pw_le C.o C.sb (arr_at hyi) (arr_at hyj) (by omega))
          try dsimp only
          by_cases hk1 : k1 > 0
          · rw [if_pos hk1]
            have J3 := J2.runB C k1 (by omega) (fun i hi y x hy hx => by
              rw [hx3] at hx
              cases hx
              have := klo i hi
              try dsimp only at this
              rw [hy] at this
              exact C.o.asy _ _ this)
            by_cases hz2 : (ib + 1 + k1 == b.size) = true
            · rw [if_pos hz2]
              exact wpS_pure ⟨sg3, .inl ⟨_, rfl, J3.done C (.inr (by have := beq_iff_eq.mp hz2; omega))⟩⟩
            rw [if_neg hz2]
            have hz2' : ¬ (ib + 1 + k1 = b.size) := fun z => hz2 (beq_iff_eq.mpr z)
            obtain ⟨x4, hx4⟩ := arr_get (xs := a) (i := ia + k) (by omega)
            refine wpS_bind (wpS_elem hx4 ?_)
            have J4 := J3.pushA C hx4 (fun y hy => by
              have := khi k1 (Nat.le_refl _) (by omega)
              try dsimp only at this
              rw [hy] at this
              have e : x4 = x3 := by rw [hx3] at hx4; exact (Option.some.inj hx4).symm
              rw [e]
              exact this)
            by_cases hz : (ia + k + 1 + 1 == a.size) = true
            · rw [if_pos hz]
              exact wpS_pure ⟨sg3, .inl ⟨_, rfl, J4.last C (by have := beq_iff_eq.mp hz; omega) hl⟩⟩
            · rw [if_neg hz]
              have hz' : ¬ (ia + k + 1 + 1 = a.size) := fun z => hz (beq_iff_eq.mpr z)
              by_cases h7 : (decide (k < 7) && decide (k1 < 7)) = true
              · rw [if_pos h7]
                exact wpS_pure ⟨sg3, .inr ⟨_, _, _, _, _, _, rfl, J4, by omega, by omega, by omega⟩⟩
              · rw [if_neg h7]
                exact wpS_pure ⟨sg3, _, _, _, _, _, _, rfl, J4, by omega, by omega, by omega⟩
          · rw [if_neg hk1]
            obtain rfl : k1 = 0 := by omega
            obtain ⟨x4, hx4⟩ := arr_get (xs := a) (i := ia + k) (by omega)
            refine wpS_bind (wpS_elem hx4 ?_)
            have J4 := J2.pushA C hx4 (fun y hy => by
              have := khi 0 (Nat.le_refl _) (by omega)
              try dsimp only at this
              rw [Nat.add_zero, hy] at this
              have e : x4 = x3 := by rw [hx3] at hx4; exact (Option.some.inj hx4).symm
              rw [e]
              exact this)
            by_cases hz : (ia + k + 1 + 1 == a.size) = true
            · rw [if_pos hz]
              exact wpS_pure ⟨sg3, .inl ⟨_, rfl, J4.last C (by have := beq_iff_eq.mp hz; omega) hl⟩⟩
            · rw [if_neg hz]
              have hz' : ¬ (ia + k + 1 + 1 = a.size) := fun z => hz (beq_iff_eq.mpr z)
              by_cases h7 : (decide (k < 7) && decide (0 < 7)) = true
              · rw [if_pos h7]
                exact wpS_pure ⟨sg3, .inr ⟨_, _, _, _, _, _, rfl, J4, by omega, by omega, by omega⟩⟩
              · rw [if_neg h7]
                exact wpS_pure ⟨sg3, _, _, _, _, _, _, rfl, J4, by omega, by omega, by omega⟩
        · rw [if_neg hk0]
          obtain rfl : k = 0 := by omega
          refine wpS_bind (wpS_elem hy2 ?_)
          have J2 := J.pushB C hy2 (fun x hx => by
            have := khi 0 (Nat.le_refl _) (by omega)
            try dsimp only at this
            rw [Nat.add_zero, hx, Bool.not_eq_false'] at this
            exact C.o.asy _ _ this)
          by_cases hz : (ib + 1 == b.size) = true
          · rw [if_pos hz]
            exact wpS_pure ⟨sg3, .inl ⟨_, rfl, J2.done C (.inr (by have := beq_iff_eq.mp hz; omega))⟩⟩
          rw [if_neg hz]
          have hz' : ¬ (ib + 1 = b.size) := fun z => hz (beq_iff_eq.mpr z)
          obtain ⟨x3, hx3⟩ := arr_get (xs := a) (i := ia) (by omega)
          refine wpS_bind (wpS_elem hx3 ?_)
          refine wpS_bind (wpS_gallop hc hk3 (fun i => match b[ib + 1 + i]? with | some y => r y x3 | none => false) (fun i hi => ?_) (ma x3 (mem_arr hx3)) (fun i j hij hj hp => ?_) (by omega) fun k1 k1n klo khi => ?_)
          · obtain ⟨y, hy⟩ := arr_get (xs := b) (i := ib + 1 + i) (by omega)
            refine ⟨y, hy, mb y (mem_arr hy), ?_⟩
            try dsimp only
            rw [hy]
            rfl
          · obtain ⟨yj, hyj⟩ := arr_get (xs := b) (i := ib + 1 + j) (by omega)
            obtain ⟨yi, hyi⟩ := arr_get (xs := b) (i := ib + 1 + i) (by omega)
            try dsimp only at hp ⊢
            rw [hyj] at hp
            rw [hyi]
            exact lt_le C.o hp (pw_le C.o C.sb (arr_at hyi) (arr_at hyj) (by omega))
          try dsimp only
          by_cases hk1 : k1 > 0
          · rw [if_pos hk1]
            have J3 := J2.runB C k1 (by omega) (fun i hi y x hy hx => by
              rw [hx3] at hx
              cases hx
              have := klo i hi
              try dsimp only at this
              rw [hy] at this
              exact C.o.asy _ _ this)
            by_cases hz2 : (ib + 1 + k1 == b.size) = true
            · rw [if_pos hz2]
              exact wpS_pure ⟨sg3, .inl ⟨_, rfl, J3.done C (.inr (by have := beq_iff_eq.mp hz2; omega))⟩⟩
            rw [if_neg hz2]
            have hz2' : ¬ (ib + 1 + k1 = b.size) := fun z => hz2 (beq_iff_eq.mpr z)
            obtain ⟨x4, hx4⟩ := arr_get (xs := a) (i := ia) (by omega)
            refine wpS_bind (wpS_elem hx4 ?_)
            have J4 := J3.pushA C hx4 (fun y hy => by
              have := khi k1 (Nat.le_refl _) (by omega)
              try dsimp only at this
              rw [hy] at this
              have e : x4 = x3 := by rw [hx3] at hx4; exact (Option.some.inj hx4).symm
              rw [e]
              exact this)
            by_cases hz : (ia + 1 + 1 == a.size) = true
            · rw [if_pos hz]
              exact wpS_pure ⟨sg3, .inl ⟨_, rfl, J4.last C (by have := beq_iff_eq.mp hz; omega) hl⟩⟩
            · rw [if_neg hz]
              have hz' : ¬ (ia + 1 + 1 = a.size) := fun z => hz (beq_iff_eq.mpr z)
              by_cases h7 : (decide (0 < 7) && decide (k1 < 7)) = true
              · rw [if_pos h7]
                exact wpS_pure ⟨sg3, .inr ⟨_, _, _, _, _, _, rfl, J4, by omega, by omega, by omega⟩⟩
              · rw [if_neg h7]
                exact wpS_pure ⟨sg3, _, _, _, _, _, _, rfl, J4, by omega, by omega, by omega⟩
          · rw [if_neg hk1]
            obtain rfl : k1 = 0 := by omega
            obtain ⟨x4, hx4⟩ := arr_get (xs := a) (i := ia) (by omega)
            refine wpS_bind (wpS_elem hx4 ?_)
            have J4 := J2.pushA C hx4 (fun y hy => by
              have := khi 0 (Nat.le_refl _) (by omega)
              try dsimp only at this
              rw [Nat.add_zero, hy] at this
              have e : x4 = x3 := by rw [hx3] at hx4; exact (Option.some.inj hx4).symm
              rw [e]
              exact this)
            by_cases hz : (ia + 1 + 1 == a.size) = true
            · rw [if_pos hz]
              exact wpS_pure ⟨sg3, .inl ⟨_, rfl, J4.last C (by have := beq_iff_eq.mp hz; omega) hl⟩⟩
            · rw [if_neg hz]
              have hz' : ¬ (ia + 1 + 1 = a.size) := fun z => hz (beq_iff_eq.mpr z)
              by_cases h7 : (decide (0 < 7) && decide (0 < 7)) = true
              · rw [if_pos h7]
                exact wpS_pure ⟨sg3, .inr ⟨_, _, _, _, _, _, rfl, J4, by omega, by omega, by omega⟩⟩
              · rw [if_neg h7]
                exact wpS_pure ⟨sg3, _, _, _, _, _, _, rfl, J4, by omega, by omega, by omega⟩
      · rw [if_neg hg1]
        refine wpS_bind (wpS_setG ?_)
        generalize hg3 : SortSt.mk' _ _ _ _ _ = st3
        have sg3 : SG st st3 := by rw [← hg3]; exact sg2
        have hk3 : kindOf st3 = κ := by rw [sg3.1]; exact hk
        obtain ⟨y2, hy2⟩ := arr_get (xs := b) (i := ib) (by omega)
        refine wpS_bind (wpS_elem hy2 ?_)
        refine wpS_bind (wpS_gallop hc hk3 (fun i => match a[ia + i]? with | some x => !r y2 x | none => false) (fun i hi => ?_) (mb y2 (mem_arr hy2)) (fun i j hij hj hp => ?_) (by omega) fun k kn klo khi => ?_)
        · obtain ⟨x, hx⟩ := arr_get (xs := a) (i := ia + i) (by omega)
          refine ⟨x, hx, ma x (mem_arr hx), ?_⟩
          try dsimp only
          rw [hx]
          rfl
        · obtain ⟨xj, hxj⟩ := arr_get (xs := a) (i := ia + j) (by omega)
          obtain ⟨xi, hxi⟩ := arr_get (xs := a) (i := ia + i) (by omega)
          try dsimp only at hp ⊢
          rw [hxj] at hp
          rw [hxi]
          rw [Bool.not_eq_true'] at hp ⊢
          exact C.o.ntr _ _ _ (pw_le C.o C.sa (arr_at hxi) (arr_at hxj) (by omega)) hp
        try dsimp only
        by_cases hk0 : k > 0
        · rw [if_pos hk0]
          have J1 := J.runA C k (by omega) (fun i hi x y hx hy => by
            rw [hy2] at hy
            cases hy
            have := klo i hi
            try dsimp only at this
            rw [hx, Bool.not_eq_true'] at this
            exact this)
          by_cases hz0 : (ia + k + 1 == a.size) = true
          · rw [if_pos hz0]
            exact wpS_pure ⟨sg3, .inl ⟨_, rfl, J1.last C (by have := beq_iff_eq.mp hz0; omega) hl⟩⟩
          rw [if_neg hz0]
          by_cases hz1 : (ia + k == a.size) = true
          · rw [if_pos hz1]
            exact wpS_pure ⟨sg3, .inl ⟨_, rfl, J1.done C (.inl (by have := beq_iff_eq.mp hz1; omega))⟩⟩
          rw [if_neg hz1]
          have hz0' : ¬ (ia + k + 1 = a.size) := fun z => hz0 (beq_iff_eq.mpr z)
          have hz1' : ¬ (ia + k = a.size) := fun z => hz1 (beq_iff_eq.mpr z)
          refine wpS_bind (wpS_elem hy2 ?_)
          have J2 := J1.pushB C hy2 (fun x hx => by
            have := khi k (Nat.le_refl _) (by omega)
            try dsimp only at this
            rw [hx, Bool.not_eq_false'] at this
            exact C.o.asy _ _ this)
          by_cases hz : (ib + 1 == b.size) = true
          · rw [if_pos hz]
            exact wpS_pure ⟨sg3, .inl ⟨_, rfl, J2.done C (.inr (by have := beq_iff_eq.mp hz; omega))⟩⟩
          rw [if_neg hz]
          have hz' : ¬ (ib + 1 = b.size) := fun z => hz (beq_iff_eq.mpr z)
          obtain ⟨x3, hx3⟩ := arr_get (xs := a) (i := ia + k) (by omega)
          refine wpS_bind (wpS_elem hx3 ?_)
          refine wpS_bind (wpS_gallop hc hk3 (fun i => match b[ib + 1 + i]? with | some y => r y x3 | none => false) (fun i hi => ?_) (ma x3 (mem_arr hx3)) (fun i j hij hj hp => ?_) (by omega) fun k1 k1n klo khi => ?_)
          · obtain ⟨y, hy⟩ := arr_get (xs := b) (i := ib + 1 + i) (by omega)
            refine ⟨y, hy, mb y (mem_arr hy), ?_⟩
            try dsimp only
            rw [hy]
            rfl
          · obtain ⟨yj, hyj⟩ := arr_get (xs := b) (i := ib + 1 + j) (by omega)
            obtain ⟨yi, hyi⟩ := arr_get (xs := b) (i := ib + 1 + i) (by omega)
            try dsimp only at hp ⊢
            rw [hyj] at hp
            rw [hyi]
            exact lt_le C.o hp (pw_le C.o C.sb (arr_at hyi) (arr_at hyj) (by omega))
          try dsimp only
          by_cases hk1 : k1 > 0
          · rw [if_pos hk1]
            have J3 := J2.runB C k1 (by omega) (fun i hi y x hy hx => by
              rw [hx3] at hx
              cases hx
              have := klo i hi
              try dsimp only at this
              rw [hy] at this
              exact C.o.asy _ _ this)
            by_cases hz2 : (ib + 1 + k1 == b.size) = true
            · rw [if_pos hz2]
              exact wpS_pure ⟨sg3, .inl ⟨_, rfl, J3.done C (.inr (by have := beq_iff_eq.mp hz2; omega))⟩⟩
            rw [if_neg hz2]
            have hz2' : ¬ (ib + 1 + k1 = b.size) := fun z => hz2 (beq_iff_eq.mpr z)
            obtain ⟨x4, hx4⟩ := arr_get (xs := a) (i := ia + k) (by omega)
            refine wpS_bind (wpS_elem hx4 ?_)
            have J4 := J3.pushA C hx4 (fun y hy => by
              have := khi k1 (Nat.le_refl _) (by omega)
              try dsimp only at this
              rw [hy] at this
              have e : x4 = x3 := by rw [hx3] at hx4; exact (Option.some.inj hx4).symm
              rw [e]
              exact this)
            by_cases hz : (ia + k + 1 + 1 == a.size) = true
            · rw [if_pos hz]
              exact wpS_pure ⟨sg3, .inl ⟨_, rfl, J4.last C (by have := beq_iff_eq.mp hz; omega) hl⟩⟩
            · rw [if_neg hz]
              have hz' : ¬ (ia + k + 1 + 1 = a.size) := fun z => hz (beq_iff_eq.mpr z)
              by_cases h7 : (decide (k < 7) && decide (k1 < 7)) = true
              · rw [if_pos h7]
                exact wpS_pure ⟨sg3, .inr ⟨_, _, _, _, _, _, rfl, J4, by omega, by omega, by omega⟩⟩
              · rw [if_neg h7]
                exact wpS_pure ⟨sg3, _, _, _, _, _, _, rfl, J4, by omega, by omega, by omega⟩
          · rw [if_neg hk1]
            obtain rfl : k1 = 0 := by omega
            obtain ⟨x4, hx4⟩ := arr_get (xs := a) (i := ia + k) (by omega)
            refine wpS_bind (wpS_elem hx4 ?_)
            have J4 := J2.pushA C hx4 (fun y hy => by
              have := khi 0 (Nat.le_refl _) (by omega)
              try dsimp only at this
              rw [Nat.add_zero, hy] at this
              have e : x4 = x3 := by rw [hx3] at hx4; exact (Option.some.inj hx4).symm
              rw [e]
              exact this)
            by_cases hz : (ia + k + 1 + 1 == a.size) = true
            · rw [if_pos hz]
              exact wpS_pure ⟨sg3, .inl ⟨_, rfl, J4.last C (by have := beq_iff_eq.mp hz; omega) hl⟩⟩
            · rw [if_neg hz]
              have hz' : ¬ (ia + k + 1 + 1 = a.size) := fun z => hz (beq_iff_eq.mpr z)
              by_cases h7 : (decide (k < 7) && decide (0 < 7)) = true
              · rw [if_pos h7]
                exact wpS_pure ⟨sg3, .inr ⟨_, _, _, _, _, _, rfl, J4, by omega, by omega, by omega⟩⟩
              · rw [if_neg h7]
                exact wpS_pure ⟨sg3, _, _, _, _, _, _, rfl, J4, by omega, by omega, by omega⟩
        · rw [if_neg hk0]
          obtain rfl : k = 0 := by omega
          refine wpS_bind (wpS_elem hy2 ?_)
          have J2 := J.pushB C hy2 (fun x hx => by
            have := khi 0 (Nat.le_refl _) (by omega)
            try dsimp only at this
            rw [Nat.add_zero, hx, Bool.not_eq_false'] at this
            exact C.o.asy _ _ this)
          by_cases hz : (ib + 1 == b.size) = true
          · rw [if_pos hz]
            exact wpS_pure ⟨sg3, .inl ⟨_, rfl, J2.done C (.inr (by have := beq_iff_eq.mp hz; omega))⟩⟩
          rw [if_neg hz]
          have hz' : ¬ (ib + 1 = b.size) := fun z => hz (beq_iff_eq.mpr z)
          obtain ⟨x3, hx3⟩ := arr_get (xs := a) (i := ia) (by omega)
          refine wpS_bind (wpS_elem hx3 ?_)
          refine wpS_bind (wpS_gallop hc hk3 (fun i => match b[ib + 1 + i]? with | some y => r y x3 | none => false) (fun i hi => ?_) (ma x3 (mem_arr hx3)) (fun i j hij hj hp => ?_) (by omega) fun k1 k1n klo khi => ?_)
          · obtain ⟨y, hy⟩ := arr_get (xs := b) (i := ib + 1 + i) (by omega)
            refine ⟨y, hy, mb y (mem_arr hy), ?_⟩
            try dsimp only
            rw [hy]
            rfl
          · obtain ⟨yj, hyj⟩ := arr_get (xs := b) (i := ib + 1 + j) (by omega)
            obtain ⟨yi, hyi⟩ := arr_get (xs := b) (i := ib + 1 + i) (by omega)
            try dsimp only at hp ⊢
            rw [hyj] at hp
            rw [hyi]
            exact lt_le C.o hp (pw_le C.o C.sb (arr_at hyi) (arr_at hyj) (by omega))
          try dsimp only
          by_cases hk1 : k1 > 0
          · rw [if_pos hk1]
            have J3 := J2.runB C k1 (by omega) (fun i hi y x hy hx => by
              rw [hx3] at hx
              cases hx
              have := klo i hi
              try dsimp only at this
              rw [hy] at this
              exact C.o.asy _ _ this)
            by_cases hz2 : (ib + 1 + k1 == b.size) = true
            · rw [if_pos hz2]
              exact wpS_pure ⟨sg3, .inl ⟨_, rfl, J3.done C (.inr (by have := beq_iff_eq.mp hz2; omega))⟩⟩
            rw [if_neg hz2]
            have hz2' : ¬ (ib + 1 + k1 = b.size) := fun z => hz2 (beq_iff_eq.mpr z)
            obtain ⟨x4, hx4⟩ := arr_get (xs := a) (i := ia) (by omega)
            refine wpS_bind (wpS_elem hx4 ?_)
            have J4 := J3.pushA C hx4 (fun y hy => by
              have := khi k1 (Nat.le_refl _) (by omega)
              try dsimp only at this
              rw [hy] at this
              have e : x4 = x3 := by rw [hx3] at hx4; exact (Option.some.inj hx4).symm
              rw [e]
              exact this)
            by_cases hz : (ia + 1 + 1 == a.size) = true
            · rw [if_pos hz]
              exact wpS_pure ⟨sg3, .inl ⟨_, rfl, J4.last C (by have := beq_iff_eq.mp hz; omega) hl⟩⟩
            · rw [if_neg hz]
              have hz' : ¬ (ia + 1 + 1 = a.size) := fun z => hz (beq_iff_eq.mpr z)
              by_cases h7 : (decide (0 < 7) && decide (k1 < 7)) = true
              · rw [if_pos h7]
                exact wpS_pure ⟨sg3, .inr ⟨_, _, _, _, _, _, rfl, J4, by omega, by omega, by omega⟩⟩
              · rw [if_neg h7]
                exact wpS_pure ⟨sg3, _, _, _, _, _, _, rfl, J4, by omega, by omega, by omega⟩
          · rw [if_neg hk1]
            obtain rfl : k1 = 0 := by omega
            obtain ⟨x4, hx4⟩ := arr_get (xs := a) (i := ia) (by omega)
            refine wpS_bind (wpS_elem hx4 ?_)
            have J4 := J2.pushA C hx4 (fun y hy => by
              have := khi 0 (Nat.le_refl _) (by omega)
              try dsimp only at this
              rw [Nat.add_zero, hy] at this
              have e : x4 = x3 := by rw [hx3] at hx4; exact (Option.some.inj hx4).symm
              rw [e]
              exact this)
            by_cases hz : (ia + 1 + 1 == a.size) = true
            · rw [if_pos hz]
              exact wpS_pure ⟨sg3, .inl ⟨_, rfl, J4.last C (by have := beq_iff_eq.mp hz; omega) hl⟩⟩
            · rw [if_neg hz]
              have hz' : ¬ (ia + 1 + 1 = a.size) := fun z => hz (beq_iff_eq.mpr z)
              by_cases h7 : (decide (0 < 7) && decide (0 < 7)) = true
              · rw [if_pos h7]
                exact wpS_pure ⟨sg3, .inr ⟨_, _, _, _, _, _, rfl, J4, by omega, by omega, by omega⟩⟩
              · rw [if_neg h7]
                exact wpS_pure ⟨sg3, _, _, _, _, _, _, rfl, J4, by omega, by omega, by omega⟩
    · rintro c st2 ⟨sg2, out, ia, ib, g, ac, bc, rfl, J, i1, i2, i4⟩
      rw [Nat.max_eq_right (Nat.zero_le _)] at i4
      omega
    rintro c st2 ⟨sg2, ⟨res, ec, gd⟩ | ⟨out, ia2, ib2, g, ac, bc, rfl, J2, k1, k2, k3⟩⟩
    · rw [ec]
      exact wpS_pure ⟨sg2, res, rfl, gd⟩
    dsimp only
    refine wpS_bind (wpS_setG (wpS_pure ⟨sg2, _, _, _, _, rfl, J2, k1, k2, by omega⟩))
end
end PyProof.Rows.Tim
-- part S3
set_option Elab.async false
set_option linter.all false
set_option maxRecDepth 100000
set_option maxHeartbeats 4000000
namespace PyProof.Rows.Tim
open PySem
def mergeHi' : Array Keyed → Array Keyed → StateT SortSt Sem (Array Keyed) := sortPriv% PySem.Builtin.mergeHi
/-- what is left of both, and what is out, the greatest first -/
structure JH (r : Keyed → Keyed → Bool) (a b out : Array Keyed) (na nb : Nat) : Prop where
  la : na ≤ a.size
  lb : nb ≤ b.size
  perm : ((a.toList.take na ++ b.toList.take nb) ++ out.toList.reverse).Perm (a.toList ++ b.toList)
  srt : Pw r out.toList.reverse
  bel : ∀ y ∈ a.toList.take na ++ b.toList.take nb, ∀ x ∈ out.toList, r x y = false
theorem take_at {α : Type} {l : List α} {i : Nat} {x : α} (h : l[i]? = some x) : l.take (i + 1) = l.take i ++ [x] := by
  rw [List.take_add_one, h]
  rfl
theorem pw_tail {r : Keyed → Keyed → Bool} {l : List Keyed} {i : Nat} {x : Keyed} (o : Ord r) (p : Pw r l) (h : l[i]? = some x) : ∀ y ∈ l.take (i + 1), r x y = false := fun y hy => by
  obtain ⟨j, hj, e⟩ := List.getElem_of_mem hy
  rw [List.length_take] at hj
  rw [List.getElem_take] at e
  exact pw_le (i := j) o p (by rw [List.getElem?_eq_getElem (by omega), e]) h (by omega)
theorem ext_0 (xs : Array Keyed) (j : Nat) : (xs.extract 0 j).toList = xs.toList.take j := by
  rw [ext_to, List.drop_zero, Nat.sub_zero]
section
variable {r : Keyed → Keyed → Bool} {a b out : Array Keyed} {na nb : Nat}
theorem JH.pushA (C : MCx r a b) (J : JH r a b out na nb) {x : Keyed} (h1 : 1 ≤ na) (hx : a[na - 1]? = some x) (h : 1 ≤ nb → ∀ y, b[nb - 1]? = some y → r x y = false) : JH r a b (out.push x) (na - 1) nb := by
  have la := J.la
  have lb := J.lb
  have hx' := arr_at hx
  have ht := take_at hx'
  rw [Nat.sub_add_cancel h1] at ht
  have mx : x ∈ a.toList.take na := by rw [ht]; simp
  have low : ∀ y ∈ a.toList.take (na - 1) ++ b.toList.take nb, r x y = false := fun y hy => by
    rcases List.mem_append.mp hy with hy | hy
    · exact pw_tail C.o C.sa hx' y (by rw [Nat.sub_add_cancel h1, ht]; exact List.mem_append_left _ hy)
    · have n1 : 1 ≤ nb := by
        rcases Nat.eq_zero_or_pos nb with z | z
        · rw [z] at hy; cases hy
        · exact z
      obtain ⟨z, e⟩ := arr_get (xs := b) (i := nb - 1) (by omega)
      have := pw_tail C.o C.sb (arr_at e) y (by rw [Nat.sub_add_cancel n1]; exact hy)
      exact C.o.ntr y z x this (h n1 z e)
  refine ⟨by omega, lb, ?_, ?_, fun y hy u hu => ?_⟩
  · rw [Array.toList_push, List.reverse_append]
    have P := J.perm
    rw [ht] at P
    refine List.Perm.trans ?_ P
    show ((a.toList.take (na - 1) ++ b.toList.take nb) ++ (x :: out.toList.reverse)).Perm (((a.toList.take (na - 1) ++ [x]) ++ b.toList.take nb) ++ out.toList.reverse)
    rw [List.append_assoc, List.append_assoc, List.append_assoc]
    refine List.Perm.append_left _ ?_
    show (b.toList.take nb ++ x :: out.toList.reverse).Perm (x :: (b.toList.take nb ++ out.toList.reverse))
    exact List.perm_middle
  · rw [Array.toList_push, List.reverse_append]
    refine List.pairwise_cons.mpr ⟨fun u hu => ?_, J.srt⟩
    exact J.bel x (List.mem_append_left _ mx) u (List.mem_reverse.mp hu)
  · rw [Array.toList_push] at hu
    rcases List.mem_append.mp hu with hu | hu
    · refine J.bel y ?_ u hu
      rcases List.mem_append.mp hy with hy | hy
      · exact List.mem_append_left _ (by rw [ht]; exact List.mem_append_left _ hy)
      · exact List.mem_append_right _ hy
    · rw [List.mem_singleton.mp hu]
      exact low y hy
theorem JH.pushB (C : MCx r a b) (J : JH r a b out na nb) {y : Keyed} (h1 : 1 ≤ nb) (hy : b[nb - 1]? = some y) (h : 1 ≤ na → ∀ x, a[na - 1]? = some x → r y x = false) : JH r a b (out.push y) na (nb - 1) := by
  have la := J.la
  have lb := J.lb
  have hy' := arr_at hy
  have ht := take_at hy'
  rw [Nat.sub_add_cancel h1] at ht
  have my : y ∈ b.toList.take nb := by rw [ht]; simp
  have low : ∀ z ∈ a.toList.take na ++ b.toList.take (nb - 1), r y z = false := fun z hz => by
    rcases List.mem_append.mp hz with hz | hz
    · have n1 : 1 ≤ na := by
        rcases Nat.eq_zero_or_pos na with q | q
        · rw [q] at hz; cases hz
        · exact q
      obtain ⟨x, e⟩ := arr_get (xs := a) (i := na - 1) (by omega)
      have := pw_tail C.o C.sa (arr_at e) z (by rw [Nat.sub_add_cancel n1]; exact hz)
      exact C.o.ntr z x y this (h n1 x e)
    · exact pw_tail C.o C.sb hy' z (by rw [Nat.sub_add_cancel h1, ht]; exact List.mem_append_left _ hz)
  refine ⟨la, by omega, ?_, ?_, fun z hz u hu => ?_⟩
  · rw [Array.toList_push, List.reverse_append]
    have P := J.perm
    rw [ht] at P
    refine List.Perm.trans ?_ P
    show ((a.toList.take na ++ b.toList.take (nb - 1)) ++ (y :: out.toList.reverse)).Perm ((a.toList.take na ++ (b.toList.take (nb - 1) ++ [y])) ++ out.toList.reverse)
    rw [List.append_assoc, List.append_assoc, List.append_assoc]
    exact .refl _
  · rw [Array.toList_push, List.reverse_append]
    refine List.pairwise_cons.mpr ⟨fun u hu => ?_, J.srt⟩
    exact J.bel y (List.mem_append_right _ my) u (List.mem_reverse.mp hu)
  · rw [Array.toList_push] at hu
    rcases List.mem_append.mp hu with hu | hu
    · refine J.bel z ?_ u hu
      rcases List.mem_append.mp hz with hz | hz
      · exact List.mem_append_left _ hz
      · exact List.mem_append_right _ (by rw [ht]; exact List.mem_append_left _ hz)
    · rw [List.mem_singleton.mp hu]
      exact low z hz
theorem ext_rev {xs : Array Keyed} {i n : Nat} {x : Keyed} (hx : xs[i]? = some x) (h : i < n) (hn : n ≤ xs.size) : (xs.extract i n).reverse = (xs.extract (i + 1) n).reverse.push x := by
  apply Array.toList_inj.mp
  rw [Array.toList_reverse, Array.toList_push, Array.toList_reverse, ext_to, ext_to, drop_at (arr_at hx), show n - i = (n - (i + 1)) + 1 by omega, List.take_succ_cons, List.reverse_cons]
theorem JH.runA (C : MCx r a b) (J : JH r a b out na nb) : ∀ k, k ≤ na → (∀ i, na - k ≤ i → i < na → ∀ x y, a[i]? = some x → b[nb - 1]? = some y → r x y = false) → JH r a b (out ++ (a.extract (na - k) na).reverse) (na - k) nb
  | 0, _, _ => by
    have e : a.extract (na - 0) na = #[] := by simp; omega
    rw [e]
    simpa using J
  | k + 1, hk, h => by
    have la := J.la
    obtain ⟨x, hx⟩ := arr_get (xs := a) (i := na - (k + 1)) (by omega)
    have ih := JH.runA C J k (by omega) fun i h1 h2 => h i (by omega) h2
    have e1 : na - k - 1 = na - (k + 1) := by omega
    have := ih.pushA C (x := x) (by omega) (by rw [e1]; exact hx) fun _ y hy => h (na - (k + 1)) (Nat.le_refl _) (by omega) x y hx hy
    rw [e1] at this
    rw [ext_rev hx (by omega) la, show na - (k + 1) + 1 = na - k by omega, Array.append_push]
    exact this
theorem JH.runB (C : MCx r a b) (J : JH r a b out na nb) : ∀ k, k ≤ nb → (∀ i, nb - k ≤ i → i < nb → ∀ y x, b[i]? = some y → a[na - 1]? = some x → r y x = false) → JH r a b (out ++ (b.extract (nb - k) nb).reverse) na (nb - k)
  | 0, _, _ => by
    have e : b.extract (nb - 0) nb = #[] := by simp; omega
    rw [e]
    simpa using J
  | k + 1, hk, h => by
    have lb := J.lb
    obtain ⟨y, hy⟩ := arr_get (xs := b) (i := nb - (k + 1)) (by omega)
    have ih := JH.runB C J k (by omega) fun i h1 h2 => h i (by omega) h2
    have e1 : nb - k - 1 = nb - (k + 1) := by omega
    have := ih.pushB C (y := y) (by omega) (by rw [e1]; exact hy) fun _ x hx => h (nb - (k + 1)) (Nat.le_refl _) (by omega) y x hy hx
    rw [e1] at this
    rw [ext_rev hy (by omega) lb, show nb - (k + 1) + 1 = nb - k by omega, Array.append_push]
    exact this
theorem JH.runA' (C : MCx r a b) (J : JH r a b out na nb) {m : Nat} (hm : m ≤ na) (h : ∀ i, m ≤ i → i < na → ∀ x y, a[i]? = some x → b[nb - 1]? = some y → r x y = false) : JH r a b (out ++ (a.extract m na).reverse) m nb := by
  have := J.runA C (na - m) (by omega) (fun i h1 h2 => h i (by omega) h2)
  rw [show na - (na - m) = m by omega] at this
  exact this
theorem JH.runB' (C : MCx r a b) (J : JH r a b out na nb) {m : Nat} (hm : m ≤ nb) (h : ∀ i, m ≤ i → i < nb → ∀ y x, b[i]? = some y → a[na - 1]? = some x → r y x = false) : JH r a b (out ++ (b.extract m nb).reverse) na m := by
  have := J.runB C (nb - m) (by omega) (fun i h1 h2 => h i (by omega) h2)
  rw [show nb - (nb - m) = m by omega] at this
  exact this
theorem JH.done (C : MCx r a b) (J : JH r a b out na nb) (h : na = 0 ∨ nb = 0) : Good r a b (a.extract 0 na ++ b.extract 0 nb ++ out.reverse) := by
  unfold Good
  rw [Array.toList_append, Array.toList_append, ext_0, ext_0, Array.toList_reverse]
  refine ⟨J.perm, ?_⟩
  have pa : Pw r (a.toList.take na) := List.Pairwise.sublist (List.take_sublist _ _) C.sa
  have pb : Pw r (b.toList.take nb) := List.Pairwise.sublist (List.take_sublist _ _) C.sb
  refine List.pairwise_append.mpr ⟨?_, J.srt, fun y hy x hx => J.bel y hy x (List.mem_reverse.mp hx)⟩
  rcases h with h | h
  · rw [h, List.take_zero, List.nil_append]
    exact pb
  · rw [h, List.take_zero, List.append_nil]
    exact pa
theorem JH.first (C : MCx r a b) (J : JH r a b out na nb) (h : nb = 1) (h0 : ∀ y, b[0]? = some y → ∀ x ∈ a.toList, r x y = false) : Good r a b (b.extract 0 nb ++ a.extract 0 na ++ out.reverse) := by
  have lb := J.lb
  subst h
  unfold Good
  obtain ⟨y, hy⟩ := arr_get (xs := b) (i := 0) (by omega)
  have et : b.toList.take 1 = [y] := by rw [show (1 : Nat) = 0 + 1 from rfl, take_at (arr_at hy)]; rfl
  rw [Array.toList_append, Array.toList_append, ext_0, ext_0, Array.toList_reverse, et]
  have P := J.perm
  have B := J.bel
  rw [et] at P B
  have pa : Pw r (a.toList.take na) := List.Pairwise.sublist (List.take_sublist _ _) C.sa
  refine ⟨List.Perm.trans (List.Perm.append_right _ List.perm_append_comm) P, ?_⟩
  refine List.pairwise_append.mpr ⟨?_, J.srt, fun z hz x hx => B z ?_ x (List.mem_reverse.mp hx)⟩
  · refine List.pairwise_cons.mpr ⟨fun z hz => h0 y hy z (List.mem_of_mem_take hz), pa⟩
  · rcases List.mem_append.mp hz with hz | hz
    · exact List.mem_append_right _ hz
    · exact List.mem_append_left _ hz
end
section
variable {prog : Program} {w : World} {A : Around} {E : Value → Shared → Prop} {s : Shared} {κ : SortKind} {a₀ : Array Keyed} {r : Keyed → Keyed → Bool}
theorem wpS_mergeHi {a b : Array Keyed} {Q : Array Keyed → SortSt → Prop} {st : SortSt} (hc : Cmp prog w A E s κ a₀ r) (hk : kindOf st = κ) (C : MCx r a b) (ma : ∀ x ∈ a.toList, x ∈ a₀.toList) (mb : ∀ x ∈ b.toList, x ∈ a₀.toList) (na0 : 1 ≤ a.size) (nb0 : 1 ≤ b.size)
    (h0 : ∀ y, b[0]? = some y → ∀ x ∈ a.toList, r x y = false) (hl : ∀ x, a[a.size - 1]? = some x → ∀ y ∈ b.toList, r x y = false)
    (h : ∀ res st', SG st st' → Good r a b res → Q res st') : wpS (model prog w) A E s (mergeHi' a b) Q st := by
  show wpS (model prog w) A E s (_ >>= _) _ _
  dsimp only
  refine wpS_bind (wpS_lift (wpAny_rule ⟨rfl, ?_⟩))
  obtain ⟨x0, hx0⟩ := arr_get (xs := a) (i := a.size - 1) (by omega)
  refine wpS_bind (wpS_elem hx0 ?_)
  have J0 : JH r a b #[x0] (a.size - 1) b.size := by
    have e : JH r a b #[] a.size b.size := ⟨Nat.le_refl _, Nat.le_refl _, by simp [← Array.length_toList], .nil, fun y hy x hx => by cases hx⟩
    exact e.pushA C na0 hx0 fun _ y hy => hl x0 hx0 y (mem_arr hy)
  by_cases hz0 : (a.size - 1 == 0) = true
  · rw [if_pos hz0]
    exact wpS_pure (h _ _ (SG.refl _) (J0.done C (.inl (beq_iff_eq.mp hz0))))
  rw [if_neg hz0]
  by_cases hz1 : (b.size == 1) = true
  · rw [if_pos hz1]
    exact wpS_pure (h _ _ (SG.refl _) (J0.first C (beq_iff_eq.mp hz1) h0))
  rw [if_neg hz1]
  have hz0' : ¬ (a.size - 1 = 0) := fun z => hz0 (beq_iff_eq.mpr z)
  have hz1' : ¬ (b.size = 1) := fun z => hz1 (beq_iff_eq.mpr z)
  refine wpS_bind (wpS_get ?_)
  refine wpS_bind (wpS_mono (wpS_forRange (I := fun x c st1 => SG st st1 ∧ ∃ na nb out g, c = (none, na, nb, out, g) ∧ JH r a b out na nb ∧ 1 ≤ na ∧ 2 ≤ nb ∧ na + nb + x + 1 ≤ a.size + b.size) (Q := fun c st1 => SG st st1 ∧ ∃ res, c.fst = some res ∧ Good r a b res) ?step ?fin ⟨SG.refl _, _, _, _, _, rfl, J0, by omega, by omega, by omega⟩) ?post)
  case post =>
    rintro c st1 ⟨sg1, res, ec, gd⟩
    rw [ec]
    exact wpS_pure (h res st1 sg1 gd)
  case fin =>
    rintro c st1 ⟨_, na, nb, out, g, _, _, i1, i2, i3⟩
    rw [Nat.max_eq_right (Nat.zero_le _)] at i3
    omega
  case step =>
    rintro x c st1 _ hx ⟨sg1, na, nb, out, g, rfl, J, i1, i2, i3⟩
    dsimp only
    have hk1 : kindOf st1 = κ := by rw [sg1.1]; exact hk
    -- one pair at a time
    refine wpS_bind (wpS_mono (wpS_forRange (I := fun y c st2 => st2 = st1 ∧ ∃ na' nb' out' ac bc, c = (none, na', nb', out', ac, bc) ∧ JH r a b out' na' nb' ∧ 1 ≤ na' ∧ 2 ≤ nb' ∧ na' + nb' + y ≤ na + nb)
      (Q := fun c st2 => st2 = st1 ∧ ((∃ res, c.fst = some res ∧ Good r a b res) ∨ ∃ na' nb' out' ac bc, c = (none, na', nb', out', ac, bc) ∧ JH r a b out' na' nb' ∧ 1 ≤ na' ∧ 2 ≤ nb' ∧ na' + nb' + 1 ≤ na + nb)) ?_ ?_ ⟨rfl, _, _, _, _, _, rfl, J, i1, i2, by omega⟩) ?_)
    · rintro y c st2 _ hy ⟨rfl, na', nb', out', ac, bc, rfl, J', j1, j2, j3⟩
      dsimp only
      have la := J'.la
      have lb := J'.lb
      obtain ⟨yb, hyb⟩ := arr_get (xs := b) (i := nb' - 1) (by omega)
      obtain ⟨xa, hxa⟩ := arr_get (xs := a) (i := na' - 1) (by omega)
      refine wpS_bind (wpS_elem hyb (wpS_bind (wpS_elem hxa (wpS_bind (hc _ _ _ _ (mb _ (mem_arr hyb)) (ma _ (mem_arr hxa)) hk1 ?_)))))
      dsimp only
      cases hr : r yb xa with
      | true =>
        rw [if_pos rfl]
        refine wpS_bind (wpS_elem hxa ?_)
        have J2 := J'.pushA C j1 hxa (fun _ y hy => by rw [hyb] at hy; cases hy; exact C.o.asy _ _ hr)
        by_cases hz : (na' - 1 == 0) = true
        · rw [if_pos hz]
          exact wpS_pure ⟨rfl, .inl ⟨_, rfl, J2.done C (.inl (beq_iff_eq.mp hz))⟩⟩
        rw [if_neg hz]
        have hz' : ¬ (na' - 1 = 0) := fun z => hz (beq_iff_eq.mpr z)
        by_cases hg : ac + 1 ≥ g
        · rw [if_pos hg]
          exact wpS_pure ⟨rfl, .inr ⟨_, _, _, _, _, rfl, J2, by omega, by omega, by omega⟩⟩
        · rw [if_neg hg]
          exact wpS_pure ⟨rfl, _, _, _, _, _, rfl, J2, by omega, by omega, by omega⟩
      | false =>
        rw [if_neg Bool.false_ne_true]
        refine wpS_bind (wpS_elem hyb ?_)
        have J2 := J'.pushB C (by omega) hyb (fun _ x hx => by rw [hxa] at hx; cases hx; exact hr)
        by_cases hz : (nb' - 1 == 1) = true
        · rw [if_pos hz]
          exact wpS_pure ⟨rfl, .inl ⟨_, rfl, J2.first C (beq_iff_eq.mp hz) h0⟩⟩
        rw [if_neg hz]
        have hz' : ¬ (nb' - 1 = 1) := fun z => hz (beq_iff_eq.mpr z)
        by_cases hg : bc + 1 ≥ g
        · rw [if_pos hg]
          exact wpS_pure ⟨rfl, .inr ⟨_, _, _, _, _, rfl, J2, by omega, by omega, by omega⟩⟩
        · rw [if_neg hg]
          exact wpS_pure ⟨rfl, _, _, _, _, _, rfl, J2, by omega, by omega, by omega⟩
    · rintro c st2 ⟨rfl, na', nb', out', ac, bc, rfl, J', j1, j2, j3⟩
      rw [Nat.max_eq_right (Nat.zero_le _)] at j3
      have la := J.la
      have lb := J.lb
      omega
    rintro c st2 ⟨rfl, ⟨res, ec, gd⟩ | ⟨na', nb', out', ac, bc, rfl, J', j1, j2, j3⟩⟩
    · rw [ec]
      exact wpS_pure ⟨sg1, res, rfl, gd⟩
    dsimp only
    refine wpS_bind (wpS_lift (wpAny_rule ⟨rfl, ?_⟩))
    -- many at a time
    refine wpS_bind (wpS_mono (wpS_forRange (I := fun y c st2 => SG st st2 ∧ ∃ na nb out g ac bc, c = (none, na, nb, out, g, ac, bc) ∧ JH r a b out na nb ∧ 1 ≤ na ∧ 2 ≤ nb ∧ na + nb + y ≤ na' + nb')
      (Q := fun c st2 => SG st st2 ∧ ((∃ res, c.fst = some res ∧ Good r a b res) ∨ ∃ na nb out g ac bc, c = (none, na, nb, out, g, ac, bc) ∧ JH r a b out na nb ∧ 1 ≤ na ∧ 2 ≤ nb ∧ na + nb ≤ na' + nb')) ?_ ?_ ⟨sg1, _, _, _, _, _, _, rfl, J', j1, j2, by omega⟩) ?_)
    · clear J i1 i2 hk1
      rintro y c st2 _ hy ⟨sg2, na2, nb2, out, g, ac, bc, rfl, J, i1, i2, i4⟩
      dsimp only
      revert J i1 i2 i4
      clear j3 i3
      generalize na2 = na
      generalize nb2 = nb
      intro J i1 i2 i4
      have la := J.la
      have lb := J.lb
      by_cases hg1 : g > 1
      · rw [if_pos hg1]
        refine wpS_bind (wpS_setG ?_)
        generalize hg3 : SortSt.mk' _ _ _ _ _ = st3
        have sg3 : SG st st3 := by rw [← hg3]; exact sg2
        have hk3 : kindOf st3 = κ := by rw [sg3.1]; exact hk
        obtain ⟨y2, hy2⟩ := arr_get (xs := b) (i := nb - 1) (by omega)
        refine wpS_bind (wpS_elem hy2 ?_)
        refine wpS_bind (wpS_gallop hc hk3 (fun i => match a[0 + i]? with | some x => !r y2 x | none => false) (fun i hi => ?_) (mb y2 (mem_arr hy2)) (fun i j hij hj hp => ?_) (by omega) fun at_ kn klo khi => ?_)
        · obtain ⟨x, hx⟩ := arr_get (xs := a) (i := 0 + i) (by omega)
          refine ⟨x, hx, ma x (mem_arr hx), ?_⟩
          try dsimp only
          rw [hx]
          rfl
        · obtain ⟨xj, hxj⟩ := arr_get (xs := a) (i := 0 + j) (by omega)
          obtain ⟨xi, hxi⟩ := arr_get (xs := a) (i := 0 + i) (by omega)
          try dsimp only at hp ⊢
          rw [hxj] at hp
          rw [hxi]
          rw [Bool.not_eq_true'] at hp ⊢
          exact C.o.ntr _ _ _ (pw_le C.o C.sa (arr_at hxi) (arr_at hxj) (by omega)) hp
        try dsimp only
        by_cases hk0 : na - at_ > 0
        · rw [if_pos hk0]
          have J1 := J.runA' C (m := at_) (by omega) (fun i hi1 hi2 x y hx hy => by
            rw [hy2] at hy
            cases hy
            have := khi i hi1 hi2
            try dsimp only at this
            rw [Nat.zero_add, hx, Bool.not_eq_false'] at this
            exact C.o.asy _ _ this)
          by_cases hz0 : (at_ == 0) = true
          · rw [if_pos hz0]
            exact wpS_pure ⟨sg3, .inl ⟨_, rfl, J1.done C (.inl (beq_iff_eq.mp hz0))⟩⟩
          rw [if_neg hz0]
          have hz0' : ¬ (at_ = 0) := fun z => hz0 (beq_iff_eq.mpr z)
          refine wpS_bind (wpS_elem hy2 ?_)
          have J2 := J1.pushB C (by omega) hy2 (fun _ x hx => by
            have := klo (at_ - 1) (by omega)
            try dsimp only at this
            rw [Nat.zero_add, hx, Bool.not_eq_true'] at this
            exact this)
          by_cases hz : (nb - 1 == 1) = true
          · rw [if_pos hz]
            exact wpS_pure ⟨sg3, .inl ⟨_, rfl, J2.first C (beq_iff_eq.mp hz) h0⟩⟩
          rw [if_neg hz]
          have hz' : ¬ (nb - 1 = 1) := fun z => hz (beq_iff_eq.mpr z)
          obtain ⟨x3, hx3⟩ := arr_get (xs := a) (i := at_ - 1) (by omega)
          refine wpS_bind (wpS_elem hx3 ?_)
          refine wpS_bind (wpS_gallop hc hk3 (fun i => match b[0 + i]? with | some y => r y x3 | none => false) (fun i hi => ?_) (ma x3 (mem_arr hx3)) (fun i j hij hj hp => ?_) (by omega) fun k1 k1n klo1 khi1 => ?_)
          · obtain ⟨y, hy⟩ := arr_get (xs := b) (i := 0 + i) (by omega)
            refine ⟨y, hy, mb y (mem_arr hy), ?_⟩
            try dsimp only
            rw [hy]
            rfl
          · obtain ⟨yj, hyj⟩ := arr_get (xs := b) (i := 0 + j) (by omega)
            obtain ⟨yi, hyi⟩ := arr_get (xs := b) (i := 0 + i) (by omega)
            try dsimp only at hp ⊢
            rw [hyj] at hp
            rw [hyi]
            exact lt_le C.o hp (pw_le C.o C.sb (arr_at hyi) (arr_at hyj) (by omega))
          try dsimp only
          by_cases hk1 : nb - 1 - k1 > 0
          · rw [if_pos hk1]
            have J3 := J2.runB' C (m := k1) (by omega) (fun i hi1 hi2 y x hy hx => by
              rw [hx3] at hx
              cases hx
              have := khi1 i hi1 hi2
              try dsimp only at this
              rw [Nat.zero_add, hy] at this
              exact this)
            by_cases hz2 : (k1 == 1) = true
            · rw [if_pos hz2]
              exact wpS_pure ⟨sg3, .inl ⟨_, rfl, J3.first C (beq_iff_eq.mp hz2) h0⟩⟩
            rw [if_neg hz2]
            by_cases hz3 : (k1 == 0) = true
            · rw [if_pos hz3]
              exact wpS_pure ⟨sg3, .inl ⟨_, rfl, J3.done C (.inr (beq_iff_eq.mp hz3))⟩⟩
            rw [if_neg hz3]
            have hz2' : ¬ (k1 = 1) := fun z => hz2 (beq_iff_eq.mpr z)
            have hz3' : ¬ (k1 = 0) := fun z => hz3 (beq_iff_eq.mpr z)
            obtain ⟨x4, hx4⟩ := arr_get (xs := a) (i := at_ - 1) (by omega)
            refine wpS_bind (wpS_elem hx4 ?_)
            have J4 := J3.pushA C (by omega) hx4 (fun _ y hy => by
              have := klo1 (k1 - 1) (by omega)
              try dsimp only at this
              rw [Nat.zero_add, hy] at this
              have e : x4 = x3 := by rw [hx3] at hx4; exact (Option.some.inj hx4).symm
              rw [e]
              exact C.o.asy _ _ this)
            by_cases hz : (at_ - 1 == 0) = true
            · rw [if_pos hz]
              exact wpS_pure ⟨sg3, .inl ⟨_, rfl, J4.done C (.inl (by have := beq_iff_eq.mp hz; omega))⟩⟩
            · rw [if_neg hz]
              have hz' : ¬ (at_ - 1 = 0) := fun z => hz (beq_iff_eq.mpr z)
              by_cases h7 : (decide (na - at_ < 7) && decide (nb - 1 - k1 < 7)) = true
              · rw [if_pos h7]
                exact wpS_pure ⟨sg3, .inr ⟨_, _, _, _, _, _, rfl, J4, by omega, by omega, by omega⟩⟩
              · rw [if_neg h7]
                exact wpS_pure ⟨sg3, _, _, _, _, _, _, rfl, J4, by omega, by omega, by omega⟩
          · rw [if_neg hk1]
            obtain rfl : k1 = nb - 1 := by omega
            obtain ⟨x4, hx4⟩ := arr_get (xs := a) (i := at_ - 1) (by omega)
            refine wpS_bind (wpS_elem hx4 ?_)
            have J4 := J2.pushA C (by omega) hx4 (fun _ y hy => by
              have := klo1 (nb - 1 - 1) (by omega)
              try dsimp only at this
              rw [Nat.zero_add, hy] at this
              have e : x4 = x3 := by rw [hx3] at hx4; exact (Option.some.inj hx4).symm
              rw [e]
              exact C.o.asy _ _ this)
            by_cases hz : (at_ - 1 == 0) = true
            · rw [if_pos hz]
              exact wpS_pure ⟨sg3, .inl ⟨_, rfl, J4.done C (.inl (by have := beq_iff_eq.mp hz; omega))⟩⟩
            · rw [if_neg hz]
              have hz' : ¬ (at_ - 1 = 0) := fun z => hz (beq_iff_eq.mpr z)
              by_cases h7 : (decide (na - at_ < 7) && decide (nb - 1 - (nb - 1) < 7)) = true
              · rw [if_pos h7]
                exact wpS_pure ⟨sg3, .inr ⟨_, _, _, _, _, _, rfl, J4, by omega, by omega, by omega⟩⟩
              · rw [if_neg h7]
                exact wpS_pure ⟨sg3, _, _, _, _, _, _, rfl, J4, by omega, by omega, by omega⟩
        · rw [if_neg hk0]
          obtain rfl : at_ = na := by omega
          refine wpS_bind (wpS_elem hy2 ?_)
          have J2 := J.pushB C (by omega) hy2 (fun _ x hx => by
            have := klo (at_ - 1) (by omega)
            try dsimp only at this
            rw [Nat.zero_add, hx, Bool.not_eq_true'] at this
            exact this)
          by_cases hz : (nb - 1 == 1) = true
          · rw [if_pos hz]
            exact wpS_pure ⟨sg3, .inl ⟨_, rfl, J2.first C (beq_iff_eq.mp hz) h0⟩⟩
          rw [if_neg hz]
          have hz' : ¬ (nb - 1 = 1) := fun z => hz (beq_iff_eq.mpr z)
          obtain ⟨x3, hx3⟩ := arr_get (xs := a) (i := at_ - 1) (by omega)
          refine wpS_bind (wpS_elem hx3 ?_)
          refine wpS_bind (wpS_gallop hc hk3 (fun i => match b[0 + i]? with | some y => r y x3 | none => false) (fun i hi => ?_) (ma x3 (mem_arr hx3)) (fun i j hij hj hp => ?_) (by omega) fun k1 k1n klo1 khi1 => ?_)
          · obtain ⟨y, hy⟩ := arr_get (xs := b) (i := 0 + i) (by omega)
            refine ⟨y, hy, mb y (mem_arr hy), ?_⟩
            try dsimp only
            rw [hy]
            rfl
          · obtain ⟨yj, hyj⟩ := arr_get (xs := b) (i := 0 + j) (by omega)
            obtain ⟨yi, hyi⟩ := arr_get (xs := b) (i := 0 + i) (by omega)
            try dsimp only at hp ⊢
            rw [hyj] at hp
            rw [hyi]
            exact lt_le C.o hp (pw_le C.o C.sb (arr_at hyi) (arr_at hyj) (by omega))
          try dsimp only
          by_cases hk1 : nb - 1 - k1 > 0
          · rw [if_pos hk1]
            have J3 := J2.runB' C (m := k1) (by omega) (fun i hi1 hi2 y x hy hx => by
              rw [hx3] at hx
              cases hx
              have := khi1 i hi1 hi2
              try dsimp only at this
              rw [Nat.zero_add, hy] at this
              exact this)
            by_cases hz2 : (k1 == 1) = true
            · rw [if_pos hz2]
              exact wpS_pure ⟨sg3, .inl ⟨_, rfl, J3.first C (beq_iff_eq.mp hz2) h0⟩⟩
            rw [if_neg hz2]
            by_cases hz3 : (k1 == 0) = true
            · rw [if_pos hz3]
              exact wpS_pure ⟨sg3, .inl ⟨_, rfl, J3.done C (.inr (beq_iff_eq.mp hz3))⟩⟩
            rw [if_neg hz3]
            have hz2' : ¬ (k1 = 1) := fun z => hz2 (beq_iff_eq.mpr z)
            have hz3' : ¬ (k1 = 0) := fun z => hz3 (beq_iff_eq.mpr z)
            obtain ⟨x4, hx4⟩ := arr_get (xs := a) (i := at_ - 1) (by omega)
            refine wpS_bind (wpS_elem hx4 ?_)
            have J4 := J3.pushA C (by omega) hx4 (fun _ y hy => by
              have := klo1 (k1 - 1) (by omega)
              try dsimp only at this
              rw [Nat.zero_add, hy] at this
              have e : x4 = x3 := by rw [hx3] at hx4; exact (Option.some.inj hx4).symm
              rw [e]
              exact C.o.asy _ _ this)
            by_cases hz : (at_ - 1 == 0) = true
            · rw [if_pos hz]
              exact wpS_pure ⟨sg3, .inl ⟨_, rfl, J4.done C (.inl (by have := beq_iff_eq.mp hz; omega))⟩⟩
            · rw [if_neg hz]
              have hz' : ¬ (at_ - 1 = 0) := fun z => hz (beq_iff_eq.mpr z)
              by_cases h7 : (decide (at_ - at_ < 7) && decide (nb - 1 - k1 < 7)) = true
              · rw [if_pos h7]
                exact wpS_pure ⟨sg3, .inr ⟨_, _, _, _, _, _, rfl, J4, by omega, by omega, by omega⟩⟩
              · rw [if_neg h7]
                exact wpS_pure ⟨sg3, _, _, _, _, _, _, rfl, J4, by omega, by omega, by omega⟩
          · rw [if_neg hk1]
            obtain rfl : k1 = nb - 1 := by omega
            obtain ⟨x4, hx4⟩ := arr_get (xs := a) (i := at_ - 1) (by omega)
            refine wpS_bind (wpS_elem hx4 ?_)
            have J4 := J2.pushA C (by omega) hx4 (fun _ y hy => by
              have := klo1 (nb - 1 - 1) (by omega)
              try dsimp only at this
              rw [Nat.zero_add, hy] at this
              have e : x4 = x3 := by rw [hx3] at hx4; exact (Option.some.inj hx4).symm
              rw [e]
              exact C.o.asy _ _ this)
            by_cases hz : (at_ - 1 == 0) = true
            · rw [if_pos hz]
              exact wpS_pure ⟨sg3, .inl ⟨_, rfl, J4.done C (.inl (by have := beq_iff_eq.mp hz; omega))⟩⟩
            · rw [if_neg hz]
              have hz' : ¬ (at_ - 1 = 0) := fun z => hz (beq_iff_eq.mpr z)
              by_cases h7 : (decide (at_ - at_ < 7) && decide (nb - 1 - (nb - 1) < 7)) = true
              · rw [if_pos h7]
                exact wpS_pure ⟨sg3, .inr ⟨_, _, _, _, _, _, rfl, J4, by omega, by omega, by omega⟩⟩
              · rw [if_neg h7]
                exact wpS_pure ⟨sg3, _, _, _, _, _, _, rfl, J4, by omega, by omega, by omega⟩
      · rw [if_neg hg1]
        refine wpS_bind (wpS_setG ?_)
        generalize hg3 : SortSt.mk' _ _ _ _ _ = st3
        have sg3 : SG st st3 := by rw [← hg3]; exact sg2
        have hk3 : kindOf st3 = κ := by rw [sg3.1]; exact hk
        obtain ⟨y2, hy2⟩ := arr_get (xs := b) (i := nb - 1) (by omega)
        refine wpS_bind (wpS_elem hy2 ?_)
        refine wpS_bind (wpS_gallop hc hk3 (fun i => match a[0 + i]? with | some x => !r y2 x | none => false) (fun i hi => ?_) (mb y2 (mem_arr hy2)) (fun i j hij hj hp => ?_) (by omega) fun at_ kn klo khi => ?_)
        · obtain ⟨x, hx⟩ := arr_get (xs := a) (i := 0 + i) (by omega)
          refine ⟨x, hx, ma x (mem_arr hx), ?_⟩
          try dsimp only
          rw [hx]
          rfl
        · obtain ⟨xj, hxj⟩ := arr_get (xs := a) (i := 0 + j) (by omega)
          obtain ⟨xi, hxi⟩ := arr_get (xs := a) (i := 0 + i) (by omega)
          try dsimp only at hp ⊢
          rw [hxj] at hp
          rw [hxi]
          rw [Bool.not_eq_true'] at hp ⊢
          exact C.o.ntr _ _ _ (pw_le C.o C.sa (arr_at hxi) (arr_at hxj) (by omega)) hp
        try dsimp only
        by_cases hk0 : na - at_ > 0
        · rw [if_pos hk0]
          have J1 := J.runA' C (m := at_) (by omega) (fun i hi1 hi2 x y hx hy => by
            rw [hy2] at hy
            cases hy
            have := khi i hi1 hi2
            try dsimp only at this
            rw [Nat.zero_add, hx, Bool.not_eq_false'] at this
            exact C.o.asy _ _ this)
          by_cases hz0 : (at_ == 0) = true
          · rw [if_pos hz0]
            exact wpS_pure ⟨sg3, .inl ⟨_, rfl, J1.done C (.inl (beq_iff_eq.mp hz0))⟩⟩
          rw [if_neg hz0]
          have hz0' : ¬ (at_ = 0) := fun z => hz0 (beq_iff_eq.mpr z)
          refine wpS_bind (wpS_elem hy2 ?_)
          have J2 := J1.pushB C (by omega) hy2 (fun _ x hx => by
            have := klo (at_ - 1) (by omega)
            try dsimp only at this
            rw [Nat.zero_add, hx, Bool.not_eq_true'] at this
            exact this)
          by_cases hz : (nb - 1 == 1) = true
          · rw [if_pos hz]
            exact wpS_pure ⟨sg3, .inl ⟨_, rfl, J2.first C (beq_iff_eq.mp hz) h0⟩⟩
          rw [if_neg hz]
          have hz' : ¬ (nb - 1 = 1) := fun z => hz (beq_iff_eq.mpr z)
          obtain ⟨x3, hx3⟩ := arr_get (xs := a) (i := at_ - 1) (by omega)
          refine wpS_bind (wpS_elem hx3 ?_)
          refine wpS_bind (wpS_gallop hc hk3 (fun i => match b[0 + i]? with | some y => r y x3 | none => false) (fun i hi => ?_) (ma x3 (mem_arr hx3)) (fun i j hij hj hp => ?_) (by omega) fun k1 k1n klo1 khi1 => ?_)
          · obtain ⟨y, hy⟩ := arr_get (xs := b) (i := 0 + i) (by omega)
            refine ⟨y, hy, mb y (mem_arr hy), ?_⟩
            try dsimp only
            rw [hy]
            rfl
          · obtain ⟨yj, hyj⟩ := arr_get (xs := b) (i := 0 + j) (by omega)
            obtain ⟨yi, hyi⟩ := arr_get (xs := b) (i := 0 + i) (by omega)
            try dsimp only at hp ⊢
            rw [hyj] at hp
            rw [hyi]
            exact lt_le C.o hp (pw_le C.o C.sb (arr_at hyi) (arr_at hyj) (by omega))
          try dsimp only
          by_cases hk1 : nb - 1 - k1 > 0
          · rw [if_pos hk1]
            have J3 := J2.runB' C (m := k1) (by omega) (fun i hi1 hi2 y x hy hx => by
              rw [hx3] at hx
              cases hx
              have := khi1 i hi1 hi2
              try dsimp only at this
              rw [Nat.zero_add, hy] at this
              exact this)
            by_cases hz2 : (k1 == 1) = true
            · rw [if_pos hz2]
              exact wpS_pure ⟨sg3, .inl ⟨_, rfl, J3.first C (beq_iff_eq.mp hz2) h0⟩⟩
            rw [if_neg hz2]
            by_cases hz3 : (k1 == 0) = true
            · rw [if_pos hz3]
              exact wpS_pure ⟨sg3, .inl ⟨_, rfl, J3.done C (.inr (beq_iff_eq.mp hz3))⟩⟩
            rw [if_neg hz3]
            have hz2' : ¬ (k1 = 1) := fun z => hz2 (beq_iff_eq.mpr z)
            have hz3' : ¬ (k1 = 0) := fun z => hz3 (beq_iff_eq.mpr z)
            obtain ⟨x4, hx4⟩ := arr_get (xs := a) (i := at_ - 1) (by omega)
            refine wpS_bind (wpS_elem hx4 ?_)
            have J4 := J3.pushA C (by omega) hx4 (fun _ y hy => by
              have := klo1 (k1 - 1) (by omega)
              try dsimp only at this
              rw [Nat.zero_add, hy] at this
              have e : x4 = x3 := by rw [hx3] at hx4; exact (Option.some.inj hx4).symm
              rw [e]
              exact C.o.asy _ _ this)
            by_cases hz : (at_ - 1 == 0) = true
            · rw [if_pos hz]
              exact wpS_pure ⟨sg3, .inl ⟨_, rfl, J4.done C (.inl (by have := beq_iff_eq.mp hz; omega))⟩⟩
            · rw [if_neg hz]
              have hz' : ¬ (at_ - 1 = 0) := fun z => hz (beq_iff_eq.mpr z)
              by_cases h7 : (decide (na - at_ < 7) && decide (nb - 1 - k1 < 7)) = true
              · rw [if_pos h7]
                exact wpS_pure ⟨sg3, .inr ⟨_, _, _, _, _, _, rfl, J4, by omega, by omega, by omega⟩⟩
              · rw [if_neg h7]
                exact wpS_pure ⟨sg3, _, _, _, _, _, _, rfl, J4, by omega, by omega, by omega⟩
          · rw [if_neg hk1]
            obtain rfl : k1 = nb - 1 := by omega
            obtain ⟨x4, hx4⟩ := arr_get (xs := a) (i := at_ - 1) (by omega)
            refine wpS_bind (wpS_elem hx4 ?_)
            have J4 := J2.pushA C (by omega) hx4 (fun _ y hy => by
              have := klo1 (nb - 1 - 1) (by omega)
              try dsimp only at this
              rw [Nat.zero_add, hy] at this
              have e : x4 = x3 := by rw [hx3] at hx4; exact (Option.some.inj hx4).symm
              rw [e]
              exact C.o.asy _ _ this)
            by_cases hz : (at_ - 1 == 0) = true
            · rw [if_pos hz]
              exact wpS_pure ⟨sg3, .inl ⟨_, rfl, J4.done C (.inl (by have := beq_iff_eq.mp hz; omega))⟩⟩
            · rw [if_neg hz]
              have hz' : ¬ (at_ - 1 = 0) := fun z => hz (beq_iff_eq.mpr z)
              by_cases h7 : (decide (na - at_ < 7) && decide (nb - 1 - (nb - 1) < 7)) = true
              · rw [if_pos h7]
                exact wpS_pure ⟨sg3, .inr ⟨_, _, _, _, _, _, rfl, J4, by omega, by omega, by omega⟩⟩
              · rw [if_neg h7]
                exact wpS_pure ⟨sg3, _, _, _, _, _, _, rfl, J4, by omega, by omega, by omega⟩
        · rw [if_neg hk0]
          obtain rfl : at_ = na := by omega
          refine wpS_bind (wpS_elem hy2 ?_)
          have J2 := J.pushB C (by omega) hy2 (fun _ x hx => by
            have := klo (at_ - 1) (by omega)
            try dsimp only at this
            rw [Nat.zero_add, hx, Bool.not_eq_true'] at this
            exact this)
          by_cases hz : (nb - 1 == 1) = true
          · rw [if_pos hz]
            exact wpS_pure ⟨sg3, .inl ⟨_, rfl, J2.first C (beq_iff_eq.mp hz) h0⟩⟩
          rw [if_neg hz]
          have hz' : ¬ (nb - 1 = 1) := fun z => hz (beq_iff_eq.mpr z)
          obtain ⟨x3, hx3⟩ := arr_get (xs := a) (i := at_ - 1) (by omega)
          refine wpS_bind (wpS_elem hx3 ?_)
          refine wpS_bind (wpS_gallop hc hk3 (fun i => match b[0 + i]? with | some y => r y x3 | none => false) (fun i hi => ?_) (ma x3 (mem_arr hx3)) (fun i j hij hj hp => ?_) (by omega) fun k1 k1n klo1 khi1 => ?_)
          · obtain ⟨y, hy⟩ := arr_get (xs := b) (i := 0 + i) (by omega)
            refine ⟨y, hy, mb y (mem_arr hy), ?_⟩
            try dsimp only
            rw [hy]
            rfl
          · obtain ⟨yj, hyj⟩ := arr_get (xs := b) (i := 0 + j) (by omega)
            obtain ⟨yi, hyi⟩ := arr_get (xs := b) (i := 0 + i) (by omega)
            try dsimp only at hp ⊢
            rw [hyj] at hp
            rw [hyi]
            exact lt_le C.o hp (pw_le C.o C.sb (arr_at hyi) (arr_at hyj) (by omega))
          try dsimp only
          by_cases hk1 : nb - 1 - k1 > 0
          · rw [if_pos hk1]
            have J3 := J2.runB' C (m := k1) (by omega) (fun i hi1 hi2 y x hy hx => by
              rw [hx3] at hx
              cases hx
              have := khi1 i hi1 hi2
              try dsimp only at this
              rw [Nat.zero_add, hy] at this
              exact this)
            by_cases hz2 : (k1 == 1) = true
            · rw [if_pos hz2]
              exact wpS_pure ⟨sg3, .inl ⟨_, rfl, J3.first C (beq_iff_eq.mp hz2) h0⟩⟩
            rw [if_neg hz2]
            by_cases hz3 : (k1 == 0) = true
            · rw [if_pos hz3]
              exact wpS_pure ⟨sg3, .inl ⟨_, rfl, J3.done C (.inr (beq_iff_eq.mp hz3))⟩⟩
            rw [if_neg hz3]
            have hz2' : ¬ (k1 = 1) := fun z => hz2 (beq_iff_eq.mpr z)
            have hz3' : ¬ (k1 = 0) := fun z => hz3 (beq_iff_eq.mpr z)
            obtain ⟨x4, hx4⟩ := arr_get (xs := a) (i := at_ - 1) (by omega)
            refine wpS_bind (wpS_elem hx4 ?_)
            have J4 := J3.pushA C (by omega) hx4 (fun _ y hy => by
              have := klo1 (k1 - 1) (by omega)
              try dsimp only at this
              rw [Nat.zero_add, hy] at this
              have e : x4 = x3 := by rw [hx3] at hx4; exact (Option.some.inj hx4).symm
              rw [e]
              exact C.o.asy _ _ this)
            by_cases hz : (at_ - 1 == 0) = true
            · rw [if_pos hz]
              exact wpS_pure ⟨sg3, .inl ⟨_, rfl, J4.done C (.inl (by have := beq_iff_eq.mp hz; omega))⟩⟩
            · rw [if_neg hz]
              have hz' : ¬ (at_ - 1 = 0) := fun z => hz (beq_iff_eq.mpr z)
              by_cases h7 : (decide (at_ - at_ < 7) && decide (nb - 1 - k1 < 7)) = true
              · rw [if_pos h7]
                exact wpS_pure ⟨sg3, .inr ⟨_, _, _, _, _, _, rfl, J4, by omega, by omega, by omega⟩⟩
              · rw [if_neg h7]
                exact wpS_pure ⟨sg3, _, _, _, _, _, _, rfl, J4, by omega, by omega, by omega⟩
          · rw [if_neg hk1]
            obtain rfl : k1 = nb - 1 := by omega
            obtain ⟨x4, hx4⟩ := arr_get (xs := a) (i := at_ - 1) (by omega)
            refine wpS_bind (wpS_elem hx4 ?_)
            have J4 := J2.pushA C (by omega) hx4 (fun _ y hy => by
              have := klo1 (nb - 1 - 1) (by omega)
              try dsimp only at this
              rw [Nat.zero_add, hy] at this
              have e : x4 = x3 := by rw [hx3] at hx4; exact (Option.some.inj hx4).symm
              rw [e]
              exact C.o.asy _ _ this)
            by_cases hz : (at_ - 1 == 0) = true
            · rw [if_pos hz]
              exact wpS_pure ⟨sg3, .inl ⟨_, rfl, J4.done C (.inl (by have := beq_iff_eq.mp hz; omega))⟩⟩
            · rw [if_neg hz]
              have hz' : ¬ (at_ - 1 = 0) := fun z => hz (beq_iff_eq.mpr z)
              by_cases h7 : (decide (at_ - at_ < 7) && decide (nb - 1 - (nb - 1) < 7)) = true
              · rw [if_pos h7]
                exact wpS_pure ⟨sg3, .inr ⟨_, _, _, _, _, _, rfl, J4, by omega, by omega, by omega⟩⟩
              · rw [if_neg h7]
                exact wpS_pure ⟨sg3, _, _, _, _, _, _, rfl, J4, by omega, by omega, by omega⟩
    · rintro c st2 ⟨sg2, na, nb, out, g, ac, bc, rfl, J, i1, i2, i4⟩
      rw [Nat.max_eq_right (Nat.zero_le _)] at i4
      have la := J'.la
      have lb := J'.lb
      omega
    rintro c st2 ⟨sg2, ⟨res, ec, gd⟩ | ⟨na2, nb2, out, g, ac, bc, rfl, J2, k1, k2, k3⟩⟩
    · rw [ec]
      exact wpS_pure ⟨sg2, res, rfl, gd⟩
    dsimp only
    refine wpS_bind (wpS_setG (wpS_pure ⟨sg2, _, _, _, _, rfl, J2, k1, k2, by omega⟩))
end
end PyProof.Rows.Tim
-- part S4
set_option Elab.async false
set_option linter.all false
set_option maxRecDepth 100000
set_option maxHeartbeats 4000000
namespace PyProof.Rows.Tim
open PySem
/-- rising, falling, alike: from lo to hi -/
def SI (r : Keyed → Keyed → Bool) (xs : Array Keyed) (lo hi : Nat) : Prop := ∀ i j x y, lo ≤ i → i ≤ j → j < hi → xs[i]? = some x → xs[j]? = some y → r y x = false
def NI (r : Keyed → Keyed → Bool) (xs : Array Keyed) (lo hi : Nat) : Prop := ∀ i j x y, lo ≤ i → i ≤ j → j < hi → xs[i]? = some x → xs[j]? = some y → r x y = false
def EQ (r : Keyed → Keyed → Bool) (xs : Array Keyed) (lo hi : Nat) : Prop := ∀ i j x y, lo ≤ i → i < hi → lo ≤ j → j < hi → xs[i]? = some x → xs[j]? = some y → r x y = false
section
variable {r : Keyed → Keyed → Bool} {xs : Array Keyed} {lo hi : Nat}
theorem SI.one (o : Ord r) : SI r xs lo (lo + 1) := fun i j x y h1 h2 h3 hx hy => by
  obtain rfl : i = j := by omega
  rw [hx] at hy; cases hy; exact o.irr _
theorem NI.one (o : Ord r) : NI r xs lo (lo + 1) := fun i j x y h1 h2 h3 hx hy => by
  obtain rfl : i = j := by omega
  rw [hx] at hy; cases hy; exact o.irr _
theorem EQ.one (o : Ord r) : EQ r xs lo (lo + 1) := fun i j x y h1 h2 h3 h4 hx hy => by
  obtain rfl : i = j := by omega
  rw [hx] at hy; cases hy; exact o.irr _
theorem SI.snoc (o : Ord r) (h : SI r xs lo hi) {p q : Keyed} (hl : lo < hi) (hp : xs[hi - 1]? = some p) (hq : xs[hi]? = some q) (hr : r q p = false) : SI r xs lo (hi + 1) := fun i j x y h1 h2 h3 hx hy => by
  by_cases hj : j < hi
  · exact h i j x y h1 h2 hj hx hy
  · obtain rfl : j = hi := by omega
    rw [hq] at hy; cases hy
    by_cases hi' : i = j
    · subst hi'
      rw [hq] at hx; cases hx; exact o.irr _
    · exact o.ntr x p q (h i (j - 1) x p h1 (by omega) (by omega) hx hp) hr
theorem NI.snoc (o : Ord r) (h : NI r xs lo hi) {p q : Keyed} (hl : lo < hi) (hp : xs[hi - 1]? = some p) (hq : xs[hi]? = some q) (hr : r p q = false) : NI r xs lo (hi + 1) := fun i j x y h1 h2 h3 hx hy => by
  by_cases hj : j < hi
  · exact h i j x y h1 h2 hj hx hy
  · obtain rfl : j = hi := by omega
    rw [hq] at hy; cases hy
    by_cases hi' : i = j
    · subst hi'
      rw [hq] at hx; cases hx; exact o.irr _
    · exact o.ntr q p x hr (h i (j - 1) x p h1 (by omega) (by omega) hx hp)
theorem EQ.snoc (o : Ord r) (h : EQ r xs lo hi) {p q : Keyed} (hl : lo < hi) (hp : xs[hi - 1]? = some p) (hq : xs[hi]? = some q) (hr : r p q = false) (hr2 : r q p = false) : EQ r xs lo (hi + 1) := fun i j x y h1 h2 h3 h4 hx hy => by
  have one : ∀ i x, lo ≤ i → i < hi → xs[i]? = some x → r x q = false ∧ r q x = false := fun i x h1 h2 hx =>
    ⟨o.ntr q p x hr (h i (hi - 1) x p h1 h2 (by omega) (by omega) hx hp), o.ntr x p q (h (hi - 1) i p x (by omega) (by omega) h1 h2 hp hx) hr2⟩
  by_cases hj : j < hi
  · by_cases hi' : i < hi
    · exact h i j x y h1 hi' h3 hj hx hy
    · obtain rfl : i = hi := by omega
      rw [hq] at hx; cases hx
      exact (one j y h3 hj hy).2
  · obtain rfl : j = hi := by omega
    rw [hq] at hy; cases hy
    by_cases hi' : i < j
    · exact (one i x h1 hi' hx).1
    · obtain rfl : i = j := by omega
      rw [hq] at hx; cases hx
      exact o.irr _
abbrev mir (xs : Array Keyed) (i j : Nat) : Array Keyed := mirror xs i j ((j - i) / 2)
theorem mir_at (hh : hi ≤ xs.size) (k : Nat) : (mir xs lo hi)[k]? = if lo ≤ k ∧ k < hi then xs[lo + hi - 1 - k]? else xs[k]? := getElem?_mirror_all hh k
theorem SI.mir (h : SI r xs lo hi) (hh : hi ≤ xs.size) : NI r (mir xs lo hi) lo hi := fun i j x y h1 h2 h3 hx hy => by
  rw [mir_at hh, if_pos ⟨by omega, by omega⟩] at hx hy
  exact h _ _ y x (by omega) (by omega) (by omega) hy hx
theorem NI.mir (h : NI r xs lo hi) (hh : hi ≤ xs.size) : SI r (mir xs lo hi) lo hi := fun i j x y h1 h2 h3 hx hy => by
  rw [mir_at hh, if_pos ⟨by omega, by omega⟩] at hx hy
  exact h _ _ y x (by omega) (by omega) (by omega) hy hx
theorem NI.mirEq {m : Nat} (h : NI r xs lo hi) (e : EQ r xs m hi) (hm : lo ≤ m) (hh : hi ≤ xs.size) : NI r (PyProof.Rows.Tim.mir xs m hi) lo hi := fun i j x y h1 h2 h3 hx hy => by
  rw [mir_at hh] at hx hy
  by_cases hj : m ≤ j
  · rw [if_pos ⟨hj, h3⟩] at hy
    by_cases hi' : m ≤ i
    · rw [if_pos ⟨hi', by omega⟩] at hx
      exact e _ _ x y (by omega) (by omega) (by omega) (by omega) hx hy
    · rw [if_neg (by omega)] at hx
      exact h i _ x y h1 (by omega) (by omega) hx hy
  · rw [if_neg (by omega)] at hx hy
    exact h i j x y h1 h2 h3 hx hy
theorem mir_last {m : Nat} (hh : hi ≤ xs.size) (hm : m < hi) {p : Keyed} (hp : (mir xs m hi)[hi - 1]? = some p) : xs[m]? = some p := by
  rw [mir_at hh, if_pos ⟨by omega, by omega⟩, show m + hi - 1 - (hi - 1) = m by omega] at hp
  exact hp
theorem mir_out (hh : hi ≤ xs.size) {k : Nat} (h : k < lo ∨ hi ≤ k) : (mir xs lo hi)[k]? = xs[k]? := by rw [mir_at hh, if_neg (by omega)]
end
/-- a state whose array is another, the same below lo -/
structure CB (a₀ : Array Keyed) (κ : SortKind) (lo : Nat) (st st' : SortSt) : Prop where
  kind : kindOf st' = κ
  pend : pendingOf st' = pendingOf st
  fail : failedOf st' = failedOf st
  perm : (arrOf st').Perm a₀
  pre : ∀ k, k < lo → (arrOf st')[k]? = (arrOf st)[k]?
theorem CB.size {a₀ : Array Keyed} {κ : SortKind} {lo : Nat} {st st' : SortSt} (h : CB a₀ κ lo st st') : (arrOf st').size = a₀.size := h.perm.size_eq
theorem CB.mem {a₀ : Array Keyed} {κ : SortKind} {lo : Nat} {st st' : SortSt} (h : CB a₀ κ lo st st') {i : Nat} {x : Keyed} (hx : (arrOf st')[i]? = some x) : x ∈ a₀.toList := (Array.perm_iff_toList_perm.mp h.perm).mem_iff.mp (mem_arr hx)
theorem CB.rev {a₀ : Array Keyed} {κ : SortKind} {lo m hi : Nat} {st st' : SortSt} (h : CB a₀ κ lo st st') (hm : lo ≤ m) (hh : hi ≤ a₀.size) : CB a₀ κ lo st (setArr st' (mir (arrOf st') m hi)) :=
  ⟨h.kind, h.pend, h.fail, (mirror_perm _ _ _ _).trans h.perm, fun k hk => by
    show (mir (arrOf st') m hi)[k]? = _
    rw [mir_out (by rw [h.size]; exact hh) (.inl (by omega))]
    exact h.pre k hk⟩
section
variable {prog : Program} {w : World} {A : Around} {E : Value → Shared → Prop} {s : Shared} {κ : SortKind} {a₀ : Array Keyed} {r : Keyed → Keyed → Bool}
theorem wpS_ltX {st st' : SortSt} {lo i j : Nat} {x y : Keyed} {Q : Option Bool → SortSt → Prop} (hc : Cmp prog w A E s κ a₀ r) (B : CB a₀ κ lo st st') (hx : (arrOf st')[i]? = some x) (hy : (arrOf st')[j]? = some y) (h : Q (some (r x y)) st') : wpS (model prog w) A E s (ltAt' i j) Q st' := by
  rw [ltAt'_eq]
  exact wpS_bind (wpS_get (wpS_bind (wpS_elem hx (wpS_bind (wpS_elem hy (hc _ _ _ _ (B.mem hx) (B.mem hy) B.kind h))))))
theorem wpS_revX {st : SortSt} {i j : Nat} {Q : Unit → SortSt → Prop} (h : Q () (setArr st (mir (arrOf st) i j))) : wpS (model prog w) A E s (reverseSlice' i j) Q st := by
  rw [reverseSlice'_eq]
  exact wpS_modify h
theorem EQ.one' {xs : Array Keyed} {lo hi : Nat} (o : Ord r) (h : hi = lo + 1) : EQ r xs lo hi := by subst h; exact EQ.one o
theorem wpS_countRunX {st : SortSt} {lo nrem : Nat} {Q : Option Nat → SortSt → Prop} (o : Ord r) (hc : Cmp prog w A E s κ a₀ r) (B0 : CB a₀ κ lo st st) (h1 : 1 ≤ nrem) (hz : lo + nrem ≤ a₀.size)
    (h : ∀ n st', CB a₀ κ lo st st' → 1 ≤ n → n ≤ nrem → SI r (arrOf st') lo (lo + n) → Q (some n) st') : wpS (model prog w) A E s (countRun' lo nrem) Q st := by
  rw [countRun'_eq]
  dsimp only
  have z0 := B0.size
  refine wpS_bind (wpS_mono (wpS_forRange (I := fun y c st' => st' = st ∧ c = (none, y) ∧ SI r (arrOf st) lo (lo + y))
    (Q := fun c st' => st' = st ∧ ∃ n, c = (none, n) ∧ 1 ≤ n ∧ n ≤ nrem ∧ SI r (arrOf st) lo (lo + n) ∧ (n = nrem ∨ ∃ p q, (arrOf st)[lo + n - 1]? = some p ∧ (arrOf st)[lo + n]? = some q ∧ r q p = true)) ?_ ?_ ⟨rfl, rfl, SI.one o⟩) ?_)
  · rintro y c st' hy1 hy2 ⟨rfl, rfl, S⟩
    dsimp only
    obtain ⟨p, hp⟩ := arr_get (xs := arrOf st') (i := lo + y - 1) (by omega)
    obtain ⟨q, hq⟩ := arr_get (xs := arrOf st') (i := lo + y) (by omega)
    refine wpS_bind (wpS_ltX hc B0 hq hp ?_)
    cases hr : r q p with
    | true => exact wpS_pure ⟨rfl, y, rfl, hy1, by omega, S, .inr ⟨p, q, hp, hq, hr⟩⟩
    | false => exact wpS_pure ⟨rfl, rfl, S.snoc (hi := lo + y) o (by omega) hp hq hr⟩
  · rintro c st' ⟨rfl, rfl, S⟩
    have e9 : max 1 nrem = nrem := Nat.max_eq_right h1
    rw [e9] at S
    exact ⟨rfl, nrem, by rw [e9], h1, Nat.le_refl _, S, .inl rfl⟩
  rintro c st' ⟨rfl, n, rfl, n1, n2, S, hn⟩
  dsimp only
  by_cases hnn : (n == nrem) = true
  · rw [if_pos hnn]
    exact wpS_pure (h n st' B0 n1 n2 S)
  rw [if_neg hnn]
  have hnn' : ¬ (n = nrem) := fun z => hnn (beq_iff_eq.mpr z)
  rcases hn with hn | ⟨p, q, hp, hq, hr⟩
  · exact absurd hn hnn'
  by_cases hn1 : n > 1
  · rw [if_pos hn1]
    obtain ⟨f, hf⟩ := arr_get (xs := arrOf st') (i := lo) (by omega)
    refine wpS_bind (wpS_ltX hc B0 hf hp ?_)
    cases hrf : r f p with
    | true => exact wpS_pure (h n st' B0 n1 n2 S)
    | false =>
      dsimp only
      rw [if_neg Bool.false_ne_true]
      refine wpS_bind (wpS_revX ?_)
      have B1 := B0.rev (m := lo) (hi := lo + n) (Nat.le_refl _) (by omega)
      have N1 : NI r (mir (arrOf st') lo (lo + n)) lo (lo + n) := S.mir (by omega)
      obtain ⟨p1, hp1⟩ := arr_get (xs := mir (arrOf st') lo (lo + n)) (i := lo + n - 1) (by rw [mirror_size]; omega)
      have hp1' := mir_last (by omega) (by omega) hp1
      rw [hf] at hp1'
      cases hp1'
      have hq1 : (mir (arrOf st') lo (lo + n))[lo + n]? = some q := by rw [mir_out (by omega) (.inr (Nat.le_refl _))]; exact hq
      have N1' : NI r (arrOf (setArr st' (mir (arrOf st') lo (lo + n)))) lo (lo + (n + 1)) := N1.snoc (hi := lo + n) o (by omega) hp1 hq1 (o.ntr q p f (o.asy _ _ hr) hrf)
      generalize setArr st' (mir (arrOf st') lo (lo + n)) = st1 at B1 N1'
      refine wpS_bind (wpS_lift (wpAny_rule ⟨rfl, ?_⟩))
      refine wpS_bind (wpS_mono (wpS_forRange (I := fun y c stx => CB a₀ κ lo st' stx ∧ ∃ neq, c = (none, y, neq) ∧ NI r (arrOf stx) lo (lo + y) ∧ neq + 1 ≤ y ∧ EQ r (arrOf stx) (lo + y - (neq + 1)) (lo + y))
        (Q := fun c stx => CB a₀ κ lo st' stx ∧ ∃ m neq, c = (none, m, neq) ∧ n + 1 ≤ m ∧ m ≤ nrem ∧ NI r (arrOf stx) lo (lo + m) ∧ neq + 1 ≤ m ∧ EQ r (arrOf stx) (lo + m - (neq + 1)) (lo + m)) ?_ ?_ ⟨B1, 0, rfl, N1', by omega, EQ.one' o (by omega)⟩) ?_)
      · rintro y c st2 hy1 hy2 ⟨B2, neq, rfl, N2, g1, e2⟩
        dsimp only
        have z2 := B2.size
        obtain ⟨p2, hp2⟩ := arr_get (xs := arrOf st2) (i := lo + y - 1) (by omega)
        obtain ⟨q2, hq2⟩ := arr_get (xs := arrOf st2) (i := lo + y) (by omega)
        refine wpS_bind (wpS_ltX hc B2 hq2 hp2 ?_)
        cases hr2 : r q2 p2 with
        | true =>
          dsimp only
          rw [if_pos rfl]
          by_cases hq0 : neq > 0
          · rw [if_pos hq0]
            refine wpS_bind (wpS_revX ?_)
            have B3 := B2.rev (m := lo + y - (neq + 1)) (hi := lo + y) (by omega) (by omega)
            have N3 : NI r (mir (arrOf st2) (lo + y - (neq + 1)) (lo + y)) lo (lo + y) := N2.mirEq e2 (by omega) (by omega)
            obtain ⟨p3, hp3⟩ := arr_get (xs := mir (arrOf st2) (lo + y - (neq + 1)) (lo + y)) (i := lo + y - 1) (by rw [mirror_size]; omega)
            have hp3' := mir_last (by omega) (by omega) hp3
            have hq3 : (mir (arrOf st2) (lo + y - (neq + 1)) (lo + y))[lo + y]? = some q2 := by rw [mir_out (by omega) (.inr (Nat.le_refl _))]; exact hq2
            have h3 : r p3 q2 = false := o.ntr q2 p2 p3 (o.asy _ _ hr2) (e2 _ _ p3 p2 (Nat.le_refl _) (by omega) (by omega) (by omega) hp3' hp2)
            exact wpS_pure ⟨B3, 0, rfl, N3.snoc (hi := lo + y) o (by omega) hp3 hq3 h3, by omega, EQ.one' o (by omega)⟩
          · rw [if_neg hq0]
            exact wpS_pure ⟨B2, 0, rfl, N2.snoc (hi := lo + y) o (by omega) hp2 hq2 (o.asy _ _ hr2), by omega, EQ.one' o (by omega)⟩
        | false =>
          dsimp only
          rw [if_neg Bool.false_ne_true]
          refine wpS_bind (wpS_ltX hc B2 hp2 hq2 ?_)
          cases hr3 : r p2 q2 with
          | true => exact wpS_pure ⟨B2, y, neq, rfl, by omega, by omega, N2, g1, e2⟩
          | false =>
            refine wpS_pure ⟨B2, neq + 1, rfl, N2.snoc (hi := lo + y) o (by omega) hp2 hq2 hr3, by omega, ?_⟩
            have := e2.snoc (hi := lo + y) o (by omega) hp2 hq2 hr3 hr2
            rw [show lo + (y + 1) - (neq + 1 + 1) = lo + y - (neq + 1) by omega]
            exact this
      · rintro c st2 ⟨B2, neq, rfl, N2, g1, e2⟩
        have e9 : max (n + 1) nrem = nrem := Nat.max_eq_right (by omega)
        rw [e9] at N2 g1 e2
        exact ⟨B2, nrem, neq, by rw [e9], by omega, by omega, N2, g1, e2⟩
      rintro c st3 ⟨B3, m, neq, rfl, m1, m2, N3, g3, e3⟩
      dsimp only
      have z3 := B3.size
      by_cases hq0 : neq > 0
      · rw [if_pos hq0]
        refine wpS_bind (wpS_revX ?_)
        have B4 := B3.rev (m := lo + m - (neq + 1)) (hi := lo + m) (by omega) (by omega)
        have N4 : NI r (arrOf (setArr st3 (mir (arrOf st3) (lo + m - (neq + 1)) (lo + m)))) lo (lo + m) := N3.mirEq e3 (by omega) (by omega)
        generalize setArr st3 (mir (arrOf st3) (lo + m - (neq + 1)) (lo + m)) = st4 at B4 N4
        refine wpS_bind (wpS_revX ?_)
        have B9 := B4.rev (m := lo) (hi := lo + m) (Nat.le_refl _) (by omega)
        have S9 : SI r (arrOf (setArr st4 (mir (arrOf st4) lo (lo + m)))) lo (lo + m) := NI.mir N4 (by rw [B4.size]; omega)
        generalize setArr st4 (mir (arrOf st4) lo (lo + m)) = st9 at B9 S9
        have z9 := B9.size
        refine wpS_bind (wpS_forRange (I := fun y c stx => stx = st9 ∧ c = (none, y) ∧ SI r (arrOf st9) lo (lo + y)) ?_ ?_ ⟨rfl, rfl, S9⟩)
        · rintro y c stx hy1 hy2 ⟨rfl, rfl, S⟩
          dsimp only
          obtain ⟨p9, hp9⟩ := arr_get (xs := arrOf stx) (i := lo + y - 1) (by omega)
          obtain ⟨q9, hq9⟩ := arr_get (xs := arrOf stx) (i := lo + y) (by omega)
          refine wpS_bind (wpS_ltX hc B9 hq9 hp9 ?_)
          cases hr9 : r q9 p9 with
          | true => exact wpS_pure (wpS_pure (h y stx B9 (by omega) (by omega) S))
          | false => exact wpS_pure ⟨rfl, rfl, S.snoc (hi := lo + y) o (by omega) hp9 hq9 hr9⟩
        · rintro c stx ⟨rfl, rfl, S⟩
          rw [Nat.max_eq_right (by omega)] at S
          have e9 : max m nrem = nrem := Nat.max_eq_right (by omega)
          dsimp only
          rw [e9]
          exact wpS_pure (h nrem stx B9 (by omega) (by omega) S)
      · rw [if_neg hq0]
        refine wpS_bind (wpS_revX ?_)
        have B9 := B3.rev (m := lo) (hi := lo + m) (Nat.le_refl _) (by omega)
        have S9 : SI r (arrOf (setArr st3 (mir (arrOf st3) lo (lo + m)))) lo (lo + m) := NI.mir N3 (by rw [B3.size]; omega)
        generalize setArr st3 (mir (arrOf st3) lo (lo + m)) = st9 at B9 S9
        have z9 := B9.size
        refine wpS_bind (wpS_forRange (I := fun y c stx => stx = st9 ∧ c = (none, y) ∧ SI r (arrOf st9) lo (lo + y)) ?_ ?_ ⟨rfl, rfl, S9⟩)
        · rintro y c stx hy1 hy2 ⟨rfl, rfl, S⟩
          dsimp only
          obtain ⟨p9, hp9⟩ := arr_get (xs := arrOf stx) (i := lo + y - 1) (by omega)
          obtain ⟨q9, hq9⟩ := arr_get (xs := arrOf stx) (i := lo + y) (by omega)
          refine wpS_bind (wpS_ltX hc B9 hq9 hp9 ?_)
          cases hr9 : r q9 p9 with
          | true => exact wpS_pure (wpS_pure (h y stx B9 (by omega) (by omega) S))
          | false => exact wpS_pure ⟨rfl, rfl, S.snoc (hi := lo + y) o (by omega) hp9 hq9 hr9⟩
        · rintro c stx ⟨rfl, rfl, S⟩
          rw [Nat.max_eq_right (by omega)] at S
          have e9 : max m nrem = nrem := Nat.max_eq_right (by omega)
          dsimp only
          rw [e9]
          exact wpS_pure (h nrem stx B9 (by omega) (by omega) S)
  · rw [if_neg hn1]
    obtain rfl : n = 1 := by omega
    have N1' : NI r (arrOf st') lo (lo + (1 + 1)) := (NI.one o).snoc (hi := lo + 1) o (by omega) hp hq (o.asy _ _ hr)
    refine wpS_bind (wpS_lift (wpAny_rule ⟨rfl, ?_⟩))
    refine wpS_bind (wpS_mono (wpS_forRange (I := fun y c stx => CB a₀ κ lo st' stx ∧ ∃ neq, c = (none, y, neq) ∧ NI r (arrOf stx) lo (lo + y) ∧ neq + 1 ≤ y ∧ EQ r (arrOf stx) (lo + y - (neq + 1)) (lo + y))
      (Q := fun c stx => CB a₀ κ lo st' stx ∧ ∃ m neq, c = (none, m, neq) ∧ 1 + 1 ≤ m ∧ m ≤ nrem ∧ NI r (arrOf stx) lo (lo + m) ∧ neq + 1 ≤ m ∧ EQ r (arrOf stx) (lo + m - (neq + 1)) (lo + m)) ?_ ?_ ⟨B0, 0, rfl, N1', by omega, EQ.one' o (by omega)⟩) ?_)
    · rintro y c st2 hy1 hy2 ⟨B2, neq, rfl, N2, g1, e2⟩
      dsimp only
      have z2 := B2.size
      obtain ⟨p2, hp2⟩ := arr_get (xs := arrOf st2) (i := lo + y - 1) (by omega)
      obtain ⟨q2, hq2⟩ := arr_get (xs := arrOf st2) (i := lo + y) (by omega)
      refine wpS_bind (wpS_ltX hc B2 hq2 hp2 ?_)
      cases hr2 : r q2 p2 with
      | true =>
        dsimp only
        rw [if_pos rfl]
        by_cases hq0 : neq > 0
        · rw [if_pos hq0]
          refine wpS_bind (wpS_revX ?_)
          have B3 := B2.rev (m := lo + y - (neq + 1)) (hi := lo + y) (by omega) (by omega)
          have N3 : NI r (mir (arrOf st2) (lo + y - (neq + 1)) (lo + y)) lo (lo + y) := N2.mirEq e2 (by omega) (by omega)
          obtain ⟨p3, hp3⟩ := arr_get (xs := mir (arrOf st2) (lo + y - (neq + 1)) (lo + y)) (i := lo + y - 1) (by rw [mirror_size]; omega)
          have hp3' := mir_last (by omega) (by omega) hp3
          have hq3 : (mir (arrOf st2) (lo + y - (neq + 1)) (lo + y))[lo + y]? = some q2 := by rw [mir_out (by omega) (.inr (Nat.le_refl _))]; exact hq2
          have h3 : r p3 q2 = false := o.ntr q2 p2 p3 (o.asy _ _ hr2) (e2 _ _ p3 p2 (Nat.le_refl _) (by omega) (by omega) (by omega) hp3' hp2)
          exact wpS_pure ⟨B3, 0, rfl, N3.snoc (hi := lo + y) o (by omega) hp3 hq3 h3, by omega, EQ.one' o (by omega)⟩
        · rw [if_neg hq0]
          exact wpS_pure ⟨B2, 0, rfl, N2.snoc (hi := lo + y) o (by omega) hp2 hq2 (o.asy _ _ hr2), by omega, EQ.one' o (by omega)⟩
      | false =>
        dsimp only
        rw [if_neg Bool.false_ne_true]
        refine wpS_bind (wpS_ltX hc B2 hp2 hq2 ?_)
        cases hr3 : r p2 q2 with
        | true => exact wpS_pure ⟨B2, y, neq, rfl, by omega, by omega, N2, g1, e2⟩
        | false =>
          refine wpS_pure ⟨B2, neq + 1, rfl, N2.snoc (hi := lo + y) o (by omega) hp2 hq2 hr3, by omega, ?_⟩
          have := e2.snoc (hi := lo + y) o (by omega) hp2 hq2 hr3 hr2
          rw [show lo + (y + 1) - (neq + 1 + 1) = lo + y - (neq + 1) by omega]
          exact this
    · rintro c st2 ⟨B2, neq, rfl, N2, g1, e2⟩
      have e9 : max (1 + 1) nrem = nrem := Nat.max_eq_right (by omega)
      rw [e9] at N2 g1 e2
      exact ⟨B2, nrem, neq, by rw [e9], by omega, by omega, N2, g1, e2⟩
    rintro c st3 ⟨B3, m, neq, rfl, m1, m2, N3, g3, e3⟩
    dsimp only
    have z3 := B3.size
    by_cases hq0 : neq > 0
    · rw [if_pos hq0]
      refine wpS_bind (wpS_revX ?_)
      have B4 := B3.rev (m := lo + m - (neq + 1)) (hi := lo + m) (by omega) (by omega)
      have N4 : NI r (arrOf (setArr st3 (mir (arrOf st3) (lo + m - (neq + 1)) (lo + m)))) lo (lo + m) := N3.mirEq e3 (by omega) (by omega)
      generalize setArr st3 (mir (arrOf st3) (lo + m - (neq + 1)) (lo + m)) = st4 at B4 N4
      refine wpS_bind (wpS_revX ?_)
      have B9 := B4.rev (m := lo) (hi := lo + m) (Nat.le_refl _) (by omega)
      have S9 : SI r (arrOf (setArr st4 (mir (arrOf st4) lo (lo + m)))) lo (lo + m) := NI.mir N4 (by rw [B4.size]; omega)
      generalize setArr st4 (mir (arrOf st4) lo (lo + m)) = st9 at B9 S9
      have z9 := B9.size
      refine wpS_bind (wpS_forRange (I := fun y c stx => stx = st9 ∧ c = (none, y) ∧ SI r (arrOf st9) lo (lo + y)) ?_ ?_ ⟨rfl, rfl, S9⟩)
      · rintro y c stx hy1 hy2 ⟨rfl, rfl, S⟩
        dsimp only
        obtain ⟨p9, hp9⟩ := arr_get (xs := arrOf stx) (i := lo + y - 1) (by omega)
        obtain ⟨q9, hq9⟩ := arr_get (xs := arrOf stx) (i := lo + y) (by omega)
        refine wpS_bind (wpS_ltX hc B9 hq9 hp9 ?_)
        cases hr9 : r q9 p9 with
        | true => exact wpS_pure (wpS_pure (h y stx B9 (by omega) (by omega) S))
        | false => exact wpS_pure ⟨rfl, rfl, S.snoc (hi := lo + y) o (by omega) hp9 hq9 hr9⟩
      · rintro c stx ⟨rfl, rfl, S⟩
        rw [Nat.max_eq_right (by omega)] at S
        have e9 : max m nrem = nrem := Nat.max_eq_right (by omega)
        dsimp only
        rw [e9]
        exact wpS_pure (h nrem stx B9 (by omega) (by omega) S)
    · rw [if_neg hq0]
      refine wpS_bind (wpS_revX ?_)
      have B9 := B3.rev (m := lo) (hi := lo + m) (Nat.le_refl _) (by omega)
      have S9 : SI r (arrOf (setArr st3 (mir (arrOf st3) lo (lo + m)))) lo (lo + m) := NI.mir N3 (by rw [B3.size]; omega)
      generalize setArr st3 (mir (arrOf st3) lo (lo + m)) = st9 at B9 S9
      have z9 := B9.size
      refine wpS_bind (wpS_forRange (I := fun y c stx => stx = st9 ∧ c = (none, y) ∧ SI r (arrOf st9) lo (lo + y)) ?_ ?_ ⟨rfl, rfl, S9⟩)
      · rintro y c stx hy1 hy2 ⟨rfl, rfl, S⟩
        dsimp only
        obtain ⟨p9, hp9⟩ := arr_get (xs := arrOf stx) (i := lo + y - 1) (by omega)
        obtain ⟨q9, hq9⟩ := arr_get (xs := arrOf stx) (i := lo + y) (by omega)
        refine wpS_bind (wpS_ltX hc B9 hq9 hp9 ?_)
        cases hr9 : r q9 p9 with
        | true => exact wpS_pure (wpS_pure (h y stx B9 (by omega) (by omega) S))
        | false => exact wpS_pure ⟨rfl, rfl, S.snoc (hi := lo + y) o (by omega) hp9 hq9 hr9⟩
      · rintro c stx ⟨rfl, rfl, S⟩
        rw [Nat.max_eq_right (by omega)] at S
        have e9 : max m nrem = nrem := Nat.max_eq_right (by omega)
        dsimp only
        rw [e9]
        exact wpS_pure (h nrem stx B9 (by omega) (by omega) S)
end
end PyProof.Rows.Tim
-- part S5
set_option Elab.async false
set_option linter.all false
set_option maxRecDepth 100000
set_option maxHeartbeats 4000000
namespace PyProof.Rows.Tim
open PySem
section
variable {prog : Program} {w : World} {A : Around} {E : Value → Shared → Prop} {s : Shared} {κ : SortKind} {a₀ : Array Keyed} {r : Keyed → Keyed → Bool}
theorem lt_le2 {x y z : Keyed} (o : Ord r) (h : r z x = true) (h2 : r y x = false) : r z y = true := by
  cases e : r z y with
  | true => rfl
  | false =>
    have := o.ntr x y z h2 e
    rw [h] at this
    cases this
theorem wpS_moveX {st : SortSt} {i j : Nat} {Q : Unit → SortSt → Prop} (h : Q () (setArr st (bubble (arrOf st) i (i - j)))) : wpS (model prog w) A E s (moveDown' i j) Q st := by
  rw [moveDown'_eq]
  exact wpS_modify h
theorem SI.put {xs : Array Keyed} {lo k l : Nat} {q : Keyed} (o : Ord r) (S : SI r xs lo (lo + k)) (hq : xs[lo + k]? = some q) (hl : l ≤ k) (h1 : ∀ i x, i < l → xs[lo + i]? = some x → r q x = false) (h2 : ∀ i x, l ≤ i → i < k → xs[lo + i]? = some x → r q x = true) : SI r (bubble xs (lo + k) (lo + k - (lo + l))) lo (lo + (k + 1)) := by
  have hs : lo + k < xs.size := (Array.getElem?_eq_some_iff.mp hq).1
  intro i j x y g1 g2 g3 hx hy
  rw [getElem?_bubble hs _ (by omega)] at hx hy
  rw [show lo + k - (lo + k - (lo + l)) = lo + l by omega] at hx hy
  by_cases ei : i = lo + l
  · rw [if_pos ei, hq] at hx
    cases hx
    by_cases ej : j = lo + l
    · rw [if_pos ej, hq] at hy
      cases hy
      exact o.irr _
    · rw [if_neg ej, if_pos (by omega)] at hy
      exact o.asy _ _ (h2 (j - 1 - lo) y (by omega) (by omega) (by rw [show lo + (j - 1 - lo) = j - 1 by omega]; exact hy))
  · rw [if_neg ei] at hx
    by_cases ej : j = lo + l
    · rw [if_pos ej, hq] at hy
      cases hy
      rw [if_neg (by omega)] at hx
      exact h1 (i - lo) x (by omega) (by rw [show lo + (i - lo) = i by omega]; exact hx)
    · rw [if_neg ej] at hy
      by_cases gi : lo + l < i
      · rw [if_pos (by omega)] at hx hy
        exact S (i - 1) (j - 1) x y (by omega) (by omega) (by omega) hx hy
      · rw [if_neg (by omega)] at hx
        by_cases gj : lo + l < j
        · rw [if_pos (by omega)] at hy
          exact S i (j - 1) x y (by omega) (by omega) (by omega) hx hy
        · rw [if_neg (by omega)] at hy
          exact S i j x y (by omega) (by omega) (by omega) hx hy
theorem wpS_binarySortX {st st0 : SortSt} {lo n ok : Nat} {Q : Bool → SortSt → Prop} (o : Ord r) (hc : Cmp prog w A E s κ a₀ r) (B0 : CB a₀ κ lo st0 st) (h1 : 1 ≤ ok) (hn : ok ≤ n) (hz : lo + n ≤ a₀.size) (S0 : SI r (arrOf st) lo (lo + ok))
    (h : ∀ st', CB a₀ κ lo st0 st' → SI r (arrOf st') lo (lo + n) → Q true st') : wpS (model prog w) A E s (binarySort' lo n ok) Q st := by
  rw [binarySort'_eq]
  dsimp only
  rw [Nat.max_eq_left h1]
  refine wpS_bind (wpS_forRange (I := fun k c st' => c = (none, ()) ∧ CB a₀ κ lo st0 st' ∧ SI r (arrOf st') lo (lo + k)) ?_ ?_ ⟨rfl, B0, S0⟩)
  · rintro k c st1 hk1 hk2 ⟨rfl, B1, S1⟩
    try dsimp only
    have z1 := B1.size
    obtain ⟨q, hq⟩ := arr_get (xs := arrOf st1) (i := lo + k) (by omega)
    refine wpS_bind (wpS_mono (wpS_forRange (I := fun y c st' => st' = st1 ∧ ∃ l u, c = (none, l, u) ∧ l ≤ u ∧ u ≤ k ∧ (∀ i x, i < l → (arrOf st1)[lo + i]? = some x → r q x = false) ∧ (∀ i x, u ≤ i → i < k → (arrOf st1)[lo + i]? = some x → r q x = true) ∧ u - l ≤ k - y)
      (Q := fun c st' => st' = st1 ∧ ∃ l u, c = (none, l, u) ∧ l ≤ k ∧ (∀ i x, i < l → (arrOf st1)[lo + i]? = some x → r q x = false) ∧ (∀ i x, l ≤ i → i < k → (arrOf st1)[lo + i]? = some x → r q x = true)) ?_ ?_ ⟨rfl, 0, k, rfl, by omega, by omega, fun i x hi => absurd hi (by omega), fun i x g1 g2 => absurd g2 (by omega), by omega⟩) ?_)
    · rintro y c st' _ hy ⟨rfl, l, u, rfl, g1, g2, g3, g4, g5⟩
      dsimp only
      by_cases hge : l ≥ u
      · rw [if_pos hge]
        exact wpS_pure ⟨rfl, l, u, rfl, by omega, g3, fun i x g6 => g4 i x (by omega)⟩
      · rw [if_neg hge]
        have hm : (l + u) / 2 < u := by omega
        have hm2 : l ≤ (l + u) / 2 := by omega
        generalize (l + u) / 2 = m at hm hm2
        obtain ⟨p, hp⟩ := arr_get (xs := arrOf st') (i := lo + m) (by omega)
        refine wpS_bind (wpS_ltX hc B1 hq hp ?_)
        cases hr : r q p with
        | true =>
          refine wpS_pure ⟨rfl, l, m, rfl, hm2, by omega, g3, fun i x g6 g7 hx => ?_, by omega⟩
          exact lt_le2 o hr (S1 (lo + m) (lo + i) p x (by omega) (by omega) (by omega) hp hx)
        | false =>
          refine wpS_pure ⟨rfl, m + 1, u, rfl, by omega, g2, fun i x g6 hx => ?_, g4, by omega⟩
          exact o.ntr x p q (S1 (lo + i) (lo + m) x p (by omega) (by omega) (by omega) hx hp) hr
    · rintro c st' ⟨rfl, l, u, rfl, g1, g2, g3, g4, g5⟩
      rw [Nat.max_eq_right (Nat.zero_le _)] at g5
      exact ⟨rfl, l, u, rfl, by omega, g3, fun i x g6 => g4 i x (by omega)⟩
    rintro c st' ⟨rfl, l, u, rfl, g1, g3, g4⟩
    dsimp only
    refine wpS_bind (wpS_moveX (wpS_pure ⟨rfl, ⟨B1.kind, B1.pend, B1.fail, (bubble_perm _ _ _).trans B1.perm, fun i hi => ?_⟩, S1.put o hq g1 g3 g4⟩))
    show (bubble (arrOf st') (lo + k) (lo + k - (lo + l)))[i]? = _
    rw [getElem?_bubble (by omega) _ (by omega), if_neg (by omega), if_neg (by omega)]
    exact B1.pre i hi
  · rintro c st1 ⟨rfl, B1, S1⟩
    rw [Nat.max_eq_right hn] at S1
    exact wpS_pure (h st1 B1 S1)
end
end PyProof.Rows.Tim
-- part S6
set_option Elab.async false
set_option linter.all false
set_option maxRecDepth 100000
set_option maxHeartbeats 4000000
namespace PyProof.Rows.Tim
open PySem

def seg (L : List Keyed) (s n : Nat) : List Keyed := (L.drop s).take n
theorem seg_at {L : List Keyed} {s n i : Nat} (h : i < n) : (seg L s n)[i]? = L[s + i]? := by
  unfold seg
  rw [List.getElem?_take_of_lt h, List.getElem?_drop]
theorem seg_len {L : List Keyed} {s n : Nat} (h : s + n ≤ L.length) : (seg L s n).length = n := by
  unfold seg
  rw [List.length_take, List.length_drop]; omega
theorem SI.pw {r : Keyed → Keyed → Bool} {xs : Array Keyed} {lo n : Nat} (h : SI r xs lo (lo + n)) : Pw r (seg xs.toList lo n) := by
  unfold Pw
  rw [List.pairwise_iff_getElem]
  intro i j hi hj hij
  have hn : j < n := by unfold seg at hj; rw [List.length_take] at hj; omega
  have e1 : (seg xs.toList lo n)[i]? = some (seg xs.toList lo n)[i] := List.getElem?_eq_getElem hi
  have e2 : (seg xs.toList lo n)[j]? = some (seg xs.toList lo n)[j] := List.getElem?_eq_getElem hj
  rw [seg_at (by omega), Array.getElem?_toList] at e1
  rw [seg_at hn, Array.getElem?_toList] at e2
  exact h (lo + i) (lo + j) _ _ (by omega) (by omega) (by omega) e1 e2
/-- runs that lie side by side from p to q -/
def Runs (r : Keyed → Keyed → Bool) (L : List Keyed) : List (Nat × Nat × Nat) → Nat → Nat → Prop
  | [], p, q => p = q
  | x :: rest, p, q => x.1 = p ∧ 1 ≤ x.2.1 ∧ Pw r (seg L x.1 x.2.1) ∧ Runs r L rest (p + x.2.1) q
section
variable {r : Keyed → Keyed → Bool} {L L' : List Keyed}
theorem Runs.le : ∀ {ps : List (Nat × Nat × Nat)} {p q : Nat}, Runs r L ps p q → p + ps.length ≤ q
  | [], _, _, h => by cases h; exact Nat.le_refl _
  | x :: ps, p, q, h => by
    have := Runs.le h.2.2.2
    have := h.2.1
    rw [List.length_cons]
    omega
theorem Runs.app : ∀ {l1 l2 : List (Nat × Nat × Nat)} {p q : Nat}, Runs r L (l1 ++ l2) p q ↔ ∃ m, Runs r L l1 p m ∧ Runs r L l2 m q
  | [], l2, p, q => ⟨fun h => ⟨p, rfl, h⟩, fun ⟨m, h1, h2⟩ => by cases h1; exact h2⟩
  | x :: l1, l2, p, q => by
    constructor
    · rintro ⟨h1, h2, h3, h4⟩
      obtain ⟨m, g1, g2⟩ := Runs.app.mp h4
      exact ⟨m, ⟨h1, h2, h3, g1⟩, g2⟩
    · rintro ⟨m, ⟨h1, h2, h3, g1⟩, g2⟩
      exact ⟨h1, h2, h3, Runs.app.mpr ⟨m, g1, g2⟩⟩
theorem Runs.congr : ∀ {ps : List (Nat × Nat × Nat)} {p q : Nat}, Runs r L ps p q → (∀ s n, p ≤ s → s + n ≤ q → seg L s n = seg L' s n) → Runs r L' ps p q
  | [], _, _, h, _ => h
  | x :: ps, p, q, ⟨h1, h2, h3, h4⟩, e => by
    have := Runs.le h4
    refine ⟨h1, h2, ?_, Runs.congr h4 fun s n g1 g2 => e s n (by omega) g2⟩
    rw [← e x.1 x.2.1 (by omega) (by omega)]
    exact h3
theorem seg_pre {m s n : Nat} (h : L.take m = L'.take m) (hs : s + n ≤ m) : seg L s n = seg L' s n := by
  have key : ∀ M : List Keyed, seg M s n = seg (M.take m) s n := fun M => by
    unfold seg
    rw [List.drop_take, List.take_take, Nat.min_eq_left (by omega)]
  rw [key L, key L', h]
theorem seg_post {m s n : Nat} (h : L.drop m = L'.drop m) (hs : m ≤ s) : seg L s n = seg L' s n := by
  have key : ∀ M : List Keyed, seg M s n = ((M.drop m).drop (s - m)).take n := fun M => by
    unfold seg
    rw [List.drop_drop, show m + (s - m) = s by omega]
  rw [key L, key L', h]
theorem merge_seg {A B M : List Keyed} {k n : Nat} (o : Ord r) (sA : Pw r A) (sB : Pw r B) (hM : M.Perm (A.drop k ++ B.take n)) (sM : Pw r M) (h1 : ∀ x ∈ A.take k, ∀ y ∈ B, r y x = false) (h2 : ∀ z ∈ A, ∀ w ∈ B.drop n, r w z = false) : Pw r (A.take k ++ (M ++ B.drop n)) := by
  have pa : Pw r (A.take k) := List.Pairwise.sublist (List.take_sublist _ _) sA
  have pb : Pw r (B.drop n) := List.Pairwise.sublist (List.drop_sublist _ _) sB
  have sA' : Pw r (A.take k ++ A.drop k) := by rw [List.take_append_drop]; exact sA
  have sB' : Pw r (B.take n ++ B.drop n) := by rw [List.take_append_drop]; exact sB
  refine List.pairwise_append.mpr ⟨pa, List.pairwise_append.mpr ⟨sM, pb, fun z hz w hw => ?_⟩, fun x hx z hz => ?_⟩
  · rcases List.mem_append.mp (hM.mem_iff.mp hz) with hz | hz
    · exact h2 z (List.mem_of_mem_drop hz) w hw
    · exact (List.pairwise_append.mp sB').2.2 z hz w hw
  · rcases List.mem_append.mp hz with hz | hz
    · rcases List.mem_append.mp (hM.mem_iff.mp hz) with hz | hz
      · exact (List.pairwise_append.mp sA').2.2 x hx z hz
      · exact h1 x hx z (List.mem_of_mem_take hz)
    · exact h1 x hx z (List.mem_of_mem_drop hz)
theorem put_all (off : Nat) : ∀ (M : List Keyed) (j : Nat) (xs : Array Keyed), off + j + M.length ≤ xs.size → ((M.zipIdx j).foldl (fun a x => a.setIfInBounds (off + x.snd) x.fst) xs).toList = xs.toList.take (off + j) ++ (M ++ xs.toList.drop (off + j + M.length))
  | [], j, xs, _ => by
    show xs.toList = _
    rw [List.nil_append, List.length_nil, Nat.add_zero, List.take_append_drop]
  | m :: M, j, xs, h => by
    rw [List.length_cons] at h
    rw [List.zipIdx_cons, List.foldl_cons, put_all off M (j + 1) _ (by rw [Array.size_setIfInBounds]; omega), Array.toList_setIfInBounds]
    have hl : off + j < xs.toList.length := by rw [Array.length_toList]; omega
    rw [List.drop_set_of_lt (by omega), ← Nat.add_assoc, List.take_add_one, List.take_set_of_le (Nat.le_refl _), List.getElem?_set_self hl]
    rw [List.append_assoc, List.length_cons, show off + j + 1 + M.length = off + j + (M.length + 1) by omega]
    rfl
end
section
variable {prog : Program} {w : World} {A : Around} {E : Value → Shared → Prop} {s : Shared} {κ : SortKind} {a₀ : Array Keyed} {r : Keyed → Keyed → Bool}
theorem wpS_set {st st' : SortSt} {Q : PUnit → SortSt → Prop} (h : Q ⟨⟩ st') : wpS (model prog w) A E s (set st' : StateT SortSt Sem PUnit) Q st := by
  unfold wpS
  exact wpAny_pure ⟨rfl, h⟩
theorem wpS_gen {α : Type} {m : StateT SortSt Sem α} {Q : α → SortSt → Prop} {st : SortSt} (P : SortSt → Prop) (hp : P st) (h : ∀ st0, P st0 → wpS (model prog w) A E s m Q st0) : wpS (model prog w) A E s m Q st := h st hp
theorem wpS_mergeAt {st : SortSt} {i : Nat} {Q : Bool → SortSt → Prop} (o : Ord r) (hc : Cmp prog w A E s κ a₀ r) (hk : kindOf st = κ) (hP : (arrOf st).Perm a₀) (hF : failedOf st = none) {pre post : List (Nat × Nat × Nat)} {sa na pw sb nb pw2 : Nat}
    (hp : (pendingOf st).toList = pre ++ (sa, na, pw) :: (sb, nb, pw2) :: post) (hi : pre.length = i) (sbE : sb = sa + na) (n1 : 1 ≤ na) (n2 : 1 ≤ nb) (hz : sb + nb ≤ a₀.size) (SA : Pw r (seg (arrOf st).toList sa na)) (SB : Pw r (seg (arrOf st).toList sb nb))
    (h : ∀ st', kindOf st' = κ → (arrOf st').Perm a₀ → failedOf st' = none → (pendingOf st').toList = pre ++ (sa, na + nb, pw) :: post → (arrOf st').toList.take sa = (arrOf st).toList.take sa → (arrOf st').toList.drop (sb + nb) = (arrOf st).toList.drop (sb + nb) → Pw r (seg (arrOf st').toList sa (na + nb)) → Q true st') :
    wpS (model prog w) A E s (mergeAt' i) Q st := by
  have hsz : (arrOf st).size = a₀.size := hP.size_eq
  have e1 : (pendingOf st)[i]? = some (sa, na, pw) := by
    rw [← Array.getElem?_toList, hp, ← hi]
    simp
  have e2 : (pendingOf st)[i + 1]? = some (sb, nb, pw2) := by
    rw [← Array.getElem?_toList, hp, ← hi, List.getElem?_append_right (by omega), show pre.length + 1 - pre.length = 1 by omega]
    rfl
  have hpend : (((pendingOf st).setIfInBounds i (sa, na + nb, pw)).eraseIdxIfInBounds (i + 1)).toList = pre ++ (sa, na + nb, pw) :: post := by
    rw [Array.toList_eraseIdxIfInBounds, Array.toList_setIfInBounds, hp, ← hi, List.set_append_right _ _ (Nat.le_refl _), Nat.sub_self, List.set_cons_zero, List.eraseIdx_append_of_length_le (by omega), show pre.length + 1 - pre.length = 1 by omega]
    rfl
  show wpS (model prog w) A E s (_ >>= _) _ _
  obtain ⟨kd, xs, pd, ga, fl⟩ := st
  refine wpS_bind (wpS_get ?_)
  replace e1 : pd[i]? = some (sa, na, pw) := e1
  replace e2 : pd[i + 1]? = some (sb, nb, pw2) := e2
  dsimp only
  rw [e1, e2]
  dsimp only
  refine wpS_bind (wpS_set ?_)
  refine wpS_gen (fun st0 => kindOf st0 = κ ∧ arrOf st0 = xs ∧ (pendingOf st0).toList = pre ++ (sa, na + nb, pw) :: post ∧ failedOf st0 = none) ⟨hk, rfl, hpend, hF⟩ ?_
  rintro st0 ⟨g1, g2, g3, g4⟩
  clear hpend e1 e2
  replace hP : xs.Perm a₀ := hP
  replace hsz : xs.size = a₀.size := hsz
  replace SA : Pw r (seg xs.toList sa na) := SA
  replace SB : Pw r (seg xs.toList sb nb) := SB
  have mm : ∀ {j : Nat} {x : Keyed}, xs[j]? = some x → x ∈ a₀.toList := fun hx => (Array.perm_iff_toList_perm.mp hP).mem_iff.mp (mem_arr hx)
  have lA : (seg xs.toList sa na).length = na := seg_len (by rw [Array.length_toList]; omega)
  have lB : (seg xs.toList sb nb).length = nb := seg_len (by rw [Array.length_toList]; omega)
  have atA : ∀ {j : Nat} {x : Keyed}, j < na → xs[sa + j]? = some x → (seg xs.toList sa na)[j]? = some x := fun hj hx => by rw [seg_at hj, Array.getElem?_toList]; exact hx
  have atB : ∀ {j : Nat} {x : Keyed}, j < nb → xs[sb + j]? = some x → (seg xs.toList sb nb)[j]? = some x := fun hj hx => by rw [seg_at hj, Array.getElem?_toList]; exact hx
  have atA' : ∀ {j : Nat} {x : Keyed}, (seg xs.toList sa na)[j]? = some x → j < na ∧ xs[sa + j]? = some x := fun {j x} hx => by
    have hj : j < na := by have := (List.getElem?_eq_some_iff.mp hx).1; omega
    exact ⟨hj, by rw [seg_at hj, Array.getElem?_toList] at hx; exact hx⟩
  have atB' : ∀ {j : Nat} {x : Keyed}, (seg xs.toList sb nb)[j]? = some x → j < nb ∧ xs[sb + j]? = some x := fun {j x} hx => by
    have hj : j < nb := by have := (List.getElem?_eq_some_iff.mp hx).1; omega
    exact ⟨hj, by rw [seg_at hj, Array.getElem?_toList] at hx; exact hx⟩
  -- the segment after a change of its middle
  have fin : ∀ (k n : Nat) (M : List Keyed) (st' : SortSt), k ≤ na → n ≤ nb → kindOf st' = κ → failedOf st' = none → (pendingOf st').toList = pre ++ (sa, na + nb, pw) :: post → M.Perm ((seg xs.toList sa na).drop k ++ (seg xs.toList sb nb).take n) → Pw r M →
      (∀ x ∈ (seg xs.toList sa na).take k, ∀ y ∈ seg xs.toList sb nb, r y x = false) → (∀ z ∈ seg xs.toList sa na, ∀ w ∈ (seg xs.toList sb nb).drop n, r w z = false) →
      (arrOf st').toList = xs.toList.take (sa + k) ++ (M ++ xs.toList.drop (sa + k + M.length)) → Q true st' := fun k n M st' hkn hnn f1 f2 f3 f4 f5 f6 f7 f8 => by
    have lM : M.length = (na - k) + n := by
      rw [f4.length_eq, List.length_append, List.length_drop, List.length_take, lA, lB, Nat.min_eq_left hnn]
    have hL : xs.toList.length = a₀.size := by rw [Array.length_toList]; exact hsz
    have eA : xs.toList.take (sa + k) = xs.toList.take sa ++ (seg xs.toList sa na).take k := by
      rw [List.take_add]
      unfold seg
      rw [List.take_take, Nat.min_eq_left hkn]
    have eB : xs.toList.drop (sa + k + M.length) = (seg xs.toList sb nb).drop n ++ xs.toList.drop (sb + nb) := by
      rw [lM, show sa + k + (na - k + n) = sb + n by omega, ← List.drop_drop]
      have : xs.toList.drop sb = seg xs.toList sb nb ++ xs.toList.drop (sb + nb) := by
        unfold seg
        rw [← List.drop_drop, List.take_append_drop]
      rw [this, List.drop_append_of_le_length (by rw [lB]; exact hnn)]
    have eAll : xs.toList = xs.toList.take sa ++ ((seg xs.toList sa na ++ seg xs.toList sb nb) ++ xs.toList.drop (sb + nb)) := by
      have a1 : xs.toList.drop sa = seg xs.toList sa na ++ xs.toList.drop sb := by
        unfold seg
        rw [sbE, ← List.drop_drop, List.take_append_drop]
      have a2 : xs.toList.drop sb = seg xs.toList sb nb ++ xs.toList.drop (sb + nb) := by
        unfold seg
        rw [← List.drop_drop, List.take_append_drop]
      rw [List.append_assoc, ← a2, ← a1, List.take_append_drop]
    have eN : (arrOf st').toList = xs.toList.take sa ++ (((seg xs.toList sa na).take k ++ (M ++ (seg xs.toList sb nb).drop n)) ++ xs.toList.drop (sb + nb)) := by
      rw [f8, eA, eB]
      simp only [List.append_assoc]
    have lX : (xs.toList.take sa).length = sa := by rw [List.length_take]; omega
    have lY : ((seg xs.toList sa na).take k ++ (M ++ (seg xs.toList sb nb).drop n)).length = na + nb := by
      rw [List.length_append, List.length_append, List.length_take, List.length_drop, lA, lB, lM]; omega
    have pY : ((seg xs.toList sa na).take k ++ (M ++ (seg xs.toList sb nb).drop n)).Perm (seg xs.toList sa na ++ seg xs.toList sb nb) := by
      refine List.Perm.trans (List.Perm.append_left _ (List.Perm.append_right _ f4)) ?_
      rw [List.append_assoc, List.take_append_drop, ← List.append_assoc, List.take_append_drop]
    refine h st' f1 ?_ f2 f3 ?_ ?_ ?_
    · refine Array.perm_iff_toList_perm.mpr (List.Perm.trans ?_ (Array.perm_iff_toList_perm.mp hP))
      rw [eN]
      refine List.Perm.trans (List.Perm.append_left _ (List.Perm.append_right _ pY)) ?_
      rw [← eAll]
    · rw [eN, List.take_left' lX]
    · rw [eN, ← List.append_assoc, List.drop_left' (by rw [List.length_append, lX, lY]; omega)]
    · have : seg (arrOf st').toList sa (na + nb) = (seg xs.toList sa na).take k ++ (M ++ (seg xs.toList sb nb).drop n) := by
        rw [eN]
        show List.take (na + nb) (List.drop sa (xs.toList.take sa ++ (((seg xs.toList sa na).take k ++ (M ++ (seg xs.toList sb nb).drop n)) ++ xs.toList.drop (sb + nb)))) = _
        rw [List.drop_left' lX, List.take_left' lY]
      rw [this]
      exact merge_seg o SA SB f4 f5 f6 f7
  obtain ⟨y0, hy0⟩ := arr_get (xs := xs) (i := sb) (by omega)
  refine wpS_bind (wpS_elem hy0 ?_)
  have hB0 : ∀ y ∈ seg xs.toList sb nb, r y y0 = false := fun y hy => by
    obtain ⟨j, hj⟩ := List.getElem?_of_mem hy
    exact pw_le o SB (atB (j := 0) (by omega) hy0) hj (Nat.zero_le _)
  refine wpS_bind (wpS_gallop hc g1 (fun i => match xs[sa + i]? with | some x => !r y0 x | none => false) (fun i hi => ?_) (mm hy0) (fun i j hij hj hp => ?_) (by omega) fun k kn klo khi => ?_)
  · obtain ⟨x, hx⟩ := arr_get (xs := xs) (i := sa + i) (by omega)
    refine ⟨x, hx, mm hx, ?_⟩
    try dsimp only
    rw [hx]
    rfl
  · obtain ⟨xj, hxj⟩ := arr_get (xs := xs) (i := sa + j) (by omega)
    obtain ⟨xi, hxi⟩ := arr_get (xs := xs) (i := sa + i) (by omega)
    try dsimp only at hp ⊢
    rw [hxj] at hp
    rw [hxi]
    rw [Bool.not_eq_true'] at hp ⊢
    exact o.ntr _ _ _ (pw_le o SA (atA (by omega) hxi) (atA (by omega) hxj) hij) hp
  dsimp only
  have low : ∀ x ∈ (seg xs.toList sa na).take k, ∀ y ∈ seg xs.toList sb nb, r y x = false := fun x hx y hy => by
    obtain ⟨j, hj⟩ := List.getElem?_of_mem hx
    have hjk : j < k := by have := (List.getElem?_eq_some_iff.mp hj).1; rw [List.length_take] at this; omega
    rw [List.getElem?_take_of_lt hjk] at hj
    obtain ⟨hj1, hj2⟩ := atA' hj
    have := klo j hjk
    try dsimp only at this
    rw [hj2, Bool.not_eq_true'] at this
    exact o.ntr x y0 y this (hB0 y hy)
  by_cases hz0 : (na - k == 0) = true
  · rw [if_pos hz0]
    have ek : k = na := by have := beq_iff_eq.mp hz0; omega
    subst ek
    refine wpS_pure (fin k 0 [] st0 (Nat.le_refl _) (Nat.zero_le _) g1 g4 g3 (by rw [List.drop_eq_nil_of_le (by omega)]; exact .refl _) .nil low (fun z hz w hw => ?_) ?_)
    · exact low z (by rw [List.take_of_length_le (by omega)]; exact hz) w (List.mem_of_mem_drop hw)
    · rw [g2, List.nil_append, List.length_nil, Nat.add_zero, List.take_append_drop]
  rw [if_neg hz0]
  have hz0' : ¬ (na - k = 0) := fun z => hz0 (beq_iff_eq.mpr z)
  obtain ⟨x0, hx0⟩ := arr_get (xs := xs) (i := sa + k + (na - k) - 1) (by omega)
  refine wpS_bind (wpS_elem hx0 ?_)
  have hx0' : xs[sa + (na - 1)]? = some x0 := by rw [← hx0]; congr 1; omega
  have hA0 : ∀ x ∈ seg xs.toList sa na, r x0 x = false := fun x hx => by
    obtain ⟨j, hj⟩ := List.getElem?_of_mem hx
    exact pw_le o SA hj (atA (j := na - 1) (by omega) hx0') (by have := (atA' hj).1; omega)
  refine wpS_bind (wpS_gallop hc g1 (fun i => match xs[sb + i]? with | some y => r y x0 | none => false) (fun i hi => ?_) (mm hx0) (fun i j hij hj hp => ?_) (by omega) fun n nn nlo nhi => ?_)
  · obtain ⟨y, hy⟩ := arr_get (xs := xs) (i := sb + i) (by omega)
    refine ⟨y, hy, mm hy, ?_⟩
    try dsimp only
    rw [hy]
    rfl
  · obtain ⟨yj, hyj⟩ := arr_get (xs := xs) (i := sb + j) (by omega)
    obtain ⟨yi, hyi⟩ := arr_get (xs := xs) (i := sb + i) (by omega)
    try dsimp only at hp ⊢
    rw [hyj] at hp
    rw [hyi]
    exact lt_le o hp (pw_le o SB (atB (by omega) hyi) (atB (by omega) hyj) hij)
  dsimp only
  have high : ∀ z ∈ seg xs.toList sa na, ∀ w ∈ (seg xs.toList sb nb).drop n, r w z = false := fun z hz w hw => by
    obtain ⟨j, hj⟩ := List.getElem?_of_mem hw
    rw [List.getElem?_drop] at hj
    obtain ⟨hj1, hj2⟩ := atB' hj
    have := nhi (n + j) (by omega) hj1
    try dsimp only at this
    rw [hj2] at this
    exact o.ntr z x0 w (hA0 z hz) this
  by_cases hz1 : (n == 0) = true
  · rw [if_pos hz1]
    have en : n = 0 := beq_iff_eq.mp hz1
    subst en
    refine wpS_pure (fin na 0 [] st0 (Nat.le_refl _) (Nat.zero_le _) g1 g4 g3 (by rw [List.drop_eq_nil_of_le (by omega)]; exact .refl _) .nil (fun x hx y hy => ?_) high ?_)
    · exact high x (List.mem_of_mem_take hx) y (by rw [List.drop_zero]; exact hy)
    · rw [g2, List.nil_append, List.length_nil, Nat.add_zero, List.take_append_drop]
  rw [if_neg hz1]
  have hz1' : ¬ (n = 0) := fun z => hz1 (beq_iff_eq.mpr z)
  -- the merge
  have xA : (xs.extract (sa + k) sb).toList = (seg xs.toList sa na).drop k := by
    rw [ext_to]
    unfold seg
    rw [List.drop_take, List.drop_drop, show sb - (sa + k) = na - k by omega]
  have xB : (xs.extract sb (sb + n)).toList = (seg xs.toList sb nb).take n := by
    rw [ext_to, show sb + n - sb = n by omega]
    unfold seg
    rw [List.take_take, Nat.min_eq_left nn]
  have sizeA : (xs.extract (sa + k) sb).size = na - k := by rw [← Array.length_toList, xA, List.length_drop, lA]
  have sizeB : (xs.extract sb (sb + n)).size = n := by rw [← Array.length_toList, xB, List.length_take, lB]; omega
  have C : MCx r (xs.extract (sa + k) sb) (xs.extract sb (sb + n)) := ⟨o, by rw [xA]; exact List.Pairwise.sublist (List.drop_sublist _ _) SA, by rw [xB]; exact List.Pairwise.sublist (List.take_sublist _ _) SB⟩
  have mA : ∀ x ∈ (xs.extract (sa + k) sb).toList, x ∈ a₀.toList := fun x hx => by
    rw [xA] at hx
    obtain ⟨j, hj⟩ := List.getElem?_of_mem (List.mem_of_mem_drop hx)
    exact mm (atA' hj).2
  have mB : ∀ x ∈ (xs.extract sb (sb + n)).toList, x ∈ a₀.toList := fun x hx => by
    rw [xB] at hx
    obtain ⟨j, hj⟩ := List.getElem?_of_mem (List.mem_of_mem_take hx)
    exact mm (atB' hj).2
  have m0 : ∀ y, (xs.extract sb (sb + n))[0]? = some y → ∀ x ∈ (xs.extract (sa + k) sb).toList, r x y = false := fun y hy x hx => by
    have hy1 := arr_at hy
    rw [xB, List.getElem?_take_of_lt (by omega), seg_at (by omega), Nat.add_zero, Array.getElem?_toList, hy0] at hy1
    cases hy1
    rw [xA] at hx
    obtain ⟨j, hj⟩ := List.getElem?_of_mem hx
    rw [List.getElem?_drop] at hj
    obtain ⟨hj1, hj2⟩ := atA' hj
    have := khi (k + j) (by omega) hj1
    try dsimp only at this
    rw [hj2, Bool.not_eq_false'] at this
    exact o.asy _ _ this
  have ml : ∀ x, (xs.extract (sa + k) sb)[(xs.extract (sa + k) sb).size - 1]? = some x → ∀ y ∈ (xs.extract sb (sb + n)).toList, r x y = false := fun x hx y hy => by
    have hx1 := arr_at hx
    rw [sizeA, xA, List.getElem?_drop, seg_at (by omega), Array.getElem?_toList, show sa + (k + (na - k - 1)) = sa + (na - 1) by omega, hx0'] at hx1
    cases hx1
    rw [xB] at hy
    obtain ⟨j, hj⟩ := List.getElem?_of_mem hy
    have hjn : j < n := by have := (List.getElem?_eq_some_iff.mp hj).1; rw [List.length_take] at this; omega
    rw [List.getElem?_take_of_lt hjn] at hj
    obtain ⟨hj1, hj2⟩ := atB' hj
    have := nlo j hjn
    try dsimp only at this
    rw [hj2] at this
    exact o.asy _ _ this
  have done : ∀ (res : Array Keyed) (st1 : SortSt), SG st0 st1 → Good r (xs.extract (sa + k) sb) (xs.extract sb (sb + n)) res → Q true (setArr st1 (List.foldl (fun a x => a.setIfInBounds (sa + k + x.snd) x.fst) (arrOf st1) res.toList.zipIdx)) := fun res st1 sg gd => by
    have p1 := gd.1
    rw [xA, xB] at p1
    have lR : res.toList.length = na - k + n := by rw [p1.length_eq, List.length_append, List.length_drop, List.length_take, lA, lB]; omega
    refine fin k n res.toList _ kn nn (by show kindOf st1 = κ; rw [sg.1]; exact g1) (by show failedOf st1 = none; rw [sg.2.2.2]; exact g4) (by show (pendingOf st1).toList = _; rw [sg.2.2.1]; exact g3) p1 gd.2 low high ?_
    show (List.foldl (fun a x => a.setIfInBounds (sa + k + x.snd) x.fst) (arrOf st1) res.toList.zipIdx).toList = _
    rw [sg.2.1, g2]
    exact put_all (sa + k) res.toList 0 xs (by rw [lR]; omega)
  by_cases hle : na - k ≤ n
  · rw [if_pos hle]
    refine wpS_bind (wpS_mergeLo hc g1 C mA mB (by omega) (by omega) m0 ml fun res st1 sg gd => ?_)
    refine wpS_bind (wpS_modify (wpS_bind (wpS_get ?_)))
    have ef : (failedOf (setArr st1 (List.foldl (fun a x => a.setIfInBounds (sa + k + x.snd) x.fst) (arrOf st1) res.toList.zipIdx))).isNone = true := by
      show (failedOf st1).isNone = true
      rw [sg.2.2.2, g4]
      rfl
    rw [ef]
    exact wpS_pure (done res st1 sg gd)
  · rw [if_neg hle]
    refine wpS_bind (wpS_mergeHi hc g1 C mA mB (by omega) (by omega) m0 ml fun res st1 sg gd => ?_)
    refine wpS_bind (wpS_modify (wpS_bind (wpS_get ?_)))
    have ef : (failedOf (setArr st1 (List.foldl (fun a x => a.setIfInBounds (sa + k + x.snd) x.fst) (arrOf st1) res.toList.zipIdx))).isNone = true := by
      show (failedOf st1).isNone = true
      rw [sg.2.2.2, g4]
      rfl
    rw [ef]
    exact wpS_pure (done res st1 sg gd)
end
end PyProof.Rows.Tim
-- part S7
set_option Elab.async false
set_option linter.all false
set_option maxRecDepth 100000
set_option maxHeartbeats 4000000
namespace PyProof.Rows.Tim
open PySem
section
variable {prog : Program} {w : World} {A : Around} {E : Value → Shared → Prop} {s : Shared} {κ : SortKind} {a₀ : Array Keyed} {r : Keyed → Keyed → Bool}
structure RS (a₀ : Array Keyed) (κ : SortKind) (r : Keyed → Keyed → Bool) (st : SortSt) (lo : Nat) : Prop where
  kind : kindOf st = κ
  perm : (arrOf st).Perm a₀
  fail : failedOf st = none
  runs : Runs r (arrOf st).toList (pendingOf st).toList 0 lo
  le : lo ≤ a₀.size
theorem cut2 {α : Type} {l : List α} {i : Nat} (h : i + 1 < l.length) : ∃ pre a b post, l = pre ++ a :: b :: post ∧ pre.length = i := by
  refine ⟨l.take i, l[i], l[i + 1], l.drop (i + 2), ?_, by rw [List.length_take]; omega⟩
  rw [← List.drop_eq_getElem_cons h, ← List.drop_eq_getElem_cons (by omega), List.take_append_drop]
theorem RS.merge {st : SortSt} {lo i : Nat} {Q : Bool → SortSt → Prop} (o : Ord r) (hc : Cmp prog w A E s κ a₀ r) (R : RS a₀ κ r st lo) (hi : i + 1 < (pendingOf st).size)
    (h : ∀ st', RS a₀ κ r st' lo → (pendingOf st').size + 1 = (pendingOf st).size → (arrOf st').toList.drop lo = (arrOf st).toList.drop lo → Q true st') : wpS (model prog w) A E s (mergeAt' i) Q st := by
  obtain ⟨pre, ⟨sa, na, pw⟩, ⟨sb, nb, pw2⟩, post, hp, hl⟩ := cut2 (l := (pendingOf st).toList) (i := i) (by rw [Array.length_toList]; exact hi)
  have hr := R.runs
  rw [hp] at hr
  obtain ⟨m, h1, h2⟩ := Runs.app.mp hr
  obtain ⟨a1, a2, a3, h3⟩ := h2
  obtain ⟨b1, b2, b3, h4⟩ := h3
  dsimp only at a1 a2 a3 b1 b2 b3 h4
  subst a1
  have l4 := h4.le
  have l1 := h1.le
  have le := R.le
  refine wpS_mergeAt o hc R.kind R.perm R.fail hp hl b1 a2 b2 (by omega) a3 b3 fun st' g1 g2 g3 g4 g5 g6 g7 => ?_
  refine h st' ⟨g1, g2, g3, ?_, le⟩ ?_ ?_
  · rw [g4]
    refine Runs.app.mpr ⟨sa, h1.congr fun s n q1 q2 => seg_pre g5.symm q2, rfl, (show 1 ≤ na + nb by omega), g7, ?_⟩
    show Runs r (arrOf st').toList post (sa + (na + nb)) lo
    rw [← Nat.add_assoc]
    exact h4.congr fun s n q1 q2 => seg_post (m := sb + nb) g6.symm (by omega)
  · rw [← Array.length_toList, ← Array.length_toList, g4, hp]
    simp only [List.length_append, List.length_cons]
    omega
  · have key : ∀ M : List Keyed, M.drop lo = (M.drop (sb + nb)).drop (lo - (sb + nb)) := fun M => by
      rw [List.drop_drop]
      congr 1
      omega
    rw [key, key (arrOf st).toList, g6]
theorem RS.push {st : SortSt} {lo n : Nat} (R : RS a₀ κ r st lo) (n1 : 1 ≤ n) (hz : lo + n ≤ a₀.size) (S : Pw r (seg (arrOf st).toList lo n)) : RS a₀ κ r (setPending st ((pendingOf st).push (lo, n, 0))) (lo + n) := by
  refine ⟨R.kind, R.perm, R.fail, ?_, hz⟩
  show Runs r (arrOf st).toList ((pendingOf st).push (lo, n, 0)).toList 0 (lo + n)
  rw [Array.toList_push]
  exact Runs.app.mpr ⟨lo, R.runs, rfl, n1, S, rfl⟩
theorem runs_pow {L : List Keyed} {pw : Nat} : ∀ {ps : List (Nat × Nat × Nat)} {i p q : Nat}, Runs r L ps p q → Runs r L (ps.modify i fun x => (x.fst, x.2.fst, pw)) p q
  | [], i, p, q, h => by rw [List.modify_nil]; exact h
  | x :: ps, 0, p, q, h => by
    rw [List.modify_zero_cons]
    exact h
  | x :: ps, i + 1, p, q, ⟨h1, h2, h3, h4⟩ => by
    rw [List.modify_succ_cons]
    exact ⟨h1, h2, h3, runs_pow h4⟩
theorem RS.pow {st : SortSt} {lo i pw : Nat} (R : RS a₀ κ r st lo) : RS a₀ κ r (setPending st ((pendingOf st).modify i fun x => (x.fst, x.2.fst, pw))) lo := by
  refine ⟨R.kind, R.perm, R.fail, ?_, R.le⟩
  show Runs r (arrOf st).toList ((pendingOf st).modify i fun x => (x.fst, x.2.fst, pw)).toList 0 lo
  rw [Array.toList_modify]
  exact runs_pow R.runs
theorem take_pre {xs ys : Array Keyed} {lo : Nat} (h : ∀ k, k < lo → xs[k]? = ys[k]?) : xs.toList.take lo = ys.toList.take lo := by
  refine List.ext_getElem? fun k => ?_
  by_cases hk : k < lo
  · rw [List.getElem?_take_of_lt hk, List.getElem?_take_of_lt hk, Array.getElem?_toList, Array.getElem?_toList]
    exact h k hk
  · rw [List.getElem?_eq_none (by rw [List.length_take]; omega), List.getElem?_eq_none (by rw [List.length_take]; omega)]
theorem CB.rs {st st' : SortSt} {lo : Nat} (R : RS a₀ κ r st lo) (B : CB a₀ κ lo st st') : RS a₀ κ r st' lo := by
  refine ⟨B.kind, B.perm, B.fail.trans R.fail, ?_, R.le⟩
  rw [B.pend]
  exact R.runs.congr fun s n q1 q2 => seg_pre (take_pre fun k hk => (B.pre k hk).symm) q2
theorem wpS_sortRunsX {st : SortSt} {Q : Unit → SortSt → Prop} (o : Ord r) (hc : Cmp prog w A E s κ a₀ r) (h2 : 2 ≤ a₀.size) (k0 : kindOf st = κ) (p0 : (arrOf st).Perm a₀) (f0 : failedOf st = none) (e0 : pendingOf st = #[])
    (h : ∀ st', (arrOf st').Perm a₀ → failedOf st' = none → Pw r (arrOf st').toList → Q () st') : wpS (model prog w) A E s sortRuns' Q st := by
  rw [sortRuns'_eq]
  dsimp only
  refine wpS_bind (wpS_get ?_)
  have z0 : (arrOf st).size = a₀.size := p0.size_eq
  rw [z0]
  generalize minRun' a₀.size a₀.size 0 = mr
  refine wpS_bind (wpS_mono (wpS_forRange (I := fun x c st1 => ∃ lo, c = (none, lo) ∧ RS a₀ κ r st1 lo ∧ x ≤ lo) (Q := fun c st1 => c = (none, a₀.size) ∧ RS a₀ κ r st1 a₀.size) ?step ?fin ⟨0, rfl, ⟨k0, p0, f0, by rw [e0]; exact rfl, Nat.zero_le _⟩, Nat.le_refl _⟩) ?post)
  case fin =>
    rintro c st1 ⟨lo, rfl, R, hx⟩
    rw [Nat.max_eq_right (Nat.zero_le _)] at hx
    have := R.le
    obtain rfl : lo = a₀.size := by omega
    exact ⟨rfl, R⟩
  case step =>
    rintro x c st1 _ hx ⟨lo, rfl, R1, hxl⟩
    dsimp only
    by_cases hge : lo ≥ a₀.size
    · rw [if_pos hge]
      have := R1.le
      obtain rfl : lo = a₀.size := by omega
      exact wpS_pure ⟨rfl, R1⟩
    rw [if_neg hge]
    refine wpS_bind (wpS_countRunX o hc (st := st1) ⟨R1.kind, rfl, rfl, R1.perm, fun _ _ => rfl⟩ (by omega) (by omega) fun found st2 B2 f1 f2 S => ?_)
    dsimp only
    by_cases hlt : found < mr
    · rw [if_pos hlt]
      refine wpS_bind (wpS_lift (wpAny_rule ⟨rfl, ?_⟩))
      have hfn : found ≤ min (a₀.size - lo) mr := by omega
      have hfz : min (a₀.size - lo) mr ≤ a₀.size - lo := by omega
      generalize min (a₀.size - lo) mr = n at hfn hfz
      refine wpS_bind (wpS_binarySortX o hc B2 f1 hfn (by omega) S fun st3 B3 S3 => ?_)
      rw [if_neg (by decide)]
      have R2 := CB.rs R1 B3
      have S2 := S3.pw
      have n1 : 1 ≤ n := by omega
      clear S3 B3 B2 S
      clear st2
      revert R2 S2
      generalize st3 = st2
      intro R2 S2
      refine wpS_bind (wpS_get ?_)
      cases hb : (pendingOf st2).back? with
      | none =>
        try dsimp only
        exact wpS_bind (wpS_modify (wpS_pure ⟨_, rfl, R2.push n1 (by omega) S2, by omega⟩))
      | some z =>
        obtain ⟨s1, m1, p1⟩ := z
        try dsimp only
        refine wpS_bind (wpS_mono (wpS_forRange (I := fun _ c st' => c = (none, ()) ∧ RS a₀ κ r st' lo ∧ (arrOf st').toList.drop lo = (arrOf st2).toList.drop lo) (Q := fun c st' => c = (none, ()) ∧ RS a₀ κ r st' lo ∧ (arrOf st').toList.drop lo = (arrOf st2).toList.drop lo) ?_ (fun c st' hh => hh) ⟨rfl, R2, rfl⟩) ?_)
        · rintro y c st' _ _ ⟨rfl, R, hd⟩
          refine wpS_bind (wpS_get ?_)
          by_cases hs : (pendingOf st').size > 1
          · rw [if_pos hs]
            cases hq : (pendingOf st')[(pendingOf st').size - 2]? with
            | none => exact wpS_pure ⟨rfl, R, hd⟩
            | some z =>
              obtain ⟨z1, z2, older⟩ := z
              dsimp only
              split
              · exact wpS_pure ⟨rfl, R, hd⟩
              · refine wpS_bind (R.merge o hc (by omega) fun st'' R'' _ hd'' => ?_)
                rw [if_neg (by decide)]
                exact wpS_pure ⟨rfl, R'', hd''.trans hd⟩
          · rw [if_neg hs]
            exact wpS_pure ⟨rfl, R, hd⟩
        rintro c st' ⟨rfl, R, hd⟩
        dsimp only
        refine wpS_bind (wpS_modify (wpS_bind (wpS_modify (wpS_pure ⟨_, rfl, R.pow.push n1 (by omega) ?_, by omega⟩))))
        show Pw r (seg (arrOf st').toList lo _)
        rw [seg_post (L' := (arrOf st2).toList) hd (Nat.le_refl _)]
        exact S2
    · rw [if_neg hlt]
      have R2 := CB.rs R1 B2
      have S2 := S.pw
      have n1 := f1
      clear S B2
      clear R1
      refine wpS_bind (wpS_get ?_)
      cases hb : (pendingOf st2).back? with
      | none =>
        try dsimp only
        exact wpS_bind (wpS_modify (wpS_pure ⟨_, rfl, R2.push n1 (by omega) S2, by omega⟩))
      | some z =>
        obtain ⟨s1, m1, p1⟩ := z
        try dsimp only
        refine wpS_bind (wpS_mono (wpS_forRange (I := fun _ c st' => c = (none, ()) ∧ RS a₀ κ r st' lo ∧ (arrOf st').toList.drop lo = (arrOf st2).toList.drop lo) (Q := fun c st' => c = (none, ()) ∧ RS a₀ κ r st' lo ∧ (arrOf st').toList.drop lo = (arrOf st2).toList.drop lo) ?_ (fun c st' hh => hh) ⟨rfl, R2, rfl⟩) ?_)
        · rintro y c st' _ _ ⟨rfl, R, hd⟩
          refine wpS_bind (wpS_get ?_)
          by_cases hs : (pendingOf st').size > 1
          · rw [if_pos hs]
            cases hq : (pendingOf st')[(pendingOf st').size - 2]? with
            | none => exact wpS_pure ⟨rfl, R, hd⟩
            | some z =>
              obtain ⟨z1, z2, older⟩ := z
              dsimp only
              split
              · exact wpS_pure ⟨rfl, R, hd⟩
              · refine wpS_bind (R.merge o hc (by omega) fun st'' R'' _ hd'' => ?_)
                rw [if_neg (by decide)]
                exact wpS_pure ⟨rfl, R'', hd''.trans hd⟩
          · rw [if_neg hs]
            exact wpS_pure ⟨rfl, R, hd⟩
        rintro c st' ⟨rfl, R, hd⟩
        dsimp only
        refine wpS_bind (wpS_modify (wpS_bind (wpS_modify (wpS_pure ⟨_, rfl, R.pow.push n1 (by omega) ?_, by omega⟩))))
        show Pw r (seg (arrOf st').toList lo _)
        rw [seg_post (L' := (arrOf st2).toList) hd (Nat.le_refl _)]
        exact S2
  case post =>
    rintro c st1 ⟨rfl, R1⟩
    dsimp only
    refine wpS_bind (wpS_mono (wpS_forRange (I := fun x c st' => c = (none, ()) ∧ RS a₀ κ r st' a₀.size ∧ (pendingOf st').size + x ≤ a₀.size) (Q := fun c st' => c = (none, ()) ∧ RS a₀ κ r st' a₀.size ∧ (pendingOf st').size ≤ 1) ?_ ?_ ⟨rfl, R1, by have := R1.runs.le; rw [Array.length_toList] at this; omega⟩) ?_)
    · rintro x c st' _ _ ⟨rfl, R, hx⟩
      refine wpS_bind (wpS_get ?_)
      by_cases hs : (pendingOf st').size ≤ 1
      · rw [if_pos hs]
        exact wpS_pure ⟨rfl, R, hs⟩
      rw [if_neg hs]
      have idx : ∀ c : Prop, ∀ _ : Decidable c, (if c then (pendingOf st').size - 2 - 1 else (pendingOf st').size - 2) + 1 < (pendingOf st').size := fun c _ => by split <;> omega
      refine wpS_bind (R.merge o hc (idx _ _) fun st'' R'' z'' _ => ?_)
      rw [if_neg (by decide)]
      exact wpS_pure ⟨rfl, R'', by omega⟩
    · rintro c st' ⟨rfl, R, hx⟩
      rw [Nat.max_eq_right (Nat.zero_le _)] at hx
      exact ⟨rfl, R, by omega⟩
    rintro c st' ⟨rfl, R, hs⟩
    refine wpS_pure (h st' R.perm R.fail ?_)
    have hr := R.runs
    have hl : (pendingOf st').toList.length ≤ 1 := by rw [Array.length_toList]; exact hs
    match hp : (pendingOf st').toList, hl with
    | [], _ =>
      rw [hp] at hr
      have : 0 = a₀.size := hr
      omega
    | [x], _ =>
      rw [hp] at hr
      obtain ⟨q1, q2, q3, q4⟩ := hr
      have q4' : 0 + x.2.1 = a₀.size := q4
      rw [q1] at q3
      have : seg (arrOf st').toList 0 x.2.1 = (arrOf st').toList := by
        unfold seg
        rw [List.drop_zero, List.take_of_length_le (by rw [Array.length_toList, R.perm.size_eq]; omega)]
      rw [this] at q3
      exact q3
    | _ :: _ :: _, h => simp at h
end
end PyProof.Rows.Tim
-- part S8
set_option Elab.async false
set_option linter.all false
set_option maxRecDepth 100000
set_option maxHeartbeats 4000000
namespace PyProof.Rows.Tim
open PySem PySem.W
/-! ### the shell of sorted, for any order and any size -/
section
variable {prog : Program} {w : World} {A : Around} {E : Value → Shared → Prop} {s : Shared} {κ : SortKind} {r : Keyed → Keyed → Bool}
/-- what is known of the things to be sorted wherever they stand as they were -/
def Asks (prog : Program) (w : World) (A : Around) (E : Value → Shared → Prop) (κ : SortKind) (r : Keyed → Keyed → Bool) (a : Addr) (h : Heap) (vs : List Value) : Prop :=
  ∀ s6 : Shared, (∀ b o, b ≠ a → h.get? b = some o → s6.heap.get? b = some o) → (2 ≤ vs.length → ∀ Q : SortKind → Shared → Prop, Q κ s6 → wpAny (model prog w) A (keyKind' vs.toArray) Q E s6) ∧ Cmp prog w A E s6 κ (pairsOf vs) r
theorem list_sort_X (o : Ord r) {a : Addr} {vs : List Value} {n : Nat} {P : PySem.Fin → Shared → Prop} (ho : s.heap.get? a = some (seqObj "list" vs.toArray n)) (hc : Asks prog w A E κ r a s.heap vs) (hz : vs.length ≤ 1000)
    (h : ∀ xs : Array Keyed, xs.Perm (pairsOf vs) → Pw r xs.toList → P (.done (.ret .none)) { s with heap := sortedHeap s.heap a vs (xs.map (·.2)) }) :
    wpAny (model prog w) A (Builtin.«list.sort» ⟨[.ref a], []⟩) P E s := by
  rw [list_sort_plain]
  have ha : a < s.heap.objs.size := Heap.lt_size ho
  have hszl : vs.toArray.size ≤ sizeLine := by rw [List.size_toArray, sizeLine_eq]; omega
  refine wpAny_bind (listItems_at ho rfl ?_)
  refine wpAny_bind (listUpdate_at ho rfl ?_ hszl)
  obtain ⟨e1, ho1⟩ : ∃ e1, (s.heap.update a (Obj.mapSeq fun _ => #[])).get? a = some (seqObj "list" #[] e1) := ⟨_, get?_update_seq ho (fun _ => #[])⟩
  refine wpAny_bind (seqEpoch_at ho1 rfl ?_)
  refine wpAny_bind (wpAny_newTuple ?_ (by simpa using hszl))
  refine wpAny_bind (wpAny_newList ?_)
  refine wpAny_holding ?_
  have ho6 : (((s.heap.update a (Obj.mapSeq fun _ => #[])).push (seqObj "tuple" vs.toArray 0)).push (seqObj "list" #[] 0)).get? a = some (seqObj "list" #[] e1) := by
    rw [Heap.get?_push_ne _ _ _ (by rw [size_push', Heap.size_update]; exact Nat.ne_of_lt (Nat.lt_succ_of_lt ha)), Heap.get?_push_ne _ _ _ (by rw [Heap.size_update]; exact Nat.ne_of_lt ha)]
    exact ho1
  show wpAny (model prog w) A _ P E { s with heap := ((s.heap.update a (Obj.mapSeq fun _ => #[])).push (seqObj "tuple" vs.toArray 0)).push (seqObj "list" #[] 0) }
  dsimp only
  have keep : ∀ b o, b ≠ a → s.heap.get? b = some o → ((((s.heap.update a (Obj.mapSeq fun _ => #[])).push (seqObj "tuple" vs.toArray 0)).push (seqObj "list" #[] 0))).get? b = some o := fun b ob hb e =>
    Heap.get?_push_of_some _ (Heap.get?_push_of_some _ (by rw [Heap.get?_update_ne _ _ _ _ hb]; exact e))
  obtain ⟨hk, hcm⟩ := hc { s with heap := ((s.heap.update a (Obj.mapSeq fun _ => #[])).push (seqObj "tuple" vs.toArray 0)).push (seqObj "list" #[] 0) } keep
  have hsz : vs.toArray.size = vs.length := by simp
  by_cases h2 : vs.toArray.size < 2
  · rw [if_pos h2, if_pos h2]
    refine wpAny_bind (wpAny_pure ?_)
    rw [StateT.run_pure]
    refine wpAny_bind (wpAny_pure ?_)
    dsimp only
    refine wpAny_bind (seqEpoch_at ho6 rfl ?_)
    refine wpAny_bind (listUpdate_at ho6 rfl ?_ (hsz2 := by rw [Array.size_map]; show (pairsOf vs).size ≤ _; rw [pairsOf_size, sizeLine_eq]; omega))
    simp only [bne_self_eq_false, Bool.false_eq_true, if_false]
    refine wpAny_pure (h (pairsOf vs) (Array.Perm.refl _) ?_)
    have hl : (pairsOf vs).toList.length < 2 := by rw [Array.length_toList, pairsOf_size]; omega
    match (pairsOf vs).toList, hl with
    | [], _ => exact .nil
    | [x], _ => exact List.pairwise_singleton _ _
    | _ :: _ :: _, h => exact absurd h (by simp)
  · rw [if_neg h2, if_neg h2]
    refine wpAny_bind (hk (by omega) _ ?_)
    refine wpAny_bind (wpAny_mono (wpS_sortRunsX (κ := κ) (r := r) (a₀ := pairsOf vs) (st := SortSt.mk' κ (vs.toArray.zip vs.toArray) #[] 7 none)
      (Q := fun _ st' => (arrOf st').Perm (pairsOf vs) ∧ failedOf st' = none ∧ Pw r (arrOf st').toList) o hcm (by rw [pairsOf_size]; omega) rfl (Array.Perm.refl _) rfl rfl fun st' a1 a2 a3 => ⟨a1, a2, a3⟩) ?_ fun _ _ e => e)
    rintro ⟨⟨⟩, st'⟩ s' ⟨rfl, hp, hf, hs⟩
    dsimp only
    refine wpAny_bind (seqEpoch_at ho6 rfl ?_)
    refine wpAny_bind (listUpdate_at ho6 rfl ?_ (hsz2 := by refine Nat.le_trans (Nat.le_of_eq ((Array.size_map ..).trans (hp.size_eq.trans (pairsOf_size _)))) ?_; rw [sizeLine_eq]; omega))
    rw [hf]
    simp only [bne_self_eq_false, Bool.false_eq_true, if_false]
    exact wpAny_pure (h _ hp hs)
theorem sorted_X (o : Ord r) {l : Addr} {vs : List Value} {Q : Value → Shared → Prop} (hl : s.heap.IsList l vs.toArray) (hc : ∀ h' a, (∀ b ob, s.heap.get? b = some ob → h'.get? b = some ob) → (∀ b ob, s.heap.get? b = some ob → b ≠ a) → Asks prog w A.in1.in1 (fun _ _ => False) κ r a h' vs) (hz : vs.length ≤ 1000)
    (h : ∀ xs : Array Keyed, xs.Perm (pairsOf vs) → Pw r xs.toList → Q (.ref (s.heap.objs.size + 1)) { s with heap := sortedAll s.heap vs (xs.map (·.2)) }) :
    wpAny (model prog w) A (call (.builtin "sorted") [.ref l]) Q E s := by
  have hszl : vs.length ≤ sizeLine := by rw [sizeLine_eq]; omega
  refine Calls.call_function_entry kind_sorted plain_sorted entry_sorted (args_sorted1 _) ?_
  unfold Builtin.«sorted»
  refine wpAny_bind (m := checkCount "sorted" 1 1 _) (wpAny_pure ?_)
  refine wpAny_bind (collect_list hl ?_ hszl)
  refine wpAny_bind (wpAny_newList ?_ hszl)
  have hsz : ((s.heap.push (seqObj "list" #[] 0)).update s.heap.objs.size (Obj.mapSeq (· ++ vs.toArray))).objs.size = s.heap.objs.size + 1 := by
    rw [Heap.size_update, size_push']
  have hoL : (((s.heap.push (seqObj "list" #[] 0)).update s.heap.objs.size (Obj.mapSeq (· ++ vs.toArray))).push (seqObj "list" vs.toArray 0)).get? (s.heap.objs.size + 1) = some (seqObj "list" vs.toArray 0) := by
    rw [← hsz]; exact Heap.get?_push_size _ rfl
  show wpAny _ _ _ _ _ { s with heap := ((s.heap.push (seqObj "list" #[] 0)).update s.heap.objs.size (Obj.mapSeq (· ++ vs.toArray))).push (seqObj "list" vs.toArray 0) }
  rw [hsz]
  have asks := hc (((s.heap.push (seqObj "list" #[] 0)).update s.heap.objs.size (Obj.mapSeq (· ++ vs.toArray))).push (seqObj "list" vs.toArray 0)) (s.heap.objs.size + 1)
    (fun b ob e => Heap.get?_push_of_some _ (by rw [Heap.get?_update_ne _ _ _ _ (Nat.ne_of_lt (Heap.lt_size e))]; exact Heap.get?_push_of_some _ e)) (fun b ob e => Nat.ne_of_lt (Nat.lt_succ_of_lt (Heap.lt_size e)))
  have asksE : Asks prog w A.in1.in1 E κ r (s.heap.objs.size + 1) (((s.heap.push (seqObj "list" #[] 0)).update s.heap.objs.size (Obj.mapSeq (· ++ vs.toArray))).push (seqObj "list" vs.toArray 0)) vs := fun s6 h6 => by
    obtain ⟨q1, q2⟩ := asks s6 h6
    refine ⟨fun g Q hq => wpAny_mono (q1 g Q hq) (fun _ _ x => x) fun _ _ x => x.elim, fun x y st Q m1 m2 hk hq => ?_⟩
    exact wpAny_mono (q2 x y st Q m1 m2 hk hq) (fun _ _ x => x) fun _ _ x => x.elim
  refine wpAny_bind (wpAny_holding (wpAny_call_entry slot_list_sort ⟨_, hoL, rfl⟩ entry_list_sort (list_sort_X o hoL asksE hz fun xs a1 a2 => ⟨_, rfl, ?_⟩) (args_list_sort _)))
  exact wpAny_pure ⟨_, rfl, h xs a1 a2⟩
end
/-! ### lists of ints, in the order of words -/
def lexB : List Int → List Int → Bool
  | [], [] => false
  | [], _ :: _ => true
  | _ :: _, [] => false
  | a :: l, b :: m => if a = b then lexB l m else decide (a < b)
theorem lexB_asy : ∀ x y, lexB x y = true → lexB y x = false
  | [], [], h => by cases h
  | [], _ :: _, _ => rfl
  | _ :: _, [], h => by cases h
  | a :: l, b :: m, h => by
    unfold lexB at h ⊢
    by_cases e : a = b
    · rw [if_pos e] at h
      rw [if_pos e.symm]
      exact lexB_asy l m h
    · rw [if_neg e] at h
      rw [if_neg (Ne.symm e)]
      have := of_decide_eq_true h
      exact decide_eq_false (by omega)
theorem lexB_ntr : ∀ x y z, lexB y x = false → lexB z y = false → lexB z x = false
  | [], [], [], _, _ => rfl
  | [], [], _ :: _, _, _ => rfl
  | [], _ :: _, [], _, h => by cases h
  | [], _ :: _, _ :: _, _, _ => rfl
  | _ :: _, [], _, h, _ => by cases h
  | _ :: _, _ :: _, [], _, h => by cases h
  | a :: l, b :: m, c :: n, h1, h2 => by
    unfold lexB at h1 h2 ⊢
    by_cases e1 : b = a
    · rw [if_pos e1] at h1
      by_cases e2 : c = b
      · rw [if_pos e2] at h2
        rw [if_pos (e2.trans e1)]
        exact lexB_ntr l m n h1 h2
      · rw [if_neg e2] at h2
        have := of_decide_eq_false h2
        rw [if_neg (by omega)]
        exact decide_eq_false (by omega)
    · rw [if_neg e1] at h1
      have q1 := of_decide_eq_false h1
      by_cases e2 : c = b
      · rw [if_neg (by omega)]
        exact decide_eq_false (by omega)
      · rw [if_neg e2] at h2
        have q2 := of_decide_eq_false h2
        rw [if_neg (by omega)]
        exact decide_eq_false (by omega)
theorem lexB_eq : ∀ x y, lexB x y = false → lexB y x = false → x = y
  | [], [], _, _ => rfl
  | [], _ :: _, h, _ => by cases h
  | _ :: _, [], _, h => by cases h
  | a :: l, b :: m, h1, h2 => by
    unfold lexB at h1 h2
    by_cases e : a = b
    · rw [if_pos e] at h1
      rw [if_pos e.symm] at h2
      rw [e, lexB_eq l m h1 h2]
    · rw [if_neg e] at h1
      rw [if_neg (Ne.symm e)] at h2
      have q1 := of_decide_eq_false h1
      have q2 := of_decide_eq_false h2
      omega
theorem ord_key (key : Value → List Int) : Ord fun x y : Keyed => lexB (key x.1) (key y.1) := ⟨fun _ _ => lexB_asy _ _, fun _ _ _ => lexB_ntr _ _ _⟩
section
variable {prog : Program} {w : World} {A : Around} {s : Shared} {b : Bool} {Q : Bool → Shared → Prop}
theorem one_int {c : Bool} {x y : Int} {t u : Tok} (h : Q (decide (x < y)) s) : wpAny (model prog w) A (oneLt' c (.int x t) (.int y u)) Q (fun _ _ => False) s := by
  cases c with
  | true => exact oneLt_int h
  | false => exact kat_one _ _ (lt_int (Q := PySem.W.BoolBack Q) h)
theorem kat_ints {fin : Bool} : ∀ {us vs : List Value} {xs ys : List Int} {i : Nat}, IntsAre us xs → IntsAre vs ys → fin = decide (xs.length < ys.length) → Q (lexB xs ys) s → KatLex prog w A b fin Q (us.zip vs) i s
  | _, _, _, _, i, .nil, .nil, hf, h => by
    subst hf
    exact h
  | _, _, _, _, i, .nil, .cons _ _ _, hf, h => by
    subst hf
    exact h
  | _, _, _, _, i, .cons _ _ _, .nil, hf, h => by
    subst hf
    exact h
  | _, _, _, _, i, .cons x t ix, .cons y u iy, hf, h => by
    rw [List.zip_cons_cons]
    refine kat_cons (SeqAt.EqAt.int_int (A := A) (s := s) x t y u _ _ _ _ ?_)
    unfold lexB at h
    by_cases e : x = y
    · rw [if_pos e] at h
      rw [beq_iff_eq.mpr e]
      exact kat_yes (kat_ints ix iy (by rw [hf]; exact decide_eq_decide.mpr (by simp only [List.length_cons]; omega)) h)
    · rw [if_neg e] at h
      rw [beq_eq_false_iff_ne.mpr e]
      exact kat_no (one_int h)
end
end PyProof.Rows.Tim
-- part P15
set_option Elab.async false
set_option linter.all false
set_option maxRecDepth 100000
set_option maxHeartbeats 40000000
namespace L2
open PySem PySem.Spec PyProof.Rows PyProof.Rows.Tim
/-! ### sorted of a list of tuples of ints, of any size -/
def TpAt (H : Hp) (v : V) (k : List Int) : Prop := ∃ t : Addr, v = .ref t ∧ H t = some (.tup (k.map V.int))
theorem TpAt.same {H H' : Hp} {v : V} {k : List Int} (h : TpAt H v k) (s : Same H H') : TpAt H' v k := by
  obtain ⟨t, e, h1⟩ := h
  exact ⟨t, e, s _ _ h1⟩
def keyAt (h : Heap) : Value → List Int
  | .ref t => match h.get? t with
    | some o => match o.data with
      | .seq its _ => its.toList.map numOf
      | _ => []
    | none => []
  | _ => []
theorem keyAt_of {h : Heap} {t : Addr} {o : Obj} {its : Array Value} {n : Nat} {k : List Int} (e : h.get? t = some o) (d : o.data = .seq its n) (i : IntsAre its.toList k) : keyAt h (.ref t) = k := by
  unfold keyAt
  dsimp only
  rw [e]
  dsimp only
  rw [d]
  dsimp only
  clear d e
  generalize its.toList = us at i
  induction i with
  | nil => rfl
  | cons x t _ ih => rw [List.map_cons, ih]; rfl
def toV : Value → V
  | .ref t => .ref t
  | _ => .non
/-- a tuple of ints in the heap -/
def TupI (h : Heap) (u : Value) (k : List Int) : Prop := ∃ (t : Addr) (o : Obj) (its : Array Value) (n : Nat), u = .ref t ∧ h.get? t = some o ∧ o.cls = .type "tuple" ∧ o.data = .seq its n ∧ IntsAre its.toList k
theorem paired_mem {α β : Type} {R : α → β → Prop} : ∀ {xs : List α} {ys : List β} {x : α}, Paired R xs ys → x ∈ xs → ∃ y ∈ ys, R x y
  | _, _, _, .cons h r, m => by
    rcases List.mem_cons.mp m with rfl | m
    · exact ⟨_, List.mem_cons_self, h⟩
    · obtain ⟨y, hy, q⟩ := paired_mem r m
      exact ⟨y, List.mem_cons_of_mem _ hy, q⟩
theorem paired_map_eq {α β : Type} {R : α → β → Prop} {f : α → β} : ∀ {xs : List α} {ys : List β}, Paired R xs ys → (∀ x y, R x y → f x = y) → xs.map f = ys
  | _, _, .nil, _ => rfl
  | _, _, .cons h r, e => by rw [List.map_cons, e _ _ h, paired_map_eq r e]
theorem pairs_fst {vs : List Value} {p : Keyed} (h : p ∈ (pairsOf vs).toList) : p.1 ∈ vs ∧ p.2 = p.1 := by
  unfold pairsOf at h
  rw [Array.toList_zip, List.toList_toArray] at h
  have : ∀ (l : List Value), p ∈ l.zip l → p.1 ∈ l ∧ p.2 = p.1 := fun l => by
    induction l with
    | nil => intro h; cases h
    | cons a l ih =>
      intro h
      rw [List.zip_cons_cons] at h
      rcases List.mem_cons.mp h with rfl | h
      · exact ⟨List.mem_cons_self, rfl⟩
      · exact ⟨List.mem_cons_of_mem _ (ih h).1, (ih h).2⟩
  exact this vs h
section
variable {X : Cx}
end
end L2
-- part P16
set_option Elab.async false
set_option linter.all false
set_option maxRecDepth 100000
set_option maxHeartbeats 40000000
namespace L2
open PySem PySem.Spec PyProof.Rows PyProof.Rows.Tim
/-! ### sorted of a list of tuples ((int, int), int, int), of any size -/
abbrev I4 := Int × Int × Int × Int
def key4 (q : I4) : List Int := [q.1, q.2.1, q.2.2.1, q.2.2.2]
theorem key4_inj {a b : I4} (h : key4 a = key4 b) : a = b := by
  obtain ⟨a1, a2, a3, a4⟩ := a
  obtain ⟨b1, b2, b3, b4⟩ := b
  simp only [key4, List.cons.injEq, and_true] at h
  obtain ⟨h1, h2, h3, h4⟩ := h
  subst h1 h2 h3 h4
  rfl
def SpAt (H : Hp) (v : V) (q : I4) : Prop := ∃ t t' : Addr, v = .ref t ∧ H t = some (.tup [.ref t', .int q.2.2.1, .int q.2.2.2]) ∧ H t' = some (.tup [.int q.1, .int q.2.1])
/-- such a tuple in the heap -/
def TupN (h : Heap) (u : Value) (k : I4) : Prop := ∃ (t : Addr) (o : Obj) (n : Nat) (t' : Addr) (o' : Obj) (n' : Nat) (k1 k2 k3 k4 : Tok), u = .ref t ∧ h.get? t = some o ∧ o.cls = .type "tuple" ∧ o.data = .seq #[.ref t', .int k.2.2.1 k3, .int k.2.2.2 k4] n ∧
  h.get? t' = some o' ∧ o'.cls = .type "tuple" ∧ o'.data = .seq #[.int k.1 k1, .int k.2.1 k2] n'
theorem TupN.keep {h h' : Heap} {u : Value} {k : I4} {a : Addr} (x : TupN h u k) (kp : ∀ b o, b ≠ a → h.get? b = some o → h'.get? b = some o) (na : ∀ b o, h.get? b = some o → b ≠ a) : TupN h' u k := by
  obtain ⟨t, o, n, t', o', n', k1, k2, k3, k4, e, g, c, d, g', c', d'⟩ := x
  exact ⟨t, o, n, t', o', n', k1, k2, k3, k4, e, kp t o (na t o g) g, c, d, kp t' o' (na t' o' g') g', c', d'⟩
def keyN (h : Heap) : Value → List Int
  | .ref t => match h.get? t with
    | some o => match o.data with
      | .seq its _ => keyAt h (its.toList.getD 0 .none) ++ (its.toList.drop 1).map numOf
      | _ => []
    | none => []
  | _ => []
theorem keyN_of {h : Heap} {u : Value} {k : I4} (x : TupN h u k) : keyN h u = key4 k := by
  obtain ⟨t, o, n, t', o', n', k1, k2, k3, k4, rfl, g, c, d, g', c', d'⟩ := x
  have e := keyAt_of g' d' (k := [k.1, k.2.1]) (.cons _ _ (.cons _ _ .nil))
  unfold keyN
  dsimp only
  rw [g]
  dsimp only
  rw [d]
  dsimp only
  show keyAt h (.ref t') ++ _ = _
  rw [e]
  rfl
theorem tupN_kats {h : Heap} : ∀ {us : List Value} {ks : List I4}, Paired (TupN h) us ks → ∃ fs, PySem.W.KatTups h us fs ∧ fs.length = us.length ∧ ∀ f ∈ fs, ∃ t o, f = .ref t ∧ h.get? t = some o ∧ o.cls = .type "tuple"
  | _, _, .nil => ⟨[], .nil, rfl, fun f hf => by cases hf⟩
  | _, _, .cons (a := u) (b := k) ⟨t, o, n, t', o', n', k1, k2, k3, k4, e, g, c, d, g', c', d'⟩ r => by
    obtain ⟨fs, h1, h2, h3⟩ := tupN_kats r
    subst e
    refine ⟨.ref t' :: fs, .cons g c d rfl h1, by rw [List.length_cons, List.length_cons, h2], fun f hf => ?_⟩
    rcases List.mem_cons.mp hf with rfl | hf
    · exact ⟨_, _, rfl, g', c'⟩
    · exact h3 f hf
theorem lexB_two (a b a' b' : Int) (l m : List Int) : lexB (a :: b :: l) (a' :: b' :: m) = if [a, b] = [a', b'] then lexB l m else HT.lexLt [a, b] [a', b'] := by
  by_cases e1 : a = a'
  · subst e1
    by_cases e2 : b = b'
    · subst e2
      simp [lexB]
    · simp [lexB, e2, HT.lexLt]
  · simp [lexB, e1, HT.lexLt]
theorem eq_pairs {A : Around} {s : Shared} {t t' : Addr} {o o' : Obj} {n n' : Nat} {a b a' b' : Int} {k1 k2 k3 k4 : Tok} (hu : A.units < cLine) (g : s.heap.get? t = some o) (c : o.cls = .type "tuple") (d : o.data = .seq #[.int a k1, .int b k2] n)
    (g' : s.heap.get? t' = some o') (c' : o'.cls = .type "tuple") (d' : o'.data = .seq #[.int a' k3, .int b' k4] n') : SeqAt.EqAt A s (.ref t) (.ref t') (decide ([a, b] = [a', b'])) := by
  by_cases h : t = t'
  · subst h
    rw [g] at g'
    cases g'
    rw [d] at d'
    have e : a = a' ∧ b = b' := by
      injection d' with e1 e2
      simp at e1
      exact ⟨e1.1.1, e1.2.1⟩
    rw [e.1, e.2]
    have := SeqAt.EqAt.same (A := A) (s := s) (.ref t)
    simpa using this
  · refine SeqAt.EqAt.of_refs h ?_
    have z := SeqAt.RcAt.tuples (A := A) (s := s) (l := t) (b := t') (items := #[.int a k1, .int b k2]) (items2 := #[.int a' k3, .int b' k4]) (e := fun j => if j = 0 then a == a' else b == b') ⟨o, g, c, n, d⟩ ⟨o', g', c', n', d'⟩ hu (fun j h1 h2 => by
      have h1' : j < 2 := h1
      match j, h1' with
      | 0, _ => exact SeqAt.EqAt.int_int _ _ _ _
      | 1, _ => exact SeqAt.EqAt.int_int _ _ _ _)
    have e : ((List.range (min (#[Value.int a k1, Value.int b k2] : Array Value).size (#[Value.int a' k3, Value.int b' k4] : Array Value).size)).all (fun j => if j = 0 then a == a' else b == b') && (#[Value.int a k1, Value.int b k2] : Array Value).size == (#[Value.int a' k3, Value.int b' k4] : Array Value).size) = decide ([a, b] = [a', b']) := by
      show ((List.range 2).all (fun j => if j = 0 then a == a' else b == b') && 2 == 2) = _
      rw [Bool.eq_iff_iff]
      simp [List.range_succ]
    rw [e] at z
    exact z
section
variable {X : Cx}
theorem call_sortedN (hu : X.A.units + 2 < cLine) : CallR X (.builtin "sorted") (fun xs H Q => ∃ (p : Addr) (vs : List V) (ks : List I4), xs = [.ref p] ∧ SqL X.K H p vs ∧ Paired (SpAt H) vs ks ∧ vs.length ≤ 1000 ∧
    ∀ (q : Addr) (vs' : List V) (ks' : List I4), H q = none → ks'.Perm ks → (ks'.map key4).Pairwise (fun a b => lexB b a = false) → Paired (SpAt H) vs' ks' → Q (.ref q) (upd H q (.lst vs'))) := by
  intro pins s σ H xs us Q I r h
  obtain ⟨p, vs, ks, rfl, hp, pr, hz, q⟩ := h
  obtain ⟨u, rfl, ru⟩ := vals1 r
  cases ru
  obtain ⟨its, rv, pl, _⟩ := I.list hp
  have hl := rv.length
  have key : ∀ {vs : List V} {ks : List I4} {its : List Value}, Paired (SpAt H) vs ks → Vals vs its → Paired (fun u k => TupN s.heap u k ∧ SpAt H (toV u) k) its ks := by
    intro vs ks its pr
    induction pr generalizing its with
    | nil => intro rv; cases rv; exact .nil
    | cons hh _ ih =>
      intro rv
      cases rv with
      | cons r1 r2 =>
        refine .cons ?_ (ih r2)
        obtain ⟨t, t', rfl, ht, ht'⟩ := hh
        cases r1
        obtain ⟨i1, ri, ⟨o, go, oc, n, od⟩, _⟩ := I.tuple (SqT.of ht)
        obtain ⟨i2, ri', ⟨o', go', oc', n', od'⟩, _⟩ := I.tuple (SqT.of ht')
        refine ⟨?_, t, t', rfl, ht, ht'⟩
        cases ri with
        | cons a1 a2 =>
          cases a2 with
          | cons a3 a4 =>
            cases a4 with
            | cons a5 a6 =>
              cases a6
              cases ri' with
              | cons b1 b2 =>
                cases b2 with
                | cons b3 b4 =>
                  cases b4
                  cases a1
                  obtain ⟨k3, rfl⟩ := a3
                  obtain ⟨k4, rfl⟩ := a5
                  obtain ⟨k1, rfl⟩ := b1
                  obtain ⟨k2, rfl⟩ := b3
                  exact ⟨t, o, n, t', o', n', k1, k2, k3, k4, rfl, go, oc, od, go', oc', od'⟩
  have tp := key pr rv
  have tu : Paired (TupN s.heap) its ks := Paired.mapP tp fun _ _ h => h.1
  refine sorted_X (κ := tuples' false) (r := fun x y => lexB (keyN s.heap x.1) (keyN s.heap y.1)) (ord_key _) pl.isList (fun h' a kp na s6 h6 => ?_) (by omega) fun xs hxp hxs => ?_
  · have tu6 : Paired (TupN s6.heap) its ks := Paired.mapP tu fun u k x => x.keep (a := a) (fun b o hb e => h6 b o hb (kp b o e)) na
    refine ⟨fun h2 Q' hq => ?_, fun x y st Q' mx my hk hq => ?_⟩
    · obtain ⟨fs, kt, kl, kf⟩ := tupN_kats tu6
      refine PySem.W.kat_kind (T := .type "tuple") kt (by omega) (fun v hv => ?_) (by rfl) hq
      obtain ⟨t, o, rfl, g, c⟩ := kf v hv
      rw [← c]
      exact (PySem.W.Looks.ld g).andThen .now
    · rw [lt'_eq]
      refine wpS_bind (wpS_get ?_)
      rw [hk]
      obtain ⟨mx1, _⟩ := pairs_fst mx
      obtain ⟨my1, _⟩ := pairs_fst my
      obtain ⟨kx, _, nx⟩ := paired_mem tu mx1
      obtain ⟨ky, _, ny⟩ := paired_mem tu my1
      dsimp only at hq
      rw [keyN_of nx, keyN_of ny] at hq
      obtain ⟨tx, ox, n1, tx', ox', n1', c1, c2, c3, c4, ex, gx, cx, dx, gx', cx', dx'⟩ := nx.keep (h' := s6.heap) (a := a) (fun b o hb e => h6 b o hb (kp b o e)) na
      obtain ⟨ty, oy, n2, ty', oy', n2', d1, d2, d3, d4, ey, gy, cy, dy, gy', cy', dy'⟩ := ny.keep (h' := s6.heap) (a := a) (fun b o hb e => h6 b o hb (kp b o e)) na
      rw [ex, ey]
      refine wpS_bind (wpS_lift (wpAny_attempt (PySem.W.kat_lt gx dx gy dy ?_)))
      show PySem.W.KatLex _ _ _ false (decide (3 < 3)) _ ((Value.ref tx', Value.ref ty') :: ([Value.int kx.2.2.1 c3, Value.int kx.2.2.2 c4].zip [Value.int ky.2.2.1 d3, Value.int ky.2.2.2 d4])) 0 _
      refine PySem.W.kat_cons (eq_pairs (A := X.A.in1.in1) hu gx' cx' dx' gy' cy' dy' _ _ _ _ ?_)
      have hk4 : lexB (key4 kx) (key4 ky) = if [kx.1, kx.2.1] = [ky.1, ky.2.1] then lexB [kx.2.2.1, kx.2.2.2] [ky.2.2.1, ky.2.2.2] else HT.lexLt [kx.1, kx.2.1] [ky.1, ky.2.1] := lexB_two ..
      rw [hk4] at hq
      by_cases e : [kx.1, kx.2.1] = [ky.1, ky.2.1]
      · rw [if_pos e] at hq
        rw [decide_eq_true e]
        exact PySem.W.kat_yes (kat_ints (xs := [kx.2.2.1, kx.2.2.2]) (ys := [ky.2.2.1, ky.2.2.2]) (.cons _ _ (.cons _ _ .nil)) (.cons _ _ (.cons _ _ .nil)) rfl ⟨rfl, wpS_pure hq⟩)
      · rw [if_neg e] at hq
        rw [decide_eq_false e]
        exact PySem.W.kat_no (PySem.W.kat_one _ _ (HT.lt_tupInts ⟨_, gx', cx', n1', dx'⟩ ⟨_, gy', cy', n2', dy'⟩ (ns := [kx.1, kx.2.1]) (ms := [ky.1, ky.2.1]) (.cons _ _ (.cons _ _ .nil)) (.cons _ _ (.cons _ _ .nil)) hu ⟨rfl, wpS_pure hq⟩))
  · have hmem : ∀ pq ∈ xs.toList, pq.1 ∈ its ∧ pq.2 = pq.1 := fun pq hpq => pairs_fst ((Array.perm_iff_toList_perm.mp hxp).mem_iff.mp hpq)
    have eo : (xs.map (·.2)).toList = xs.toList.map (·.1) := by
      rw [Array.toList_map]
      exact List.map_congr_left fun pq hpq => (hmem pq hpq).2
    have po : (xs.toList.map (·.1)).Perm its := by
      refine List.Perm.trans ((Array.perm_iff_toList_perm.mp hxp).map _) ?_
      unfold pairsOf
      rw [Array.toList_zip, List.toList_toArray]
      have : ∀ l : List Value, (l.zip l).map (·.1) = l := fun l => by
        induction l with
        | nil => rfl
        | cons a l ih => rw [List.zip_cons_cons, List.map_cons, ih]
      rw [this]
    generalize hout : xs.map (·.2) = out at eo
    let kk : Value → I4 := fun u => match keyN s.heap u with
      | [a, b, c, d] => (a, b, c, d)
      | _ => (0, 0, 0, 0)
    have hkk : ∀ u k, TupN s.heap u k → kk u = k := fun u k x => by
      show (match keyN s.heap u with
        | [a, b, c, d] => (a, b, c, d)
        | _ => (0, 0, 0, 0)) = k
      rw [keyN_of x]
      rfl
    have ek : its.map kk = ks := paired_map_eq tu hkk
    have rel : ∀ u ∈ out.toList, SpAt H (toV u) (kk u) ∧ key4 (kk u) = keyN s.heap u ∧ RelV (toV u) u := fun u hu => by
      rw [eo] at hu
      obtain ⟨k, _, hT, hS⟩ := paired_mem tp (po.mem_iff.mp hu)
      have e := hkk u k hT
      rw [e]
      refine ⟨hS, (keyN_of hT).symm, ?_⟩
      obtain ⟨t, t', e2, _⟩ := hS
      obtain ⟨t2, _, _, _, _, _, _, _, _, _, e3, _⟩ := hT
      subst e3
      rfl
    have vals : ∀ l : List Value, (∀ u ∈ l, SpAt H (toV u) (kk u) ∧ key4 (kk u) = keyN s.heap u ∧ RelV (toV u) u) → Vals (l.map toV) l ∧ Paired (SpAt H) (l.map toV) (l.map kk) ∧ (l.map kk).map key4 = l.map (keyN s.heap) := fun l => by
      induction l with
      | nil => intro _; exact ⟨.nil, .nil, rfl⟩
      | cons u l ih =>
        intro hl
        obtain ⟨i1, i2, i3⟩ := ih fun v hv => hl v (List.mem_cons_of_mem _ hv)
        obtain ⟨a1, a2, a3⟩ := hl u List.mem_cons_self
        exact ⟨.cons a3 i1, .cons a1 i2, by rw [List.map_cons, List.map_cons, List.map_cons, i3, a2]⟩
    obtain ⟨v1, v2, v3⟩ := vals out.toList rel
    obtain ⟨e, he⟩ := sortedAll_at s.heap its out
    have lo : out.toList.length = its.length := by rw [eo]; exact po.length_eq
    have hlen : (out.toList.map toV).length ≤ sizeLine := by rw [List.length_map, lo, sizeLine_eq]; omega
    refine ⟨.ref (s.heap.objs.size + 1), _, I.laid (t' := s.toks) (a := s.heap.objs.size + 1) (o := .lst (out.toList.map toV)) (fun b o => sortedAll_old) (Nat.le_succ _) ⟨hlen, out.toList, e, v1, by simpa using he⟩, rfl, q _ _ (out.toList.map kk) (I.hok.fresh (Nat.le_succ _)) ?_ ?_ v2⟩
    · rw [← ek, eo]
      exact po.map _
    · rw [v3, eo, List.map_map, List.pairwise_map]
      exact hxs
end
end L2
-- part P17
set_option Elab.async false
set_option linter.all false
set_option maxRecDepth 100000
set_option maxHeartbeats 40000000
namespace PyProof.Rows.Tim
open PySem
/-! ### min(l, default=None), l a list of tuples of ints -/
def foldMin (lt : Value → Value → Bool) : Value → List Value → Value
  | b, [] => b
  | b, v :: r => foldMin lt (if lt v b = true then v else b) r
section
variable {prog : Program} {w : World} {A : Around} {R : Result → Shared → Prop} {lt : Value → Value → Bool} {vs : List Value} {h0 : Heap} {kw : List (Str × Value)}
def Kp (h0 h : Heap) : Prop := ∀ b o, h0.get? b = some o → h.get? b = some o
theorem min_loop (hh : A.in1.handled = none) {I l S : Addr} (hlI : l ≠ I) (hSI : S ≠ I) (hSl : S ≠ l) (zI : h0.get? I = none) (zS : h0.get? S = none)
    (hcmp : ∀ (s' : Shared) u v (Q : Value → Shared → Prop) (E : Value → Shared → Prop), Kp h0 s'.heap → u ∈ vs → v ∈ vs → Q (.bool (lt u v)) s' → wpAny (model prog w) A.in1 (richCompare .Lt u v) Q E s') :
    ∀ (k j : Nat) (s : Shared) (vb : Value) (c : Nat), vs.length - j = k → j ≤ vs.length → s.heap.IsListIter I l j → s.heap.IsList l vs.toArray → vb ∈ vs → Kp h0 s.heap →
    s.heap.get? S = some { cls := .type "list", dict := none, data := .seq #[vb, vb] c, slots := #[] } →
    (∀ h' tk, Kp h0 h' → R (.ok (.ret (foldMin lt vb (vs.drop j)))) { s with heap := h', toks := tk }) →
    codeAny (model prog w) A (.builtin "min.loop" ⟨[.ref I, .none, .ref S], kw⟩) R s := by
  have hname : (toString "min" ++ toString ".loop" : String) = "min.loop" := by decide
  have W := Walks.list (prog := prog) (w := w) (A := A.in1) hh I l hlI vs.toArray
  have hsz : vs.toArray.size = vs.length := List.size_toArray ..
  have ne : ∀ b o, h0.get? b = some o → b ∉ [I] ∧ b ≠ S := fun b o e => ⟨fun m => (by rw [List.mem_singleton.mp m, zI] at e; cases e), fun m => (by rw [m, zS] at e; cases e)⟩
  intro k
  induction k with
  | zero =>
    intro j s vb c hk hj hit hli hb hkp hS hR
    have hin : j = vs.toArray.size := by omega
    refine codeAny_builtin F.entry_min_loop ?_
    rw [Around.under_plainId F.plain_min_loop _]
    show wpAny _ A.in1 (seqItems? (.ref S) >>= _) _ _ s
    refine wpAny_bind (wpAny_seqItems hS rfl ?_)
    show wpAny _ A.in1 (tryCatch (pyNext (.ref I)) _ >>= _) _ _ s
    refine wpAny_bind (wpAny_tryCatch (W.done s _ _ (hin ▸ ⟨hit, hli⟩) fun h' tk hk' => ?_))
    have hS' := hk' S _ (by simpa using hSI) hS
    show wpAny _ A.in1 (updateSeq S (fun _ => #[]) >>= _) _ _ _
    refine wpAny_bind ?_
    refine wpAny_updateSeq hS' rfl (wpAny_bind (wpAny_letGo (wpAny_pure ?_)))
    have e : vs.drop j = [] := List.drop_eq_nil_of_le (by omega)
    rw [e] at hR
    exact hR _ tk fun b o q => (Heap.get?_update_other _ _ (Ne.symm (ne b o q).2)).trans (hk' b o (ne b o q).1 (hkp b o q))
  | succ k ih =>
    intro j s vb c hk hj hit hli hb hkp hS hR
    have hlt : j < vs.length := by omega
    refine codeAny_builtin F.entry_min_loop ?_
    rw [Around.under_plainId F.plain_min_loop _]
    show wpAny _ A.in1 (seqItems? (.ref S) >>= _) _ _ s
    refine wpAny_bind (wpAny_seqItems hS rfl ?_)
    show wpAny _ A.in1 (tryCatch (pyNext (.ref I)) _ >>= _) _ _ s
    refine wpAny_bind (wpAny_tryCatch (W.item j s _ _ (by omega) ⟨hit, hli⟩ fun v h' tk hP hst' hk' => ?_))
    have hv : vs[j]? = some v := by simpa using hP
    have hvm : v ∈ vs := List.mem_of_getElem? hv
    have hS' := hk' S _ (by simpa using hSI) hS
    have kp' : Kp h0 h' := fun b o q => hk' b o (ne b o q).1 (hkp b o q)
    have ed : vs.drop j = v :: vs.drop (j + 1) := by
      have e2 : vs[j] = v := (List.getElem?_eq_some_iff.mp hv).2
      rw [List.drop_eq_getElem_cons hlt, e2]
    rw [ed] at hR
    show wpAny _ A.in1 (tryCatch (holding [v, v] (richCompare .Lt v vb >>= _)) _ >>= _) _ _ _
    refine wpAny_bind (wpAny_tryCatch (wpAny_holding (wpAny_bind (hcmp _ v vb _ _ kp' hvm hb ?_))))
    refine wpAny_bind (wpAny_holding (wpAny_truthy_bool ?_))
    refine wpAny_bind (wpAny_letGo (wpAny_pure ?_))
    cases hb' : lt v vb with
    | true =>
      simp only [if_true]
      refine wpAny_bind ?_
      refine wpAny_updateSeq hS' rfl (wpAny_bind (wpAny_letGo ?_))
      rw [hname]
      have fr := W.frame (j + 1) _ (h'.update S (Obj.mapSeq fun _ => #[v, v])) hst' fun b hbf o e => (Heap.get?_update_other _ _ (fun h : S = b => by
        simp only [List.mem_cons, List.not_mem_nil, or_false] at hbf
        rcases hbf with q | q
        · exact hSI (h.trans q)
        · exact hSl (h.trans q))).trans e
      refine wpAny_pure ⟨plainId_quiet F.plain_min_loop _, ih (j + 1) _ v _ (by omega) hlt fr.1 fr.2 hvm (fun b o q => (Heap.get?_update_other _ _ (Ne.symm (ne b o q).2)).trans (kp' b o q)) (Heap.get?_update_self _ hS' rfl) fun h'' tk'' hk'' => ?_⟩
      have z := hR h'' tk'' hk''
      unfold foldMin at z
      rw [if_pos hb'] at z
      exact z
    | false =>
      simp only [Bool.false_eq_true, if_false]
      refine wpAny_bind (wpAny_letGo ?_)
      rw [hname]
      refine wpAny_pure ⟨plainId_quiet F.plain_min_loop _, ih (j + 1) _ vb c (by omega) hlt hst'.1 hst'.2 hb kp' hS' fun h'' tk'' hk'' => ?_⟩
      have z := hR h'' tk'' hk''
      unfold foldMin at z
      rw [if_neg (by rw [hb']; exact Bool.false_ne_true)] at z
      exact z
theorem args_min_default (a v : Value) : argsOk "min" ⟨[a], [(Str.ofString "default", v)]⟩ := by unfold argsOk; kernel_rfl
theorem call_minD {E : Value → Shared → Prop} {s : Shared} {Q : Value → Shared → Prop} {l : Addr} (hh : A.in1.handled = none) (hls : s.heap.IsList l vs.toArray)
    (hcmp : ∀ (s' : Shared) u v (Q : Value → Shared → Prop) (E : Value → Shared → Prop), Kp s.heap s'.heap → u ∈ vs → v ∈ vs → Q (.bool (lt u v)) s' → wpAny (model prog w) A.in1 (richCompare .Lt u v) Q E s')
    (h1 : ∀ h' tk, vs = [] → Kp s.heap h' → Q .none { s with heap := h', toks := tk }) (h2 : ∀ v r h' tk, vs = v :: r → Kp s.heap h' → Q (foldMin lt v r) { s with heap := h', toks := tk }) :
    wpAny (model prog w) A (call (.builtin "min") [.ref l] [(Str.ofString "default", .none)]) Q E s := by
  have hname : (toString "min" ++ toString ".loop" : String) = "min.loop" := by decide
  obtain ⟨ol, hol, _⟩ := id hls
  have hll : l < s.heap.objs.size := Heap.lt_size hol
  refine kmk_tree PySem.F.kind_min PySem.F.plain_min PySem.F.entry_min (args_min_default _ _) ?_
  show wpAny _ A.in1 (Builtin.Builtins.bindParams "min" ["key", "default"] 0 ⟨[], [(Str.ofString "default", .none)]⟩ >>= _) _ _ s
  refine wpAny_bind (wpAny_of_eq (show Builtin.Builtins.bindParams "min" ["key", "default"] 0 ⟨[], [(Str.ofString "default", .none)]⟩ = pure [none, some .none] from rfl) ?_)
  refine wpAny_bind (wpAny_pure ?_)
  refine wpAny_bind (wpAny_pyIter_list hls ?_)
  refine wpAny_bind (wpAny_newList ?_ (Nat.zero_le _))
  rw [hname]
  have hS : (s.heap.push { cls := .type "list_iterator", data := .fields #[.ref l, .int 0 0] }).objs.size = s.heap.objs.size + 1 := size_push' ..
  have hlI : l ≠ s.heap.objs.size := Nat.ne_of_lt hll
  have hSI : (s.heap.push { cls := .type "list_iterator", data := .fields #[.ref l, .int 0 0] }).objs.size ≠ s.heap.objs.size := by rw [hS]; exact Nat.ne_of_gt (Nat.lt_succ_self _)
  have hSl : (s.heap.push { cls := .type "list_iterator", data := .fields #[.ref l, .int 0 0] }).objs.size ≠ l := by rw [hS]; exact Nat.ne_of_gt (Nat.lt_succ_of_lt hll)
  have zI : s.heap.get? s.heap.objs.size = none := Heap.get?_none_of_le (Nat.le_refl _)
  have zS : s.heap.get? (s.heap.push { cls := .type "list_iterator", data := .fields #[.ref l, .int 0 0] }).objs.size = none := Heap.get?_none_of_le (by rw [hS]; exact Nat.le_succ _)
  refine wpAny_pure ⟨plainId_quiet PySem.F.plain_min_loop _, ?_⟩
  have kpH : Kp s.heap ((s.heap.push { cls := .type "list_iterator", data := .fields #[.ref l, .int 0 0] }).push (seqObj "list" #[] 0)) := fun b o e => Heap.get?_push_of_some _ (Heap.get?_push_of_some _ e)
  have gI : ((s.heap.push { cls := .type "list_iterator", data := .fields #[.ref l, .int 0 0] }).push (seqObj "list" #[] 0)).get? s.heap.objs.size = some { cls := .type "list_iterator", data := .fields #[.ref l, .int 0 0] } :=
    Heap.get?_push_of_some _ (Heap.get?_push_size _ rfl)
  have gS : ((s.heap.push { cls := .type "list_iterator", data := .fields #[.ref l, .int 0 0] }).push (seqObj "list" #[] 0)).get? (s.heap.push { cls := .type "list_iterator", data := .fields #[.ref l, .int 0 0] }).objs.size = some (seqObj "list" #[] 0) := Heap.get?_push_size _ rfl
  have lH : ((s.heap.push { cls := .type "list_iterator", data := .fields #[.ref l, .int 0 0] }).push (seqObj "list" #[] 0)).IsList l vs.toArray := hls.at fun o e => kpH _ _ e
  have W := Walks.list (prog := prog) (w := w) (A := A.in1) hh s.heap.objs.size l hlI vs.toArray
  have hsz : vs.toArray.size = vs.length := List.size_toArray ..
  have ne : ∀ b o, s.heap.get? b = some o → b ∉ [s.heap.objs.size] ∧ b ≠ (s.heap.push { cls := .type "list_iterator", data := .fields #[.ref l, .int 0 0] }).objs.size := fun b o e => ⟨fun m => (by rw [List.mem_singleton.mp m, zI] at e; cases e), fun m => (by rw [m, zS] at e; cases e)⟩
  refine codeAny_builtin PySem.F.entry_min_loop ?_
  rw [Around.under_plainId PySem.F.plain_min_loop _]
  show wpAny _ A.in1 (seqItems? (.ref _) >>= _) _ _ _
  refine wpAny_bind (wpAny_seqItems gS rfl ?_)
  show wpAny _ A.in1 (tryCatch (pyNext (.ref s.heap.objs.size)) _ >>= _) _ _ _
  cases hvs : vs with
  | nil =>
    refine wpAny_bind (wpAny_tryCatch (W.done _ _ _ ⟨⟨_, gI, rfl, by rw [hsz, hvs]; rfl⟩, lH⟩ fun h' tk hk' => ?_))
    refine wpAny_bind (wpAny_rule ?_)
    exact wpAny_pure (h1 h' tk hvs fun b o q => hk' b o (ne b o q).1 (kpH b o q))
  | cons v0 r0 =>
    refine wpAny_bind (wpAny_tryCatch (W.item 0 _ _ _ (by rw [hsz, hvs]; exact Nat.succ_pos _) ⟨⟨_, gI, rfl, rfl⟩, lH⟩ fun v h' tk' hP hst' hk' => ?_))
    have hv : v0 = v := by
      rw [hvs] at hP
      simpa using hP
    subst hv
    have gS' := hk' _ _ (by simpa using hSI) gS
    have kp' : Kp s.heap h' := fun b o q => hk' b o (ne b o q).1 (kpH b o q)
    show wpAny _ A.in1 (updateSeq (s.heap.push { cls := .type "list_iterator", data := .fields #[.ref l, .int 0 0] }).objs.size (fun _ => #[v0, v0]) >>= _) _ _ _
    refine wpAny_bind ?_
    refine wpAny_updateSeq gS' rfl ?_
    rw [hname]
    have fr := W.frame (0 + 1) _ (h'.update (s.heap.push { cls := .type "list_iterator", data := .fields #[.ref l, .int 0 0] }).objs.size (Obj.mapSeq fun _ => #[v0, v0])) hst' fun b hbf o e => (Heap.get?_update_other _ _ (fun h => by
        simp only [List.mem_cons, List.not_mem_nil, or_false] at hbf
        rcases hbf with q | q
        · exact hSI (h.trans q)
        · exact hSl (h.trans q))).trans e
    refine wpAny_pure ⟨plainId_quiet PySem.F.plain_min_loop _, min_loop (lt := lt) (vs := vs) (h0 := s.heap) hh hlI hSI hSl zI zS hcmp _ 1 _ v0 _ rfl (by rw [hvs]; exact Nat.succ_le_succ (Nat.zero_le _)) fr.1 fr.2 (by rw [hvs]; exact List.mem_cons_self) (fun b o q => (Heap.get?_update_other _ _ (Ne.symm (ne b o q).2)).trans (kp' b o q)) (Heap.get?_update_self _ gS' rfl) fun h'' tk'' hk'' => ?_⟩
    have z := h2 v0 r0 h'' tk'' hvs hk''
    rw [hvs]
    exact z
end
theorem foldMin_mem {lt : Value → Value → Bool} : ∀ {r : List Value} {b : Value}, foldMin lt b r ∈ b :: r
  | [], b => List.mem_cons_self
  | v :: r, b => by
    unfold foldMin
    rcases List.mem_cons.mp (foldMin_mem (lt := lt) (r := r) (b := if lt v b = true then v else b)) with h | h
    · rw [h]
      by_cases e : lt v b = true
      · rw [if_pos e]; exact List.mem_cons_of_mem _ List.mem_cons_self
      · rw [if_neg e]; exact List.mem_cons_self
    · exact List.mem_cons_of_mem _ (List.mem_cons_of_mem _ h)
theorem foldMin_le (key : Value → List Int) : ∀ {r : List Value} {b : Value}, ∀ v ∈ b :: r, lexB (key v) (key (foldMin (fun a b => lexB (key a) (key b)) b r)) = false
  | [], b, v, hv => by
    rw [List.mem_singleton.mp hv]
    cases h : lexB (key b) (key (foldMin (fun a b => lexB (key a) (key b)) b [])) with
    | false => rfl
    | true =>
      have := lexB_asy _ _ h
      exact absurd (h.symm.trans this) (by decide)
  | w :: r, b, v, hv => by
    have ih := fun v hv => foldMin_le key (r := r) (b := if lexB (key w) (key b) = true then w else b) v hv
    show lexB (key v) (key (foldMin (fun a b => lexB (key a) (key b)) (if lexB (key w) (key b) = true then w else b) r)) = false
    have hd := ih _ List.mem_cons_self
    by_cases e : lexB (key w) (key b) = true
    · rw [if_pos e] at hd ih ⊢
      rcases List.mem_cons.mp hv with rfl | hv
      · exact lexB_ntr _ _ _ hd (lexB_asy _ _ e)
      · exact ih v hv
    · rw [if_neg e] at hd ih ⊢
      rcases List.mem_cons.mp hv with rfl | hv
      · exact hd
      · rcases List.mem_cons.mp hv with rfl | hv
        · exact lexB_ntr _ _ _ hd (by simpa using e)
        · exact ih v (List.mem_cons_of_mem _ hv)
end PyProof.Rows.Tim
namespace L2
open PySem PySem.Spec PyProof.Rows PyProof.Rows.Tim
theorem lexLt_lexB : ∀ a b : List Int, HT.lexLt a b = lexB a b
  | [], [] => rfl
  | [], _ :: _ => rfl
  | _ :: _, [] => rfl
  | x :: a, y :: b => by
    unfold lexB
    rw [HT.lexLt_cons, lexLt_lexB a b]
section
variable {X : Cx}
/-- min(e, default=None), e a list of tuples of ints -/
def tMinD (K : PySem.W.Frag) (te : TE) : TE := fun σ H Q => te σ H fun v H1 => ∃ (a : Addr) (vs : List V) (ks : List (List Int)), v = .ref a ∧ SqL K H1 a vs ∧ Paired (TpAt H1) vs ks ∧ (vs = [] → Q .non H1) ∧
  ∀ v k, v ∈ vs → k ∈ ks → TpAt H1 v k → (∀ k' ∈ ks, lexB k' k = false) → Q v H1
theorem pe_minD {x : Str} {te : TE} {p px kp kpos pos : Pos} (hc : X.calm = true) (hu : X.A.units + 1 < cLine) (hg : Gl X "min") (hm : X.mg "min" = none) (he : PE X (.Name x px) te)
    (hall : (backToKw pos (keywordEach [⟨some "default", .Constant .none 0 kp, kpos⟩] X.env)).filterMap (·.1) = [Str.ofString "default"] := by rfl) :
    PE X (.Call (.Name "min" p) [.Name x px] [⟨some "default", .Constant .none 0 kp, kpos⟩] pos) (tMinD X.K te) := by
  intro pins s σ H Q I h
  refine wpAny_Call_Name_kw (ld_blt I hg hm PyProof.Rows.Boot.«min» ?_ (by decide) (by decide))
  have pa : PA X [.Name x px] (tCons te tNil) := pa_cons he pa_nil
  have pk : PK X [⟨some "default", .Constant .none 0 kp, kpos⟩] (tCons (tC .non) tNil) := pk_cons pe_non pk_nil
  refine PyProof.Rows.callWith_kw (thn (pa pos pins s σ H (fun us H1 => match us with
    | [v] => ∃ (a : Addr) (vs : List V) (ks : List (List Int)), v = .ref a ∧ SqL X.K H1 a vs ∧ Paired (TpAt H1) vs ks ∧ (vs = [] → Q .non H1) ∧ ∀ v k, v ∈ vs → k ∈ ks → TpAt H1 v k → (∀ k' ∈ ks, lexB k' k = false) → Q v H1
    | _ => False) I h) fun us s1 ⟨vs1, H1, I1, r1, q1⟩ => ?_)
  match vs1, q1 with
  | [v], q1 =>
    obtain ⟨a, vs, ks, rfl, hq, pr, q1, q2⟩ := q1
    refine thn (pk pos pins s1 σ H1 (fun zs H2 => zs = [.non] ∧ H2 = H1) I1 ⟨rfl, rfl⟩) fun ws s2 ⟨zs, H2, I2, rz, e1, e2⟩ => ?_
    subst e1 e2
    obtain ⟨u, rfl, ru⟩ := vals1 r1
    obtain ⟨z, rfl, rz2⟩ := vals1 rz
    cases ru
    have ez : z = .none := rz2
    subst ez
    rw [hall]
    show wpAny _ _ (call (.builtin "min") [.ref a] [(Str.ofString "default", .none)]) _ _ _
    obtain ⟨its, rv, pl, _⟩ := I2.list hq
    have key : ∀ {vs : List V} {ks : List (List Int)} {its : List Value}, Paired (TpAt H2) vs ks → Vals vs its → ∀ u ∈ its, ∃ v ∈ vs, ∃ k ∈ ks, RelV v u ∧ TpAt H2 v k ∧ TupI s2.heap u k := by
      intro vs ks its pr
      induction pr generalizing its with
      | nil => intro rv; cases rv; intro u hu; cases hu
      | cons hh _ ih =>
        intro rv
        cases rv with
        | cons r1 r2 =>
          intro u hu
          rcases List.mem_cons.mp hu with rfl | hu
          · obtain ⟨t, e, ht⟩ := id hh
            obtain ⟨items, ri, ⟨o, go, oc, n, od⟩, _⟩ := I2.tuple (SqT.of ht)
            refine ⟨_, List.mem_cons_self, _, List.mem_cons_self, r1, hh, ?_⟩
            subst e
            cases r1
            exact ⟨t, o, _, n, rfl, go, oc, od, by simpa using intsAre_of ri⟩
          · obtain ⟨v, hv, k, hk, w⟩ := ih r2 u hu
            exact ⟨v, List.mem_cons_of_mem _ hv, k, List.mem_cons_of_mem _ hk, w⟩
    have key2 : ∀ {vs : List V} {ks : List (List Int)} {its : List Value}, Paired (TpAt H2) vs ks → Vals vs its → ∀ k ∈ ks, ∃ u ∈ its, keyAt s2.heap u = k := by
      intro vs ks its pr
      induction pr generalizing its with
      | nil => intro rv k hk; cases hk
      | cons hh _ ih =>
        intro rv
        cases rv with
        | cons r1 r2 =>
          intro k hk
          rcases List.mem_cons.mp hk with rfl | hk
          · obtain ⟨t, e, ht⟩ := id hh
            obtain ⟨items, ri, ⟨o, go, oc, n, od⟩, _⟩ := I2.tuple (SqT.of ht)
            refine ⟨_, List.mem_cons_self, ?_⟩
            subst e
            cases r1
            exact keyAt_of go od (by simpa using intsAre_of ri)
          · obtain ⟨u, hu, e⟩ := ih r2 k hk
            exact ⟨u, List.mem_cons_of_mem _ hu, e⟩
    refine call_minD (lt := fun u v => lexB (keyAt s2.heap u) (keyAt s2.heap v)) (I2.ok.hd hc) pl.isList (fun s' u v Q' E' kp hu1 hv1 hq' => ?_) (fun h' tk e kp => ?_) (fun v0 r h' tk e kp => ?_)
    · obtain ⟨_, _, ku, _, _, _, tu, ou, iu, nu, rfl, gu, cu, du, ju⟩ := key pr rv u hu1
      obtain ⟨_, _, kv, _, _, _, tv, ov, iv, nv, rfl, gv, cv, dv, jv⟩ := key pr rv v hv1
      have e1 : keyAt s2.heap (.ref tu) = ku := keyAt_of gu du ju
      have e2 : keyAt s2.heap (.ref tv) = kv := keyAt_of gv dv jv
      try dsimp only at hq'
      rw [e1, e2, ← lexLt_lexB] at hq'
      exact HT.lt_tupInts ⟨_, kp _ _ gu, cu, nu, du⟩ ⟨_, kp _ _ gv, cv, nv, dv⟩ ju jv hu hq'
    · subst e
      cases rv
      exact ⟨.non, H2, I2.kept kp, rfl, q1 rfl⟩
    · have hm := foldMin_mem (lt := fun u v => lexB (keyAt s2.heap u) (keyAt s2.heap v)) (r := r) (b := v0)
      have hle := foldMin_le (keyAt s2.heap) (r := r) (b := v0)
      generalize foldMin (fun u v => lexB (keyAt s2.heap u) (keyAt s2.heap v)) v0 r = m at hm hle
      rw [← e] at hm hle
      obtain ⟨v, hv, k, hk, rvm, htp, tu, ou, iu, nu, e3, gu, cu, du, ju⟩ := key pr rv m hm
      have e1 : keyAt s2.heap m = k := by rw [e3]; exact keyAt_of gu du ju
      refine ⟨v, H2, I2.kept kp, rvm, q2 v k hv hk htp fun k' hk' => ?_⟩
      obtain ⟨u', hu', e4⟩ := key2 pr rv k' hk'
      have := hle u' hu'
      rw [e1, e4] at this
      exact this
end
end L2
-- part P18
set_option Elab.async false
set_option linter.all false
set_option maxRecDepth 100000
namespace L2
open PySem PySem.Spec PyProof.Rows
/-! ### zip(a, b), two lists of one length -/
def ItzM (K : PySem.W.Frag) (l1 l2 : Addr) : It :=
  ⟨fun i H => ∃ xs ys x y, SqL K H l1 xs ∧ SqL K H l2 ys ∧ xs[i]? = some x ∧ ys[i]? = some y,
   fun i H v H' => ∃ (T : Addr) (x y : V), v = .ref T ∧ H T = none ∧ H' = upd H T (.par [x, y]) ∧ ∀ xs ys, SqL K H l1 xs → SqL K H l2 ys → xs[i]? = some x ∧ ys[i]? = some y,
   fun i H => ∃ xs ys, SqL K H l1 xs ∧ SqL K H l2 ys ∧ min xs.length ys.length = i⟩
theorem turn_zipM {P : Program} {w : World} {K : PySem.W.Frag} {elts : List Expr} {kk : Nat} {pos : Pos} (z TI TO i1 i2 l1 l2 : Addr) (D : ZipApart z TI TO i1 i2 l1 l2) :
    Turn P w K (.Tuple elts kk pos) (ItzM K l1 l2) [z, TI, TO, i1, i2] z (fun i h => IsZip h z TI TO .none ∧ IsPair h TI (.ref i1) (.ref i2) ∧ (∃ a b, IsPair h TO a b) ∧ h.IsListIter i1 l1 i ∧ h.IsListIter i2 l2 i) where
  mem := by simp
  obj := fun i h st b hb => by
    obtain ⟨a1, a2, ⟨u, v, a3⟩, ⟨o4, h4, _, d4⟩, ⟨o5, h5, _, d5⟩⟩ := st
    simp only [List.mem_cons, List.not_mem_nil, or_false] at hb
    rcases hb with rfl | rfl | rfl | rfl | rfl
    · exact ⟨_, a1, fun v z => by cases z⟩
    · exact ⟨_, a2, fun v z => by cases z⟩
    · exact ⟨_, a3, fun v z => by cases z⟩
    · exact ⟨_, h4, fun v z => by rw [d4] at z; cases z⟩
    · exact ⟨_, h5, fun v z => by rw [d5] at z; cases z⟩
  keep := fun i h h' st k => by
    obtain ⟨a1, a2, ⟨u, v, a3⟩, a4, a5⟩ := st
    exact ⟨k z (by simp) _ a1, k TI (by simp) _ a2, ⟨u, v, k TO (by simp) _ a3⟩, a4.at fun o q => k i1 (by simp) o q, a5.at fun o q => k i2 (by simp) o q⟩
  item := by
    intro X hP hw hK hc i pins s σ H E I hf st hg
    subst hP hw hK
    obtain ⟨xs, ys, x, y, hq1, hq2, hx, hy⟩ := hg
    obtain ⟨is1, rv1, pl1, hz1⟩ := I.list hq1
    obtain ⟨is2, rv2, pl2, hz2⟩ := I.list hq2
    obtain ⟨u, hu, ru⟩ := rv1.get hx
    obtain ⟨v, hv, rv⟩ := rv2.get hy
    have hil : i < min is1.toArray.size is2.toArray.size := by
      have e1 := (List.getElem?_eq_some_iff.mp hu).1
      have e2 := (List.getElem?_eq_some_iff.mp hv).1
      simp only [List.size_toArray]
      omega
    have W := WalksT.zip2 (prog := X.prog) (w := X.w) (A := X.A) (I.ok.hd hc) z TI TO i1 i2 l1 l2 D is1.toArray is2.toArray
    obtain ⟨a1, a2, a3, a4, a5⟩ := st
    refine W.item i s _ _ hil ⟨a1, a2, a3, a4, a5, pl1.isList, pl2.isList⟩ fun T vals h' tk hP hTs hTup hmid hk => ⟨_, rfl, W.go elts kk pos i T _ _ _ hmid fun h'' st'' hk'' => ?_⟩
    obtain ⟨x2, y2, hx2, hy2, rfl⟩ := hP
    have hx2' : is1[i]? = some x2 := by simpa using hx2
    have hy2' : is2[i]? = some y2 := by simpa using hy2
    rw [hu] at hx2'
    rw [hv] at hy2'
    cases hx2'
    cases hy2'
    have hTn : H T = none := I.hok.fresh hTs
    have both : ∀ b o, b ∉ [z, TO, i1, i2] → s.heap.get? b = some o → h''.get? b = some o := fun b o hb q => hk'' b o hb (hk b o hb q)
    have sub : ∀ b, b ∉ [z, TI, TO, i1, i2] → b ∉ [z, TO, i1, i2] := fun b hb hm => hb (by
      simp only [List.mem_cons, List.not_mem_nil, or_false] at hm ⊢
      rcases hm with h | h | h | h
      · exact .inl h
      · exact .inr (.inr (.inl h))
      · exact .inr (.inr (.inr (.inl h)))
      · exact .inr (.inr (.inr (.inr h))))
    have hTw : T ∉ [z, TO, i1, i2] := W.apart _ _ _ hmid
    have hTT : h''.IsTuple T #[u, v] := hTup.at fun o q => hk'' T o hTw q
    have neT : ∀ b o, s.heap.get? b = some o → b ≠ T := fun b o q => Nat.ne_of_lt (Nat.lt_of_lt_of_le (Heap.lt_size q) hTs)
    have neT' : ∀ b o, H b = some o → b ≠ T := fun b o q => ne_of_none q hTn
    have trk : ∀ b o, H b = some o → b ∉ [z, TI, TO, i1, i2] := fun b o q hm => by
      have := (hf b hm).1
      rw [this] at q; cases q
    refine ⟨.ref T, upd H T (.par [x, y]), ?_, rfl, ⟨T, x, y, rfl, hTn, rfl, fun as bs ha hb => by rw [I.list_inj ha hq1, I.list_inj hb hq2]; exact ⟨hx, hy⟩⟩, ⟨st''.1, st''.2.1, st''.2.2.1, st''.2.2.2.1, st''.2.2.2.2.1⟩, fun b hb => ?_⟩
    · refine (show Inv X pins σ (upd H T (.par [x, y])) { s with heap := h'', toks := tk } from ?_)
      refine I.call (g' := s.gens) (d' := s.drawn) (t' := tk) (h' := h'') (ch := [z, TI, TO, i1, i2]) ⟨fun b o q _ _ hx => both b o (sub b hx) q, fun b o q _ _ hx => ⟨o.slots, both b o (sub b hx) q⟩, fun b o q n hx => by rw [upd_ne (neT b o q)]; exact n, fun b o q hx => ⟨o, both b o (sub b hx) q⟩,
        fun b ys q => by rw [upd_ne (neT' b _ q)]; exact q, fun b o u q => by rw [upd_ne (neT' b _ q)]; exact q, fun b ps q => ⟨#[], by rw [upd_ne (neT' b _ q), q]; simp⟩⟩ (fun b o q => ?_) I.bare fun b hb => ?_
      · by_cases hb : b = T
        · subst hb
          rw [upd_same] at q
          cases q
          exact ⟨by show 2 ≤ sizeLine; decide, [u, v], .cons ru (.cons rv .nil), hTT⟩
        · rw [upd_ne hb] at q
          refine (I.hok b o q).stay (fun c ob hc' q' => both c ob ?_ q') (fun c q' => by rw [upd_ne (neT' c _ q')]; exact q') fun c ys q' => by rw [upd_ne (neT' c _ q')]; exact q'
          rcases hc' with z' | z'
          · rw [z']; exact sub _ (trk b o q)
          · exact sub _ (trk c _ z')
      · obtain ⟨f0, f1, f2, f3, f4, f5⟩ := hf b hb
        exact ⟨f3, f1, f4, f5⟩
    · have hne : b ≠ T := by
        obtain ⟨f0, _⟩ := hf b hb
        have : ∃ o, s.heap.get? b = some o := by
          obtain ⟨u', v', a3'⟩ := a3
          obtain ⟨o4, h4, _⟩ := a4
          obtain ⟨o5, h5, _⟩ := a5
          simp only [List.mem_cons, List.not_mem_nil, or_false] at hb
          rcases hb with rfl | rfl | rfl | rfl | rfl
          · exact ⟨_, a1⟩
          · exact ⟨_, a2⟩
          · exact ⟨_, a3'⟩
          · exact ⟨_, h4⟩
          · exact ⟨_, h5⟩
        obtain ⟨o, ho⟩ := this
        exact neT b o ho
      rw [upd_ne hne]
      exact (hf b hb).1
  done := by
    intro X hP hw hK hc i pins s σ H E I hf st hg
    subst hP hw hK
    obtain ⟨xs, ys, hq1, hq2, hx⟩ := hg
    obtain ⟨is1, rv1, pl1, hz1⟩ := I.list hq1
    obtain ⟨is2, rv2, pl2, hz2⟩ := I.list hq2
    have e1 := rv1.length
    have e2 := rv2.length
    have W := WalksT.zip2 (prog := X.prog) (w := X.w) (A := X.A) (I.ok.hd hc) z TI TO i1 i2 l1 l2 D is1.toArray is2.toArray
    have hn : i = min is1.toArray.size is2.toArray.size := by simp only [List.size_toArray]; omega
    obtain ⟨a1, a2, a3, a4, a5⟩ := st
    rw [hn] at a4 a5
    have sub : ∀ b, b ∉ [z, TI, TO, i1, i2] → b ∉ [z, TO, i1, i2] := fun b hb hm => hb (by
      simp only [List.mem_cons, List.not_mem_nil, or_false] at hm ⊢
      rcases hm with h | h | h | h
      · exact .inl h
      · exact .inr (.inr (.inl h))
      · exact .inr (.inr (.inr (.inl h)))
      · exact .inr (.inr (.inr (.inr h))))
    refine W.done s _ _ ⟨a1, a2, a3, a4, a5, pl1.isList, pl2.isList⟩ fun h' tk hk => ⟨rfl, ?_⟩
    have trk : ∀ b o, H b = some o → b ∉ [z, TI, TO, i1, i2] := fun b o q hm => by
      have := (hf b hm).1
      rw [this] at q; cases q
    refine I.call (g' := s.gens) (d' := s.drawn) (t' := tk) (h' := h') (ch := [z, TI, TO, i1, i2]) ⟨fun b o q _ _ hx => hk b o (sub b hx) q, fun b o q _ _ hx => ⟨o.slots, hk b o (sub b hx) q⟩, fun b o q n hx => n, fun b o q hx => ⟨o, hk b o (sub b hx) q⟩, fun b ys q => q, fun b o u q => q, fun b ps q => ⟨#[], by rw [q]; simp⟩⟩ (fun b o q => ?_) I.bare fun b hb => ?_
    · refine (I.hok b o q).stay (fun c ob hc' q' => hk c ob ?_ q') (fun _ q' => q') fun _ _ q' => q'
      rcases hc' with z' | z'
      · rw [z']; exact sub _ (trk b o q)
      · exact sub _ (trk c _ z')
    · obtain ⟨f0, f1, f2, f3, f4, f5⟩ := hf b hb
      exact ⟨f3, f1, f4, f5⟩
  self := fun A i s Q E st h => wpAny_pyIter_zip st.1 h
section
variable {X : Cx} {elts : List Expr} {kk : Nat} {tp : Pos}
def iZipM (K : PySem.W.Frag) (ta : TA) : TI := fun σ H R => ta σ H fun vs H1 => ∃ l1 l2, vs = [.ref l1, .ref l2] ∧ (∃ xs ys, SqL K H1 l1 xs ∧ SqL K H1 l2 ys) ∧ R (ItzM K l1 l2) H1
theorem pi_zipM {a b : Expr} {ta : TA} {p pos : Pos} (hg : Gl X "zip") (hm : X.mg "zip" = none) (ha : PA X [a, b] ta) (hs : starEach [a, b] X.env = [(false, eval a X.env), (false, eval b X.env)] := by rfl) (hs2 : starEach [b] X.env = [(false, eval b X.env)] := by rfl) :
    PI X (.Tuple elts kk tp) (.Call (.Name "zip" p) [a, b] [] pos) (iZipM X.K ta) := by
  intro pins s σ H R I h
  refine Call_ (ld_blt I hg hm PyProof.Rows.Boot.«zip» (PyProof.Rows.callWith_type1 (thn (ha pos pins s σ H _ I h) fun us s1 ⟨vs, H1, I1, r1, q1⟩ => ?_) (by rw [hs, hs2]) (by rw [hs2]; rfl)))
  obtain ⟨l1, l2, e, ⟨xs, ys, hq1, hq2⟩, q⟩ := q1
  subst e
  obtain ⟨u, v, rfl, ru, rv⟩ := vals2 r1
  cases ru
  cases rv
  obtain ⟨is1, rv1, pl1, hz1⟩ := I1.list hq1
  obtain ⟨is2, rv2, pl2, hz2⟩ := I1.list hq2
  have t1 : l1 < s1.heap.objs.size := by obtain ⟨o, ho, _⟩ := pl1.isList; exact Heap.lt_size ho
  have t2 : l2 < s1.heap.objs.size := by obtain ⟨o, ho, _⟩ := pl2.isList; exact Heap.lt_size ho
  have D := zip_apart s1.heap.objs.size l1 l2 t1 t2
  refine call_zip_2 pl1.isList pl2.isList fun h' b1 b2 b3 b4 b5 b6 hk => wpAny_pyIter_zip b1 ?_
  have I2 : Inv X pins σ H1 { s1 with heap := h' } := I1.kept (t' := s1.toks) hk
  refine ⟨s1.heap.objs.size + 4, [s1.heap.objs.size + 4, s1.heap.objs.size + 2, s1.heap.objs.size + 3, s1.heap.objs.size, s1.heap.objs.size + 1], _, _, H1, rfl, I2,
    turn_zipM _ _ _ _ _ l1 l2 D, ⟨b1, b2, ⟨_, _, b3⟩, b4, b5⟩, fun b hb => ?_, q⟩
  have hbs : s1.heap.objs.size ≤ b := by
    simp only [List.mem_cons, List.not_mem_nil, or_false] at hb
    rcases hb with z | z | z | z | z <;> rw [z] <;> first | exact Nat.le_refl _ | exact Nat.le_add_right _ _
  exact I1.fpOk hbs (I1.hok.fresh hbs)
end
theorem nest_zipM {K : PySem.W.Frag} {l1 l2 : Addr} {xs zs : List V} {g : TG} {tt : TT} {ti : TC} {ys : List V} {σ : St} {H : Hp} {Q : List V → St → Hp → Prop} (Pv : Nat → List V → St → Hp → Prop) (h0 : Pv 0 ys σ H)
    (hl : ∀ i ys σ H, i ≤ min xs.length zs.length → Pv i ys σ H → SqL K H l1 xs ∧ SqL K H l2 zs)
    (hs : ∀ i x y T ys σ H, xs[i]? = some x → zs[i]? = some y → H T = none → Pv i ys σ H → g (.ref T) σ (upd H T (.par [x, y])) fun σ2 H2 => tt σ2 H2 fun b H3 => if b = true then ti ys σ2 H3 (Pv (i + 1)) else Pv (i + 1) ys σ2 H3)
    (hd : ∀ ys σ H, Pv (min xs.length zs.length) ys σ H → Q ys σ H) : tNestW g tt ti (ItzM K l1 l2) ys σ H Q := by
  refine ⟨fun i m ys σ H => m = min xs.length zs.length - i ∧ i ≤ min xs.length zs.length ∧ Pv i ys σ H, ⟨min xs.length zs.length, by simp, Nat.zero_le _, h0⟩, ?_⟩
  rintro i m ys σ H ⟨rfl, hi, p⟩
  obtain ⟨q1, q2⟩ := hl i ys σ H hi p
  by_cases hlt : i < min xs.length zs.length
  · have h1 : i < xs.length := by omega
    have h2 : i < zs.length := by omega
    refine .inr ⟨⟨xs, zs, xs[i], zs[i], q1, q2, by simp [h1], by simp [h2]⟩, Pv (i + 1), fun ys' σ' H' p' => ⟨min xs.length zs.length - (i + 1), by omega, rfl, hlt, p'⟩, fun x H' y => ?_⟩
    obtain ⟨T, a, b, e1, e2, e3, e4⟩ := y
    subst e1 e3
    obtain ⟨f1, f2⟩ := e4 xs zs q1 q2
    exact hs i a b T ys σ H f1 f2 e2 p
  · have e : i = min xs.length zs.length := by omega
    subst e
    exact .inl ⟨⟨xs, zs, q1, q2, rfl⟩, hd ys σ H p⟩
end L2
-- part P21
set_option Elab.async false
set_option linter.all false
set_option maxRecDepth 100000
set_option maxHeartbeats 4000000
namespace L2
open PySem PySem.Spec PyProof.Rows SeqAt
section
variable {X : Cx}
/-! ### is, is not of two truths -/
theorem op_notB : OpR X (compareOp .IsNot) (fun x y H Q => ∃ a b : Bool, x = .bl a ∧ y = .bl b ∧ Q (.bl (!(a == b))) H) := by
  intro pins s σ H x y u v Q I rx ry h
  obtain ⟨a, b, rfl, rfl, q⟩ := h
  cases rx
  cases ry
  refine wpAny_isNot_plain rfl ⟨.bl _, H, I, ?_, q⟩
  show Value.bool (!(Value.bool a == Value.bool b)) = Value.bool (!(a == b))
  cases a <;> cases b <;> rfl
/-! ### == and != of tuples of ints and None -/
def niV : V → Bool
  | .non => true
  | .int _ => true
  | _ => false
def rTN (K : PySem.W.Frag) (r : Bool) : R2 := fun x y H Q => ∃ (a b : Addr) (xs ys : List V), x = .ref a ∧ y = .ref b ∧ H a = some (.tup xs) ∧ H b = some (.tup ys) ∧ xs.all niV = true ∧ ys.all niV = true ∧ Q (.bl (xor r (decide (xs = ys)))) H
end
end L2
-- part PScr
set_option Elab.async false
set_option linter.all false
set_option maxRecDepth 100000
namespace U
open PySem L2 PyProof.Rows
def ScrAt (K : PySem.W.Frag) (H : Hp) (a : Addr) (ns : List Int) : Prop := (∃ o, H a = some (.frz o (.lst (ns.map V.int)))) ∨ ∃ (o : Obj) (its : Array Value) (n : Nat), K.lookup a = some o ∧ o.cls = .type "list" ∧ o.dict = none ∧ o.data = .seq its n ∧ its.size ≤ sizeLine ∧ Vals (ns.map V.int) its.toList
theorem ScrAt.sq {K : PySem.W.Frag} {H : Hp} {a : Addr} {ns : List Int} (h : ScrAt K H a ns) : SqL K H a (ns.map V.int) := by
  rcases h with ⟨o, h⟩ | h
  · exact .inl (.inr ⟨o, h⟩)
  · exact .inr h
theorem ScrAt.same {K : PySem.W.Frag} {H H' : Hp} {a : Addr} {ns : List Int} (h : ScrAt K H a ns) (s : Same H H') : ScrAt K H' a ns := by
  rcases h with ⟨o, h⟩ | h
  · exact .inl ⟨o, s _ _ h⟩
  · exact .inr h
theorem ScrAt.x {K : PySem.W.Frag} {H H' : Hp} {a p : Addr} {ns : List Int} {o : HO} (h : ScrAt K H a ns) (s : SameX p H H') (hp : H p = some o) (hn : ∀ ob u, o ≠ .frz ob u) : ScrAt K H' a ns := by
  rcases h with ⟨ob, h⟩ | h
  · exact .inl ⟨ob, s _ _ h fun z => by rw [z, hp] at h; cases h; exact hn _ _ rfl⟩
  · exact .inr h
end U
-- part PTab
set_option Elab.async false
set_option linter.all false
set_option maxRecDepth 100000
namespace U
open PySem L2 PyProof.Rows PySem.Spec
/-! ### the head, with the law's code table -/
def BmAt (mg : Str → Option Value) (h : Heap) : Prop := ∃ bm ob, mg "__builtins__" = some (.ref bm) ∧ bm ≠ builtinsNs ∧ h.get? bm = some ob ∧ ob.cls = .type "module" ∧ ob.dict = some builtinsNs ∧ ob.data = .plain
theorem law_callTs {P : Program} {w : World} {K : PySem.W.Frag} {mg mb : Str → Option Value} {k : Nat} {fa a : Addr} {Pts : List Addr} {fd : FuncData} {x : Str} {sp : Sp} {s₁ : Shared} {vs : List Value} {ns : List Int}
    (KX : K.In s₁.heap) (hns : s₁.heap.Ns mainGlobals mg) (hb : s₁.heap.Ns builtinsNs mb) (hbb : ∀ x : Str, x ≠ "__name__" → mb x = bootBuiltins x) (hlim : s₁.heap.NoLimit) (hg : s₁.gens = #[])
    (ha : s₁.heap.get? a = some { cls := .type "list", data := .seq vs.toArray }) (hi : IntsAre vs ns) (hl : ns.length ≤ sizeLine) (hr : Room k callerA)
    (hTs : ∀ Pt ∈ Pts, s₁.heap.get? Pt = some (PySem.W.tabObj #[])) (hCs : ∀ Pt ∈ Pts, ∃ c, PySem.W.CodeHd s₁.heap c Pt) (hKPs : ∀ Pt ∈ Pts, K.lookup Pt = none) (hbm : BmAt mg s₁.heap)
    (F : ∀ base : Heap, K.In base → base.Ns mainGlobals mg → BmAt mg base → FnOk P w K mg base CX0 k fa fd [x] sp) (hbind : ∀ (s : Shared) (u : Value), BindsTo s fd ⟨[u], []⟩ [(x, u)])
    (hsp : ∀ H : Hp, ScrAt K H a ns → (∀ Pt ∈ Pts, H Pt = some (.tbl #[])) → sp [.ref a] H (fun v _ => v = .bl true) fun _ _ _ => False) :
    codeAny (model P w) callerA (.call (.ref fa) ⟨[.ref a], []⟩) (fun r s' => r = .ok (.ret (.bool true)) ∧ OldK s₁.heap s'.heap ∧ s'.os = s₁.os ∧ AllBare s'.gens) s₁ := by
  have rv := vals_ints hi
  have lenV := hi.length
  have hT' : ∀ {Pt : Addr}, Pt ∈ Pts → s₁.heap.get? Pt = some { cls := .none, data := .fields #[] } := fun h => hTs _ h
  have hPa : a ∉ Pts := fun z => by have h := hT' z; rw [ha] at h; cases h
  have core : ∀ H : Hp, (∀ b, b ∉ Pts → H b = none ∨ ∃ o xs, H b = some (.frz o (.lst xs))) → ScrAt K H a ns → (∀ Pt ∈ Pts, H Pt = some (.tbl #[])) → HOk P w H s₁.heap → (∀ b, H b ≠ none → b = a ∨ b ∈ Pts) → (H a ≠ none → K.lookup a = none) →
      codeAny (model P w) callerA (.call (.ref fa) ⟨[.ref a], []⟩) (fun r s' => r = .ok (.ret (.bool true)) ∧ OldK s₁.heap s'.heap ∧ s'.os = s₁.os ∧ AllBare s'.gens) s₁ := by
    intro H hO hS hP hok hA hK
    have base_of : ∀ {b : Addr} {o : Obj}, s₁.heap.get? b = some o → H b = none → (hidT s₁.heap H).get? b = some o := fun e n => hidT_get e n
    have noA : ∀ {b : Addr} {o : Obj}, s₁.heap.get? b = some o → (∀ vs n, o.data ≠ .seq vs n) → (∀ ps, o.data ≠ .fields ps) → H b = none := fun {b o} e d1 d2 => by
      cases q : H b with
      | none => rfl
      | some u =>
        rcases hA b (by rw [q]; simp) with e' | e'
        · subst e'
          rw [ha] at e; cases e
          exact absurd rfl (d1 _ _)
        · rw [hT' e'] at e; cases e
          exact absurd rfl (d2 _)
    have nsK : ∀ {b : Addr} {m : Str → Option Value}, s₁.heap.Ns b m → (hidT s₁.heap H).Ns b m := fun {b m} ⟨o, es, ep, e, d, r⟩ => ⟨o, es, ep, base_of e (noA e (fun _ _ z => by rw [d] at z; cases z) fun _ z => by rw [d] at z; cases z), d, r⟩
    have hKb : K.In (hidT s₁.heap H) := fun b o e => base_of (KX b o e) (by
      cases q : H b with
      | none => rfl
      | some u =>
        rcases hA b (by rw [q]; simp) with e' | e'
        · subst e'
          rw [hK (by rw [q]; simp)] at e; cases e
        · rw [hKPs _ e'] at e; cases e)
    have hM : Mod K mg (hidT s₁.heap H) := ⟨hKb, nsK hns, ⟨mb, nsK hb, hbb⟩, let ⟨mc, h1, h2⟩ := hlim; ⟨mc, nsK h1, h2⟩⟩
    have hbm' : BmAt mg (hidT s₁.heap H) := let ⟨bm, ob, b1, b2, b3, b4, b5, b6⟩ := hbm; ⟨bm, ob, b1, b2, base_of b3 (noA b3 (fun _ _ z => by rw [b6] at z; cases z) fun _ z => by rw [b6] at z; cases z), b4, b5, b6⟩
    have e0 : Env0 P w K mg (hidT s₁.heap H) callerA [] s₁ H := ⟨rfl, hM, fun b o e => of_hidT e, Nat.le_of_eq (hidT_size _ _), trivial, fun b hb => absurd (show b ∈ ([] : List Addr) from hb) (by simp), hok, .of_eq hg⟩
    refine codeAny_mono ((F _ hKb (nsK hns) hbm').run callerA [] s₁ H ⟨[.ref a], []⟩ [.ref a] [.ref a] _ _ hr e0 (hbind s₁ (.ref a)) (.cons rfl .nil) (hsp H hS hP)) fun r s' h => ?_
    cases r with
    | error e => exact False.elim h
    | ok fl =>
      cases fl with
      | next => exact False.elim h
      | brk => exact False.elim h
      | cont => exact False.elim h
      | ret u =>
        obtain ⟨v, H', os, bare, un, hok', r', q⟩ := h
        have q' : v = .bl true := q
        subst q'
        obtain rfl : u = Value.bool true := r'
        have old : ∀ b o, s₁.heap.get? b = some o → asItWas s₁.heap s'.heap b o := fun b o e => by
          cases q : H b with
          | none => exact .inl (un.keep b o e q (by intro z; exact absurd (show b ∈ ([] : List Addr) from z) (by simp)) (by simp))
          | some u =>
            by_cases hbP : b ∈ Pts
            · obtain ⟨more, z⟩ := un.tbls b _ (hP b hbP)
              have e2 : s'.heap.get? b = some { cls := .none, data := .fields (#[] ++ more) } := hok' b _ z
              rw [hT' hbP] at e
              cases e
              obtain ⟨c, hC⟩ := hCs b hbP
              exact .inr (.inl ⟨(hC.tab (hTs b hbP)).isCodeTable, rfl, #[], more, rfl, e2⟩)
            · rcases hO b hbP with z | ⟨ob, xs, z⟩
              · rw [q] at z; cases z
              · have z2 := un.frzs b ob _ z
                obtain ⟨e1, _⟩ := hok b _ z
                obtain ⟨e2, _⟩ := hok' b _ z2
                rw [e] at e1; cases e1
                exact .inl e2
        exact ⟨rfl, ⟨old, fun b o e => un.there b o e (by simp)⟩, os, bare⟩
  cases hk : K.lookup a with
  | some o =>
    have e := KX a o hk
    rw [ha] at e
    cases e
    refine core (fun b => if b ∈ Pts then some (.tbl #[]) else none) (fun b n => .inl (if_neg n)) (.inr ⟨_, vs.toArray, _, hk, rfl, rfl, rfl, by rw [List.size_toArray, lenV]; exact hl, by simpa using rv⟩) (fun Pt h => if_pos h) (fun b u z => ?_) (fun b z => ?_) fun z => absurd (if_neg hPa) z
    · by_cases hb : b ∈ Pts
      · have z' := (if_pos hb).symm.trans z
        cases z'
        exact hT' hb
      · have z' := (if_neg hb).symm.trans z
        cases z'
    · by_cases hb : b ∈ Pts
      · exact .inr hb
      · exact absurd (if_neg hb) z
  | none =>
    refine core (fun b => if b ∈ Pts then some (.tbl #[]) else if b = a then some (.frz { cls := .type "list", data := .seq vs.toArray } (.lst (ns.map V.int))) else none) (fun b n => ?_) (.inl ⟨{ cls := .type "list", data := .seq vs.toArray }, (if_neg hPa).trans (if_pos rfl)⟩) (fun Pt h => if_pos h) (fun b u z => ?_) (fun b z => ?_) fun _ => hk
    · by_cases hb : b = a
      · exact .inr ⟨_, _, (if_neg n).trans (if_pos hb)⟩
      · exact .inl ((if_neg n).trans (if_neg hb))
    · by_cases hP : b ∈ Pts
      · have z' := (if_pos hP).symm.trans z
        cases z'
        exact hT' hP
      · by_cases hb : b = a
        · have z' := ((if_neg hP).trans (if_pos hb)).symm.trans z
          cases z'
          subst hb
          exact ⟨ha, by rw [List.length_map]; exact hl, vs, _, rv, ha⟩
        · have z' := ((if_neg hP).trans (if_neg hb)).symm.trans z
          cases z'
    · by_cases hP : b ∈ Pts
      · exact .inr hP
      · by_cases hb : b = a
        · exact .inl hb
        · exact absurd ((if_neg hP).trans (if_neg hb)) z
theorem walk_ofTs {l : PySem.W.OpenLaw} {n k : Nat} {q : Program} {loose : List Str} {XP : (Str → Option Value) → Heap → Prop} {YP : World → Heap → Prop} {d : DefRec} {K : Params → PySem.W.Frag} {sp : PySem.W.Frag → Sp} {x : Str} {Pts : List Addr}
    (hn : l.most = some n) (hn2 : n ≤ sizeLine) (hdf : d.params.defaults = []) (hr : Room k callerA)
    (hY : ∀ (w : World) (h : Heap), YP w h → (K w.params).In h) (hYT : ∀ (w : World) (h : Heap), YP w h → ∀ Pt ∈ Pts, h.get? Pt = some (PySem.W.tabObj #[]))
    (hC : ∀ (w : World) (h : Heap), (K w.params).In h → ∀ Pt ∈ Pts, ∃ c, PySem.W.CodeHd h c Pt) (hKP : ∀ w : World, ∀ Pt ∈ Pts, (K w.params).lookup Pt = none)
    (F : ∀ (w : World) (mg : Str → Option Value) (fa : Addr) (h : Heap), (K w.params).In h → h.Ns mainGlobals mg → mg d.name = some (.ref fa) →
      ∃ fd : FuncData, (∀ (s : Shared) (u : Value), BindsTo s fd ⟨[u], []⟩ [(x, u)]) ∧
        ∀ base : Heap, (K w.params).In base → base.Ns mainGlobals mg → BmAt mg base → FnOk l.prog w (K w.params) mg base CX0 k fa fd [x] (sp (K w.params)))
    (hsp : ∀ (K : PySem.W.Frag) (H : Hp) (a : Addr) (ns : List Int), ns.length ≤ n → ScrAt K H a ns → (∀ Pt ∈ Pts, H Pt = some (.tbl #[])) → sp K [.ref a] H (fun v _ => v = .bl true) fun _ _ _ => False) :
    PySem.W.WalkO q loose XP YP l.row.toRowW d [] (fun f vs => PySem.call f vs) := by
  refine Att.attach_call hn hdf fun w s₀ s₁ mg mb fa o pm cd doc a vs ns G Y ho hd hcd hmg hobj hints hlen hg => ?_
  have KX := hY w _ Y
  obtain ⟨fd, hb, hF⟩ := F w mg fa _ KX G.T.g hmg
  exact law_callTs KX G.T.g G.T.b G.T.builtins G.T.nolimit hg hobj hints (Nat.le_trans hlen hn2) hr (hYT w _ Y) (hC w _ KX) (hKP w) G.T.bmain hF hb (fun H hS hP => hsp (K w.params) H a ns hlen hS hP)
end U
-- part PDef
set_option Elab.async false
set_option linter.all false
set_option maxRecDepth 100000
namespace U
open PySem L2 PyProof.Rows PySem.Spec
def DefAt (K : PySem.W.Frag) (x : Str) (st : Stmt) : Prop := ∃ f fd, PySem.W.nsIn K mainGlobals x = some (some (.ref f)) ∧ Fun K x x st f fd
theorem defAt_mk {K : PySem.W.Frag} {x : Str} {st : Stmt} {f : Addr} {oc : Value} {od an : Option Addr} {osl : Array (Option Value)} {kV doc pm cdv ct : Value} (e1 : PySem.W.nsIn K mainGlobals x = some (some (.ref f)))
    (e2 : K.lookup f = some ⟨oc, od, .func (PySem.W.fnOf x x (defArgs st) (defBody st) (defScope st) .none kV doc pm an cdv ct), osl⟩) (e3 : PySem.W.codeIn K cdv x = true) (e4 : PySem.W.keepIn K (.ref f) = true) : DefAt K x st := ⟨f, _, e1, fun_mk e2 e3 e4⟩
section
variable {P : Program} {w : World} {K : PySem.W.Frag} {mg : Str → Option Value} {base : Heap}
abbrev BindsAs (x : Str) (st : Stmt) (ps : List Str) : Prop := ∀ (kV doc pm : Value) (an : Option Addr) (cdv ct : Value) (us : List Value), us.length = ps.length → bindArgs (PySem.W.fnOf x x (defArgs st) (defBody st) (defScope st) .none kV doc pm an cdv ct) ⟨us, []⟩ = pure (ps.zip us)
theorem DefAt.to {h : Heap} {x : Str} {st : Stmt} {ps : List Str} {k : Nat} {sp : Sp} (d : DefAt K x st) (KX : K.In h) (G : h.Ns mainGlobals mg) (hb : BindsAs x st ps) (ok : ∀ f fd, Fun K x x st f fd → FnOk P w K mg base CX0 k f fd ps sp) : Def P w K mg base k x ps sp := by
  obtain ⟨f, fd, e, F⟩ := d
  exact ⟨f, fd, ok f fd F, PySem.W.mg_of KX G e, F.kp, F.binds hb⟩
def noneAt (K : PySem.W.Frag) (x : Str) : Bool := match PySem.W.nsIn K mainGlobals x with | some none => true | _ => false
theorem noneAt_of {h : Heap} {x : Str} (KX : K.In h) (G : h.Ns mainGlobals mg) (e : noneAt K x = true) : mg x = none := by
  unfold noneAt at e
  split at e
  · rename_i q
    exact PySem.W.mg_none_of KX G q
  · cases e
abbrev Binds1 (x a : Str) (st : Stmt) : Prop := ∀ (kV doc pm : Value) (an : Option Addr) (cdv ct u : Value), bindArgs (PySem.W.fnOf x x (defArgs st) (defBody st) (defScope st) .none kV doc pm an cdv ct) ⟨[u], []⟩ = pure [(a, u)]
theorem b1 {x a : Str} {st : Stmt} (h : Binds1 x a st) : BindsAs x st [a] := fun kV doc pm an cdv ct us hl => match us, hl with | [u], _ => h kV doc pm an cdv ct u
theorem b2 {x a b : Str} {st : Stmt} (h : ∀ (kV doc pm : Value) (an : Option Addr) (cdv ct u v : Value), bindArgs (PySem.W.fnOf x x (defArgs st) (defBody st) (defScope st) .none kV doc pm an cdv ct) ⟨[u, v], []⟩ = pure [(a, u), (b, v)]) : BindsAs x st [a, b] := fun kV doc pm an cdv ct us hl => match us, hl with | [u, v], _ => h kV doc pm an cdv ct u v
theorem b3 {x a b c : Str} {st : Stmt} (h : ∀ (kV doc pm : Value) (an : Option Addr) (cdv ct u v w : Value), bindArgs (PySem.W.fnOf x x (defArgs st) (defBody st) (defScope st) .none kV doc pm an cdv ct) ⟨[u, v, w], []⟩ = pure [(a, u), (b, v), (c, w)]) : BindsAs x st [a, b, c] := fun kV doc pm an cdv ct us hl => match us, hl with | [u, v, w], _ => h kV doc pm an cdv ct u v w
/-- the law itself, where it has no lambdas -/
theorem law_end {h : Heap} {fa : Addr} {st : Stmt} {k : Nat} {sp : Sp} (d : DefAt K "law" st) (KX : K.In h) (G : h.Ns mainGlobals mg) (hmg : mg "law" = some (.ref fa)) (hb : Binds1 "law" "_law_script" st)
    (ok : ∀ (base : Heap) f fd, Fun K "law" "law" st f fd → FnOk P w K mg base CX0 k f fd ["_law_script"] sp) :
    ∃ fd : FuncData, (∀ (s : Shared) (u : Value), BindsTo s fd ⟨[u], []⟩ [("_law_script", u)]) ∧ ∀ base : Heap, K.In base → base.Ns mainGlobals mg → BmAt mg base → FnOk P w K mg base CX0 k fa fd ["_law_script"] sp := by
  obtain ⟨f, fd, e, F⟩ := d
  have e0 := hmg.symm.trans (PySem.W.mg_of KX G e)
  cases e0
  obtain ⟨oc, od, kV, doc, pm, an, cdv, ct, osl, rfl, lk, hcd⟩ := id F.ex
  exact ⟨_, fun s u => .of_eq (hb _ _ _ _ _ _ u), fun base _ _ _ => ok base _ _ F⟩
end
end U
-- part H1
set_option Elab.async false
set_option linter.all false
set_option maxRecDepth 100000
set_option maxHeartbeats 4000000
namespace HS
open PySem PySem.SetTable
/-! ### the places, rising -/
abbrev Ris (l : List Nat) : Prop := l.Pairwise (· < ·)
theorem ris_at {xs : Array Nat} (hr : Ris xs.toList) {i k : Nat} (hi : i < xs.size) (hk : k < xs.size) (h : i < k) : xs[i] < xs[k] := by
  have := List.pairwise_iff_getElem.mp hr i k (by simpa using hi) (by simpa using hk) h
  simpa using this
theorem ris_le {xs : Array Nat} (hr : Ris xs.toList) {i k : Nat} (hi : i < xs.size) (hk : k < xs.size) (h : i ≤ k) : xs[i] ≤ xs[k] := by
  rcases Nat.lt_or_eq_of_le h with h | h
  · exact Nat.le_of_lt (ris_at hr hi hk h)
  · subst h; exact Nat.le_refl _
theorem below_go {xs : Array Nat} {j : Nat} (hr : Ris xs.toList) : ∀ (fuel lo hi : Nat), hi ≤ xs.size → lo ≤ hi → hi - lo ≤ fuel → (∀ i (h : i < xs.size), i < lo → xs[i] < j) → (∀ i (h : i < xs.size), hi ≤ i → j ≤ xs[i]) →
    below.go xs j fuel lo hi ≤ xs.size ∧ (∀ i (h : i < xs.size), i < below.go xs j fuel lo hi → xs[i] < j) ∧ (∀ i (h : i < xs.size), below.go xs j fuel lo hi ≤ i → j ≤ xs[i])
  | 0, lo, hi, h1, h2, h3, h4, h5 => by
    have e : lo = hi := by omega
    subst e
    exact ⟨h1, h4, h5⟩
  | fuel + 1, lo, hi, h1, h2, h3, h4, h5 => by
    unfold below.go
    by_cases hlt : lo < hi
    · rw [if_pos hlt]
      dsimp only
      have hm : (lo + hi) / 2 < xs.size := by omega
      have e : xs.getD ((lo + hi) / 2) j = xs[(lo + hi) / 2] := by
        unfold Array.getD
        rw [dif_pos hm]
        rfl
      rw [e]
      by_cases hc : xs[(lo + hi) / 2] < j
      · rw [if_pos hc]
        refine below_go hr fuel _ hi h1 (by omega) (by omega) (fun i h hi' => ?_) h5
        exact Nat.lt_of_le_of_lt (ris_le hr h hm (by omega)) hc
      · rw [if_neg hc]
        refine below_go hr fuel lo _ (by omega) (by omega) (by omega) h4 (fun i h hi' => ?_)
        exact Nat.le_trans (Nat.le_of_not_lt hc) (ris_le hr hm h hi')
    · rw [if_neg hlt]
      have e : lo = hi := by omega
      subst e
      exact ⟨h1, h4, h5⟩
theorem below_spec {xs : Array Nat} {j : Nat} (hr : Ris xs.toList) : below xs j ≤ xs.size ∧ (∀ i (h : i < xs.size), i < below xs j → xs[i] < j) ∧ (∀ i (h : i < xs.size), below xs j ≤ i → j ≤ xs[i]) :=
  below_go hr _ _ _ (Nat.le_refl _) (Nat.zero_le _) (by omega) (fun i h z => absurd z (Nat.not_lt_zero _)) (fun i h z => by omega)
theorem below_at {xs : Array Nat} {i j : Nat} (hr : Ris xs.toList) (h : xs[i]? = some j) : below xs j = i := by
  obtain ⟨hi, e⟩ := Array.getElem?_eq_some_iff.mp h
  obtain ⟨h1, h2, h3⟩ := below_spec (j := j) hr
  rcases Nat.lt_trichotomy (below xs j) i with q | q | q
  · have a := h3 (below xs j) (by omega) (Nat.le_refl _)
    have b := ris_at hr (by omega) hi q
    omega
  · exact q
  · have := h2 i hi q
    omega
theorem slot_live {t : SetTable} {i j : Nat} (hr : Ris t.place.toList) (h : t.place[i]? = some j) : t.slot j = .live i := by
  unfold slot
  rw [below_at hr h]
  dsimp only
  rw [h, if_pos (by simp)]
theorem slot_empty {t : SetTable} {j : Nat} (hd : t.dummies = #[]) (h : j ∉ t.place.toList) : t.slot j = .empty := by
  unfold slot
  dsimp only
  have h1 : ¬ (t.place[below t.place j]? == some j) = true := by
    intro z
    have z' := eq_of_beq z
    obtain ⟨hi, e⟩ := Array.getElem?_eq_some_iff.mp z'
    exact h (by rw [← e]; simp)
  have h2 : ¬ has t.dummies j = true := by
    rw [hd]
    unfold has
    simp
  rw [if_neg h1, if_neg h2]
theorem mem_at {xs : Array Nat} {j : Nat} (h : j ∈ xs.toList) : ∃ i : Nat, xs[i]? = some j := by
  obtain ⟨i, hi, e⟩ := List.getElem_of_mem h
  exact ⟨i, by rw [← Array.getElem?_toList, List.getElem?_eq_getElem hi, e]⟩
theorem at_mem {xs : Array Nat} {i j : Nat} (h : xs[i]? = some j) : j ∈ xs.toList := by
  rw [← Array.getElem?_toList] at h
  exact List.mem_of_getElem? h
/-! ### put -/
theorem put_place {t : SetTable} {j : Nat} : (t.put j).1.place.toList = t.place.toList.take (below t.place j) ++ j :: t.place.toList.drop (below t.place j) := by
  unfold put
  exact toList_insertAt _ _ _
theorem put_ris {t : SetTable} {j : Nat} (hr : Ris t.place.toList) (h : j ∉ t.place.toList) : Ris (t.put j).1.place.toList := by
  rw [put_place]
  obtain ⟨h1, h2, h3⟩ := below_spec (j := j) hr
  generalize below t.place j = p at *
  have a : ∀ x ∈ t.place.toList.take p, x < j := fun x hx => by
    obtain ⟨i, hi, e⟩ := List.getElem_of_mem hx
    rw [List.length_take] at hi
    rw [List.getElem_take] at e
    rw [← e]
    have := h2 i (by simp at hi; omega) (by omega)
    simpa using this
  have b : ∀ x ∈ t.place.toList.drop p, j < x := fun x hx => by
    obtain ⟨i, hi, e⟩ := List.getElem_of_mem hx
    rw [List.length_drop] at hi
    rw [List.getElem_drop] at e
    have := h3 (p + i) (by simp at hi; omega) (by omega)
    have e' : t.place[p + i]'(by simp at hi; omega) = x := by simpa using e
    rw [e'] at this
    rcases Nat.lt_or_eq_of_le this with q | q
    · exact q
    · exact absurd (List.mem_of_mem_drop hx) (by rw [← q]; exact h)
  refine List.pairwise_append.mpr ?_
  refine ⟨hr.sublist (List.take_sublist ..), List.pairwise_cons.mpr ⟨b, hr.sublist (List.drop_sublist ..)⟩, fun x hx y hy => ?_⟩
  rcases List.mem_cons.mp hy with rfl | hy
  · exact a x hx
  · exact Nat.lt_trans (a x hx) (b y hy)
/-! ### the road of a hash through the slots -/
abbrev tb (m : Nat) : SetTable := { mask := m, place := #[], dummies := #[], finger := 0, led := false, moves := 0, plain := false }
def adv (m : Nat) (p : Probe) : Probe := (tb m).advance p
theorem adv_eq (t : SetTable) (p : Probe) : t.advance p = adv t.mask p := rfl
def it (m : Nat) (p : Probe) : Nat → Probe
  | 0 => p
  | k + 1 => adv m (it m p k)
theorem it_succ (m : Nat) (p : Probe) : ∀ k, it m p (k + 1) = it m (adv m p) k
  | 0 => rfl
  | k + 1 => by
    show adv m (it m p (k + 1)) = adv m (it m (adv m p) k)
    rw [it_succ m p k]
theorem it_add (m : Nat) (p : Probe) (a : Nat) : ∀ b, it m p (a + b) = it m (it m p a) b
  | 0 => rfl
  | b + 1 => by
    show adv m (it m p (a + b)) = adv m (it m (it m p a) b)
    rw [it_add m p a b]
theorem adv_dummy (m : Nat) (p : Probe) : (adv m p).dummy = p.dummy := by
  unfold adv advance
  split <;> rfl
theorem it_dummy (m : Nat) (p : Probe) : ∀ k, (it m p k).dummy = p.dummy
  | 0 => rfl
  | k + 1 => (adv_dummy m _).trans (it_dummy m p k)
theorem go_spec {t : SetTable} {hashAt : Nat → Int} {h : Int} (hr : Ris t.place.toList) (hd : t.dummies = #[]) : ∀ (n fuel : Nat) (p : Probe), p.dummy = none → n < fuel → (∀ k < n, (it t.mask p k).j ∈ t.place.toList) → (it t.mask p n).j ∉ t.place.toList →
    (probe.go t hashAt h fuel p = some (.empty (it t.mask p n).j none) ∧ ∀ k < n, ∀ i : Nat, t.place[i]? = some (it t.mask p k).j → hashAt i ≠ h) ∨
    ∃ k i : Nat, k < n ∧ t.place[i]? = some (it t.mask p k).j ∧ hashAt i = h ∧ probe.go t hashAt h fuel p = some (.candidate (it t.mask p k).j i (it t.mask p (k + 1))) ∧ ∀ k' < k, ∀ i : Nat, t.place[i]? = some (it t.mask p k').j → hashAt i ≠ h
  | 0, 0, p, _, h1, _, _ => absurd h1 (Nat.lt_irrefl _)
  | n + 1, 0, p, _, h1, _, _ => absurd h1 (Nat.not_lt_zero _)
  | 0, fuel + 1, p, hp, h1, h2, h3 => by
    refine .inl ⟨?_, fun k hk => absurd hk (Nat.not_lt_zero _)⟩
    unfold probe.go
    have e : t.slot p.j = .empty := slot_empty hd h3
    rw [e]
    dsimp only
    rw [hp]
    rfl
  | n + 1, fuel + 1, p, hp, h1, h2, h3 => by
    obtain ⟨i, hi⟩ := mem_at (h2 0 (Nat.succ_pos _))
    have e : t.slot p.j = .live i := slot_live hr hi
    unfold probe.go
    rw [e]
    dsimp only
    rw [adv_eq]
    by_cases hh : hashAt i = h
    · rw [if_pos (by simp [hh])]
      exact .inr ⟨0, i, Nat.succ_pos _, hi, hh, rfl, fun k' hk' => absurd hk' (Nat.not_lt_zero _)⟩
    · rw [if_neg (by simp [hh])]
      have uniq : ∀ i' : Nat, t.place[i']? = some (it t.mask p 0).j → hashAt i' ≠ h := fun i' hi' => by
        have q1 := below_at hr hi'
        have q2 := below_at hr hi
        have : i' = i := q1.symm.trans q2
        subst this
        exact hh
      rcases go_spec (hashAt := hashAt) (h := h) hr hd n fuel (adv t.mask p) (by rw [adv_dummy]; exact hp) (by omega) (fun k hk => by rw [← it_succ]; exact h2 (k + 1) (by omega)) (by rw [← it_succ]; exact h3) with ⟨g1, g2⟩ | ⟨k, i2, g1, g2, g3, g4, g5⟩
      · rw [← it_succ] at g1
        refine .inl ⟨g1, fun k hk => ?_⟩
        cases k with
        | zero => exact uniq
        | succ k => rw [it_succ]; exact g2 k (by omega)
      · rw [← it_succ] at g2 g4
        rw [← it_succ] at g4
        refine .inr ⟨k + 1, i2, by omega, g2, g3, g4, fun k' hk' => ?_⟩
        cases k' with
        | zero => exact uniq
        | succ k' => rw [it_succ]; exact g5 k' (by omega)
end HS
-- part H2
set_option Elab.async false
set_option linter.all false
set_option maxRecDepth 100000
set_option maxHeartbeats 4000000
namespace HS
open PySem PySem.SetTable
/-! ### every slot is met -/
abbrev fr (m i pt : Nat) : Probe := { j := i, more := runEnd m i - i, i, perturb := pt, dummy := none }
abbrev st (m : Nat) (h : Int) : Probe := fr m (bits h % (m + 1)) (bits h)
def lp (m : Nat) (x : Nat × Nat) : Nat × Nat := leap m x.1 x.2
def lps (m : Nat) (x : Nat × Nat) : Nat → Nat × Nat
  | 0 => x
  | k + 1 => lp m (lps m x k)
theorem lps_succ (m : Nat) (x : Nat × Nat) : ∀ k, lps m x (k + 1) = lps m (lp m x) k
  | 0 => rfl
  | k + 1 => by
    show lp m (lps m x (k + 1)) = lp m (lps m (lp m x) k)
    rw [lps_succ m x k]
theorem lps_add (m : Nat) (x : Nat × Nat) (a : Nat) : ∀ b, lps m x (a + b) = lps m (lps m x a) b
  | 0 => rfl
  | b + 1 => by
    show lp m (lps m x (a + b)) = lp m (lps m (lps m x a) b)
    rw [lps_add m x a b]
theorem run_le (m i : Nat) : runEnd m i - i ≤ 9 := by
  unfold runEnd
  split <;> omega
theorem it_run (m i pt : Nat) : ∀ k, k ≤ runEnd m i - i → it m (fr m i pt) k = { j := i + k, more := runEnd m i - i - k, i := i, perturb := pt, dummy := none }
  | 0, _ => rfl
  | k + 1, h => by
    show adv m (it m (fr m i pt) k) = _
    rw [it_run m i pt k (by omega)]
    unfold adv advance
    dsimp only
    rw [if_pos (by omega)]
    have e : runEnd m i - i - k - 1 = runEnd m i - i - (k + 1) := by omega
    rw [e, Nat.add_assoc]
theorem it_leap (m i pt : Nat) : it m (fr m i pt) (runEnd m i - i + 1) = fr m (lp m (i, pt)).1 (lp m (i, pt)).2 := by
  show adv m (it m (fr m i pt) (runEnd m i - i)) = _
  rw [it_run m i pt _ (Nat.le_refl _)]
  unfold adv advance
  dsimp only
  rw [if_neg (by omega)]
  rfl
theorem it_leaps (m : Nat) : ∀ (k : Nat) (x : Nat × Nat), ∃ d, d ≤ 10 * k ∧ it m (fr m x.1 x.2) d = fr m (lps m x k).1 (lps m x k).2
  | 0, x => ⟨0, by omega, rfl⟩
  | k + 1, x => by
    obtain ⟨d, h1, h2⟩ := it_leaps m k (lp m x)
    refine ⟨runEnd m x.1 - x.1 + 1 + d, by have := run_le m x.1; omega, ?_⟩
    rw [it_add, it_leap m x.1 x.2]
    rw [lps_succ]
    exact h2
theorem lps_pt (m : Nat) (x : Nat × Nat) : ∀ k, (lps m x k).2 = x.2 / 32 ^ k
  | 0 => by simp [lps]
  | k + 1 => by
    show (lps m x k).2 / 32 = _
    rw [lps_pt m x k, Nat.div_div_eq_div_mul, Nat.pow_succ]
theorem lps_lt (m : Nat) (x : Nat × Nat) (h : x.1 < m + 1) : ∀ k, (lps m x k).1 < m + 1
  | 0 => h
  | k + 1 => Nat.mod_lt _ (Nat.succ_pos _)
def nx (m i : Nat) : Nat := (i * 5 + 1) % (m + 1)
def nxs (m : Nat) : Nat → Nat
  | 0 => 0
  | k + 1 => nx m (nxs m k)
def nxL (m : Nat) : Nat → Nat → List Nat
  | 0, _ => []
  | k + 1, i => i :: nxL m k (nx m i)
theorem nxL_at (m : Nat) : ∀ (k n : Nat) (f : Nat), f ∈ nxL m k (nxs m n) → ∃ u, n ≤ u ∧ u < n + k ∧ nxs m u = f
  | 0, n, f, h => by cases h
  | k + 1, n, f, h => by
    rcases List.mem_cons.mp h with rfl | h
    · exact ⟨n, Nat.le_refl _, by omega, rfl⟩
    · obtain ⟨u, h1, h2, h3⟩ := nxL_at m k (n + 1) f h
      exact ⟨u, by omega, by omega, h3⟩
/-- the sizes that are met -/
def Msk (m : Nat) : Prop := m = 7 ∨ m = 31 ∨ m = 127 ∨ m = 511
def cycB (m : Nat) : Bool := (List.range (m + 1)).all fun f => (nxL m (m + 1) 0).contains f
theorem cyc7 : cycB 7 = true ∧ nxs 7 8 = 0 := by decide +kernel
theorem cyc31 : cycB 31 = true ∧ nxs 31 32 = 0 := by decide +kernel
theorem cyc127 : cycB 127 = true ∧ nxs 127 128 = 0 := by decide +kernel
theorem cyc511 : cycB 511 = true ∧ nxs 511 512 = 0 := by decide +kernel
theorem cyc_all {m : Nat} (hm : Msk m) : cycB m = true ∧ nxs m (m + 1) = 0 := by
  rcases hm with rfl | rfl | rfl | rfl
  · exact cyc7
  · exact cyc31
  · exact cyc127
  · exact cyc511
theorem cyc_at {m f : Nat} (hm : Msk m) (hf : f < m + 1) : ∃ u, u < m + 1 ∧ nxs m u = f := by
  have := List.all_eq_true.mp (cyc_all hm).1 f (List.mem_range.mpr hf)
  obtain ⟨u, _, h2, h3⟩ := nxL_at m (m + 1) 0 f (show f ∈ nxL m (m + 1) 0 by simpa using this)
  exact ⟨u, by omega, h3⟩
theorem lps0 (m : Nat) : ∀ (k s : Nat), lps m (nxs m s, 0) k = (nxs m (s + k), 0)
  | 0, s => rfl
  | k + 1, s => by
    show lp m (lps m (nxs m s, 0) k) = _
    rw [lps0 m k s]
    unfold lp leap
    simp [nxs, nx]
theorem lps_zero {m a : Nat} (hm : Msk m) : ∀ k, nxs m (m + 1 + k) = nxs m k
  | 0 => (cyc_all hm).2
  | k + 1 => by
    show nx m (nxs m (m + 1 + k)) = nx m (nxs m k)
    rw [lps_zero (a := a) hm k]
theorem full {m a f : Nat} (hm : Msk m) (ha : a < m + 1) (hf : f < m + 1) : ∃ k, k < m + 1 ∧ (lps m (a, 0) k).1 = f := by
  obtain ⟨s, hs, rfl⟩ := cyc_at hm ha
  obtain ⟨u, hu, rfl⟩ := cyc_at hm hf
  by_cases h : s ≤ u
  · exact ⟨u - s, by omega, by rw [lps0]; show nxs m (s + (u - s)) = _; congr 1; omega⟩
  · refine ⟨m + 1 + u - s, by omega, ?_⟩
    rw [lps0]
    show nxs m (s + (m + 1 + u - s)) = _
    rw [show s + (m + 1 + u - s) = m + 1 + u by omega, lps_zero (a := 0) hm]
theorem bits_lt (h : Int) : bits h < 2 ^ 64 := by
  unfold bits
  have h1 : 0 ≤ h % (2 ^ 64 : Int) := Int.emod_nonneg _ (by decide)
  have h2 : h % (2 ^ 64 : Int) < 2 ^ 64 := Int.emod_lt_of_pos _ (by decide)
  omega
theorem cover_lps {m i pt f : Nat} (hm : Msk m) (hi : i < m + 1) (hp : pt < 2 ^ 64) (hf : f < m + 1) : ∃ k, k < m + 14 ∧ (lps m (i, pt) k).1 = f := by
  have e : (lps m (i, pt) 13).2 = 0 := by
    rw [lps_pt]
    exact Nat.div_eq_of_lt (Nat.lt_of_lt_of_le hp (by decide))
  have l := lps_lt m (i, pt) hi 13
  obtain ⟨k, h1, h2⟩ := full hm l hf
  refine ⟨13 + k, by omega, ?_⟩
  rw [lps_add]
  have e2 : lps m (i, pt) 13 = ((lps m (i, pt) 13).1, 0) := by rw [← e]
  rw [e2]
  exact h2
theorem cover {m f : Nat} (hm : Msk m) (h : Int) (hf : f < m + 1) : ∃ n, n < 10 * turns m ∧ (it m (st m h) n).j = f := by
  obtain ⟨k, h1, h2⟩ := cover_lps hm (Nat.mod_lt _ (Nat.succ_pos _)) (bits_lt h) hf (i := bits h % (m + 1))
  obtain ⟨d, h3, h4⟩ := it_leaps m k (bits h % (m + 1), bits h)
  refine ⟨d, by unfold turns; omega, ?_⟩
  show (it m (fr m (bits h % (m + 1)) (bits h)) d).j = f
  rw [h4]
  exact h2
/-- the road of the hash leads to the slot through slots that are taken -/
def Leads (m : Nat) (occ : Nat → Prop) (p : Probe) (j : Nat) : Prop := ∃ n, (it m p n).j = j ∧ ∀ k < n, occ (it m p k).j
theorem Leads.mono {m : Nat} {occ occ' : Nat → Prop} {p : Probe} {j : Nat} (h : Leads m occ p j) (w : ∀ x, occ x → occ' x) : Leads m occ' p j :=
  let ⟨n, a, b⟩ := h; ⟨n, a, fun k hk => w _ (b k hk)⟩
/-- the first slot that is free on the road -/
theorem first_free {m f : Nat} {occ : Nat → Prop} (hm : Msk m) (h : Int) (hf : f < m + 1) (ho : ¬ occ f) : ∃ n, n < 10 * turns m ∧ (∀ k < n, occ (it m (st m h) k).j) ∧ ¬ occ (it m (st m h) n).j := by
  obtain ⟨n, h1, h2⟩ := cover hm h hf
  have key : ∀ n, n < 10 * turns m → ¬ occ (it m (st m h) n).j → ∃ n, n < 10 * turns m ∧ (∀ k < n, occ (it m (st m h) k).j) ∧ ¬ occ (it m (st m h) n).j := by
    intro n
    induction n using Nat.strongRecOn with
    | _ n ih =>
      intro g1 g2
      by_cases z : ∀ k < n, occ (it m (st m h) k).j
      · exact ⟨n, g1, z, g2⟩
      · have : ∃ k, k < n ∧ ¬ occ (it m (st m h) k).j := Classical.byContradiction fun c => z fun k hk => Classical.byContradiction fun o => c ⟨k, hk, o⟩
        obtain ⟨k, hk, o⟩ := this
        exact ih k hk (by omega) o
  exact key n h1 (by rw [h2]; exact ho)
/-! ### laid anew -/
theorem free_spec {m : Nat} {owner : Array (Option Nat)} : ∀ (fuel k : Nat) (i pt : Nat), k < fuel → ((owner.getD (lps m (i, pt) k).1 (some 0)).isNone = true) →
    ∃ j, layClean.free m owner fuel i pt = some j ∧ (owner.getD j (some 0)).isNone = true ∧ Leads m (fun x => (owner.getD x (some 0)).isNone = false) (fr m i pt) j
  | 0, k, i, pt, h, _ => absurd h (Nat.not_lt_zero _)
  | fuel + 1, k, i, pt, h, ho => by
    unfold layClean.free
    cases hq : (List.range (runEnd m i + 1 - i)).find? fun k => (owner.getD (i + k) (some 0)).isNone with
    | some d =>
      dsimp only
      have h1 := List.find?_some hq
      have hmem := List.mem_of_find?_eq_some hq
      rw [List.mem_range] at hmem
      refine ⟨i + d, rfl, h1, d, ?_, fun k hk => ?_⟩
      · rw [it_run m i pt d (by unfold runEnd at *; split at hmem <;> split <;> omega)]
      · rw [it_run m i pt k (by unfold runEnd at *; split at hmem <;> split <;> omega)]
        obtain ⟨as, bs, e, hall⟩ := (List.find?_eq_some_iff_append.mp hq).2
        have hk2 : k ∈ as := by
          have hp : (List.range (runEnd m i + 1 - i)).Pairwise (· < ·) := List.pairwise_lt_range
          have hkm : k ∈ List.range (runEnd m i + 1 - i) := List.mem_range.mpr (by omega)
          rw [e] at hp hkm
          rcases List.mem_append.mp hkm with q | q
          · exact q
          · rcases List.mem_cons.mp q with q | q
            · omega
            · have := (List.pairwise_cons.mp (List.pairwise_append.mp hp).2.1).1 k q
              omega
        have := hall k hk2
        simpa using this
    | none =>
      dsimp only
      have hall := List.find?_eq_none.mp hq
      have hocc : ∀ d, d ≤ runEnd m i - i → (owner.getD (i + d) (some 0)).isNone = false := fun d hd => by
        have := hall d (List.mem_range.mpr (by unfold runEnd at *; split at hd <;> split <;> omega))
        exact Bool.eq_false_iff.mpr this
      cases k with
      | zero =>
        have := hocc 0 (Nat.zero_le _)
        rw [show (lps m (i, pt) 0).1 = i + 0 from rfl, this] at ho
        cases ho
      | succ k =>
        rw [lps_succ] at ho
        obtain ⟨j, g1, g2, n, g3, g4⟩ := free_spec (m := m) (owner := owner) fuel k (lp m (i, pt)).1 (lp m (i, pt)).2 (by omega) ho
        refine ⟨j, g1, g2, runEnd m i - i + 1 + n, ?_, fun d hd => ?_⟩
        · rw [it_add, it_leap]
          exact g3
        · by_cases hd2 : d ≤ runEnd m i - i
          · rw [it_run m i pt d hd2]
            exact hocc d hd2
          · obtain ⟨c, rfl⟩ : ∃ c, d = runEnd m i - i + 1 + c := ⟨d - (runEnd m i - i + 1), by omega⟩
            rw [it_add, it_leap]
            exact g4 c (by omega)
end HS
-- part H3
set_option Elab.async false
set_option linter.all false
set_option maxRecDepth 100000
set_option maxHeartbeats 4000000
namespace HS
open PySem PySem.SetTable
theorem good_adv {m : Nat} {p : Probe} (h : p.j + p.more ≤ m) : (adv m p).j + (adv m p).more ≤ m := by
  unfold adv advance
  split
  · dsimp only; omega
  · dsimp only [leap, runEnd]
    have := Nat.mod_lt (p.i * 5 + 1 + p.perturb / 32) (show 0 < m + 1 by omega)
    split <;> omega
theorem good_it {m : Nat} {p : Probe} (h : p.j + p.more ≤ m) : ∀ k, (it m p k).j + (it m p k).more ≤ m
  | 0 => h
  | k + 1 => good_adv (good_it h k)
theorem it_lt {m : Nat} (h : Int) (k : Nat) : (it m (st m h) k).j < m + 1 := by
  have := good_it (m := m) (p := st m h) (by
    have := Nat.mod_lt (bits h) (show 0 < m + 1 by omega)
    dsimp only [fr, runEnd]
    split <;> omega) k
  omega
/-! ### the table and its elements -/
structure T0 (t : SetTable) (es : Array (Int × Value)) : Prop where
  sz : t.place.size = es.size
  ris : Ris t.place.toList
  dum : t.dummies = #[]
  le : ∀ j ∈ t.place.toList, j < t.mask + 1
  ld : ∀ z ∈ t.place.toList.zip es.toList, Leads t.mask (· ∈ t.place.toList) (st t.mask z.2.1) z.1
def Roomy (m n : Nat) : Prop := (m = 7 ∧ n ≤ 4) ∨ (m = 31 ∧ n ≤ 18) ∨ (m = 127 ∧ n ≤ 76) ∨ (m = 511 ∧ n ≤ 306)
theorem Roomy.msk {m n : Nat} (h : Roomy m n) : Msk m := by
  rcases h with ⟨h, _⟩ | ⟨h, _⟩ | ⟨h, _⟩ | ⟨h, _⟩
  · exact .inl h
  · exact .inr (.inl h)
  · exact .inr (.inr (.inl h))
  · exact .inr (.inr (.inr h))
theorem Roomy.lt {m n : Nat} (h : Roomy m n) : n + 1 < m := by
  rcases h with ⟨h, _⟩ | ⟨h, _⟩ | ⟨h, _⟩ | ⟨h, _⟩ <;> omega
theorem Roomy.small {m n : Nat} (h : Roomy m n) : n ≤ 306 := by
  rcases h with ⟨h, _⟩ | ⟨h, _⟩ | ⟨h, _⟩ | ⟨h, _⟩ <;> omega
theorem ris_nodup {l : List Nat} (h : Ris l) : l.Nodup := List.Pairwise.imp (fun h => Nat.ne_of_lt h) h
theorem T0.free {t : SetTable} {es : Array (Int × Value)} (T : T0 t es) (h : es.size < t.mask + 1) : ∃ f, f < t.mask + 1 ∧ f ∉ t.place.toList := by
  refine Classical.byContradiction fun c => ?_
  have all : ∀ f, f < t.mask + 1 → f ∈ t.place.toList := fun f hf => Classical.byContradiction fun n => c ⟨f, hf, n⟩
  have p : (t.place.toList).Perm (List.range (t.mask + 1)) := (List.perm_ext_iff_of_nodup (ris_nodup T.ris) List.nodup_range).mpr fun f => ⟨fun hf => List.mem_range.mpr (T.le f hf), fun hf => all f (List.mem_range.mp hf)⟩
  have := p.length_eq
  rw [List.length_range, Array.length_toList, T.sz] at this
  omega
theorem T0.fits {t : SetTable} {es : Array (Int × Value)} (T : T0 t es) (h : es.size ≤ t.mask) : t.fits es.size = true := by
  unfold SetTable.fits SetTable.fill
  rw [T.dum, T.sz]
  simp [h]
theorem zip_ins {α β : Type} {a : List α} {b : List β} (p : Nat) (x : α) (y : β) (h : a.length = b.length) : (a.take p ++ x :: a.drop p).zip (b.take p ++ y :: b.drop p) = (a.zip b).take p ++ (x, y) :: (a.zip b).drop p := by
  rw [List.zip_append (by rw [List.length_take, List.length_take, h]), List.zip_cons_cons]
  simp only [List.zip, List.take_zipWith, List.drop_zipWith]
theorem T0.put {t : SetTable} {es : Array (Int × Value)} (T : T0 t es) {h : Int} {x : Value} {n : Nat} (h1 : ∀ k < n, (it t.mask (st t.mask h) k).j ∈ t.place.toList) (h2 : (it t.mask (st t.mask h) n).j ∉ t.place.toList) (pl : Bool) :
    T0 { (t.put (it t.mask (st t.mask h) n).j).1 with plain := pl } (insertAt es (t.put (it t.mask (st t.mask h) n).j).2 (h, x)) := by
  have lt := it_lt (m := t.mask) h n
  generalize hf : (it t.mask (st t.mask h) n).j = f at *
  have pl1 := put_place (t := t) (j := f)
  have e2 : (t.put f).2 = below t.place f := rfl
  have em : (t.put f).1.mask = t.mask := rfl
  have occ : ∀ y, y ∈ t.place.toList → y ∈ (t.put f).1.place.toList := fun y hy => by
    rw [pl1]
    rw [← List.take_append_drop (below t.place f) t.place.toList] at hy
    rcases List.mem_append.mp hy with q | q
    · exact List.mem_append_left _ q
    · exact List.mem_append_right _ (List.mem_cons_of_mem _ q)
  have lz : t.place.toList.length = es.toList.length := by rw [Array.length_toList, Array.length_toList, T.sz]
  refine ⟨?_, put_ris T.ris h2, ?_, fun j hj => ?_, fun z hz => ?_⟩
  · have a : (t.put f).1.place.size = t.place.size + 1 := by
      rw [← Array.length_toList, pl1, List.length_append, List.length_cons, List.length_take, List.length_drop, Array.length_toList]
      have := (below_spec (j := f) T.ris).1
      omega
    have b : (insertAt es (t.put f).2 (h, x)).size = es.size + 1 := by
      rw [← Array.length_toList, (insertAt_perm es _ (h, x)).length_eq, Array.length_toList, Array.size_push]
    show (t.put f).1.place.size = _
    rw [a, b, T.sz]
  · show (if has t.dummies f then _ else t.dummies) = #[]
    rw [T.dum]
    simp [has]
  · show j < t.mask + 1
    have hj' : j ∈ (t.put f).1.place.toList := hj
    rw [pl1] at hj'
    rcases List.mem_append.mp hj' with q | q
    · exact T.le j (List.mem_of_mem_take q)
    · rcases List.mem_cons.mp q with q | q
      · rw [q]; exact lt
      · exact T.le j (List.mem_of_mem_drop q)
  · have hz' : z ∈ (t.put f).1.place.toList.zip (insertAt es (t.put f).2 (h, x)).toList := hz
    rw [pl1, toList_insertAt, e2, zip_ins _ _ _ lz] at hz'
    have old : ∀ z ∈ t.place.toList.zip es.toList, Leads t.mask (· ∈ (t.put f).1.place.toList) (st t.mask z.2.1) z.1 := fun z hz => (T.ld z hz).mono occ
    rcases List.mem_append.mp hz' with q | q
    · exact old z (List.mem_of_mem_take q)
    · rcases List.mem_cons.mp q with q | q
      · rw [q]
        exact ⟨n, hf, fun k hk => occ _ (h1 k hk)⟩
      · exact old z (List.mem_of_mem_drop q)
/-! ### laid anew -/
structure LInv (m : Nat) (hs : List Int) (owner : Array (Option Nat)) : Prop where
  sz : owner.size = m + 1
  lt : ∀ (j k : Nat), owner[j]? = some (some k) → k < hs.length
  at_ : ∀ (k : Nat) (h : Int), hs[k]? = some h → ∃ j : Nat, owner[j]? = some (some k) ∧ Leads m (fun x => ∃ k, owner[x]? = some (some k)) (st m h) j
  inj : ∀ (j j' k : Nat), owner[j]? = some (some k) → owner[j']? = some (some k) → j = j'
def live (m : Nat) (owner : Array (Option Nat)) : List (Nat × Nat) := (List.range (m + 1)).filterMap fun j => (owner.getD j none).map (j, ·)
theorem getD_none {owner : Array (Option Nat)} {j k : Nat} : owner.getD j none = some k ↔ owner[j]? = some (some k) := by
  rw [Array.getD_eq_getD_getElem?]
  cases owner[j]? with
  | none => simp
  | some o => cases o <;> simp
theorem mem_live {m : Nat} {owner : Array (Option Nat)} (hs : owner.size = m + 1) {x : Nat × Nat} : x ∈ live m owner ↔ owner[x.1]? = some (some x.2) := by
  unfold live
  rw [List.mem_filterMap]
  constructor
  · rintro ⟨j, hj, e⟩
    obtain ⟨k, hk, rfl⟩ := Option.map_eq_some_iff.mp e
    exact getD_none.mp hk
  · intro h
    obtain ⟨hl, _⟩ := Array.getElem?_eq_some_iff.mp h
    exact ⟨x.1, List.mem_range.mpr (by omega), by rw [getD_none.mpr h]; rfl⟩
theorem live_ris (m : Nat) (owner : Array (Option Nat)) : Ris ((live m owner).map (·.1)) := by
  refine List.pairwise_map.mpr ?_
  unfold live
  refine List.pairwise_filterMap.mpr (List.Pairwise.imp ?_ (List.pairwise_lt_range (n := m + 1)))
  intro a b hab x hx y hy
  obtain ⟨_, _, rfl⟩ := Option.map_eq_some_iff.mp hx
  obtain ⟨_, _, rfl⟩ := Option.map_eq_some_iff.mp hy
  exact hab
theorem live_perm {m : Nat} {hs : List Int} {owner : Array (Option Nat)} (L : LInv m hs owner) : ((live m owner).map (·.2)).Perm (List.range hs.length) := by
  refine (List.perm_ext_iff_of_nodup ?_ List.nodup_range).mpr fun k => ?_
  · refine List.nodup_iff_pairwise_ne.mpr (List.pairwise_map.mpr ?_)
    refine List.Pairwise.imp_of_mem ?_ (List.pairwise_map.mp (live_ris m owner))
    intro a b ha hb hab e
    have h1 := (mem_live L.sz).mp ha
    have h2 := (mem_live L.sz).mp hb
    rw [e] at h1
    have := L.inj _ _ _ h1 h2
    omega
  · rw [List.mem_range]
    constructor
    · intro h
      obtain ⟨x, hx, rfl⟩ := List.mem_map.mp h
      exact L.lt _ _ ((mem_live L.sz).mp hx)
    · intro h
      obtain ⟨j, hj, _⟩ := L.at_ k _ (List.getElem?_eq_getElem h)
      exact List.mem_map.mpr ⟨(j, k), (mem_live L.sz).mpr hj, rfl⟩
theorem live_len {m : Nat} {hs : List Int} {owner : Array (Option Nat)} (L : LInv m hs owner) : (live m owner).length = hs.length := by
  have := (live_perm L).length_eq
  rw [List.length_map, List.length_range] at this
  exact this
theorem LInv.free {m : Nat} {hs : List Int} {owner : Array (Option Nat)} (L : LInv m hs owner) (h : hs.length < m + 1) : ∃ f, f < m + 1 ∧ owner[f]? = some none := by
  refine Classical.byContradiction fun c => ?_
  have all : ∀ f, f < m + 1 → ∃ k, owner[f]? = some (some k) := fun f hf => by
    have hf' : f < owner.size := by rw [L.sz]; exact hf
    cases e : owner[f] with
    | none => exact absurd ⟨f, hf, by rw [Array.getElem?_eq_getElem hf', e]⟩ c
    | some k => exact ⟨k, by rw [Array.getElem?_eq_getElem hf', e]⟩
  have p : ((live m owner).map (·.1)).Perm (List.range (m + 1)) := (List.perm_ext_iff_of_nodup (ris_nodup (live_ris m owner)) List.nodup_range).mpr fun f => by
    rw [List.mem_range, List.mem_map]
    constructor
    · rintro ⟨x, hx, rfl⟩
      obtain ⟨hl, _⟩ := Array.getElem?_eq_some_iff.mp ((mem_live L.sz).mp hx)
      rw [L.sz] at hl
      exact hl
    · intro hf
      obtain ⟨k, hk⟩ := all f hf
      exact ⟨(f, k), (mem_live L.sz).mpr hk, rfl⟩
  have := p.length_eq
  rw [List.length_map, live_len L, List.length_range] at this
  omega
theorem getD_some {owner : Array (Option Nat)} {j : Nat} : (owner.getD j (some 0)).isNone = true ↔ owner[j]? = some none := by
  rw [Array.getD_eq_getD_getElem?]
  cases owner[j]? with
  | none => simp
  | some o => cases o <;> simp
theorem LInv.step {m : Nat} {hs : List Int} {owner : Array (Option Nat)} (hm : Msk m) (L : LInv m hs owner) (hl : hs.length < m + 1) (h : Int) :
    ∃ j, layClean.free m owner (turns m) (bits h % (m + 1)) (bits h) = some j ∧ LInv m (hs ++ [h]) (owner.setIfInBounds j (some hs.length)) := by
  obtain ⟨f, hf, hn⟩ := L.free hl
  obtain ⟨k, hk, e⟩ := cover_lps hm (Nat.mod_lt (bits h) (show 0 < m + 1 by omega)) (bits_lt h) hf
  obtain ⟨j, g1, g2, g3⟩ := free_spec (m := m) (owner := owner) (turns m) k (bits h % (m + 1)) (bits h) (by unfold turns; omega) (by rw [e]; exact getD_some.mpr hn)
  have g2' := getD_some.mp g2
  obtain ⟨jl, _⟩ := Array.getElem?_eq_some_iff.mp g2'
  have at_j : (owner.setIfInBounds j (some hs.length))[j]? = some (some hs.length) := by simp [jl]
  have at_ne : ∀ {i : Nat}, i ≠ j → (owner.setIfInBounds j (some hs.length))[i]? = owner[i]? := fun {i} hi => by
    rw [Array.getElem?_setIfInBounds]
    rw [if_neg (Ne.symm hi)]
  have ne_of : ∀ {i k : Nat}, owner[i]? = some (some k) → i ≠ j := fun {i k} hi z => by rw [z, g2'] at hi; cases hi
  have occ : ∀ x : Nat, (∃ k : Nat, owner[x]? = some (some k)) → ∃ k : Nat, (owner.setIfInBounds j (some hs.length))[x]? = some (some k) := fun x hx => by
    obtain ⟨k, hk⟩ := hx
    exact ⟨k, by rw [at_ne (ne_of hk)]; exact hk⟩
  refine ⟨j, g1, ⟨by rw [Array.size_setIfInBounds]; exact L.sz, fun i k hi => ?_, fun k h' hk' => ?_, fun i i' k hi hi' => ?_⟩⟩
  · rw [List.length_append]
    by_cases hij : i = j
    · rw [hij, at_j] at hi
      cases hi
      simp
    · rw [at_ne hij] at hi
      have := L.lt _ _ hi
      simp; omega
  · by_cases hkl : k < hs.length
    · rw [List.getElem?_append_left hkl] at hk'
      obtain ⟨i, hi, ld⟩ := L.at_ k h' hk'
      exact ⟨i, by rw [at_ne (ne_of hi)]; exact hi, ld.mono occ⟩
    · rw [List.getElem?_append_right (by omega)] at hk'
      have ek : k = hs.length := by
        have := (List.getElem?_eq_some_iff.mp hk').1
        simp at this
        omega
      subst ek
      simp at hk'
      subst hk'
      obtain ⟨n, en, hall⟩ := g3
      refine ⟨j, at_j, n, en, fun d hd => ?_⟩
      have hx := hall d hd
      have hlt : (it m (fr m (bits h % (m + 1)) (bits h)) d).j < owner.size := by rw [L.sz]; exact it_lt h d
      show ∃ k : Nat, (owner.setIfInBounds j (some hs.length))[(it m (fr m (bits h % (m + 1)) (bits h)) d).j]? = some (some k)
      generalize (it m (fr m (bits h % (m + 1)) (bits h)) d).j = x at *
      have e := Array.getElem?_eq_getElem hlt
      cases e2 : owner[x] with
      | none =>
        rw [e2] at e
        rw [getD_some.mpr e] at hx
        cases hx
      | some k =>
        rw [e2] at e
        exact occ x ⟨k, e⟩
  · by_cases hij : i = j
    · by_cases hij' : i' = j
      · rw [hij, hij']
      · rw [hij, at_j] at hi
        rw [at_ne hij'] at hi'
        cases hi
        exact absurd (L.lt _ _ hi') (Nat.lt_irrefl _)
    · by_cases hij' : i' = j
      · rw [hij', at_j] at hi'
        rw [at_ne hij] at hi
        cases hi'
        exact absurd (L.lt _ _ hi) (Nat.lt_irrefl _)
      · rw [at_ne hij] at hi
        rw [at_ne hij'] at hi'
        exact L.inj _ _ _ hi hi'
end HS
-- part H4
set_option Elab.async false
set_option linter.all false
set_option maxRecDepth 100000
set_option maxHeartbeats 4000000
namespace HS
open PySem PySem.SetTable
def layF (m : Nat) (acc : Option (Array (Option Nat) × Nat)) (h : Int) : Option (Array (Option Nat) × Nat) := do
  let (owner, k) ← acc
  let j ← layClean.free m owner (turns m) (bits h % (m + 1)) (bits h)
  pure (owner.setIfInBounds j (some k), k + 1)
theorem layClean_eq (m : Nat) (hs : Array Int) : layClean m hs = (hs.toList.foldl (layF m) (some (Array.replicate (m + 1) none, 0))).map (·.1) := by
  unfold layClean
  rw [← Array.foldl_toList]
  rfl
theorem fold_spec {m : Nat} (hm : Msk m) : ∀ (rest hs : List Int) (owner : Array (Option Nat)), LInv m hs owner → hs.length + rest.length ≤ m + 1 →
    ∃ owner', rest.foldl (layF m) (some (owner, hs.length)) = some (owner', (hs ++ rest).length) ∧ LInv m (hs ++ rest) owner'
  | [], hs, owner, L, _ => ⟨owner, by rw [List.append_nil]; rfl, by rw [List.append_nil]; exact L⟩
  | h :: rest, hs, owner, L, hl => by
    rw [List.length_cons] at hl
    obtain ⟨j, g1, g2⟩ := L.step hm (by omega) h
    obtain ⟨o', g3, g4⟩ := fold_spec hm rest (hs ++ [h]) _ g2 (by rw [List.length_append, List.length_singleton]; omega)
    refine ⟨o', ?_, by rw [← List.append_cons] at g4; exact g4⟩
    rw [List.foldl_cons]
    have e : layF m (some (owner, hs.length)) h = some (owner.setIfInBounds j (some hs.length), (hs ++ [h]).length) := by
      unfold layF
      simp [g1]
    rw [e, g3, ← List.append_cons]
theorem filterMap_at {es : Array (Int × Value)} : ∀ {L : List (Nat × Nat)}, (∀ x ∈ L, x.2 < es.size) → (L.map (·.2)).filterMap (fun k => es[k]?) = L.map fun x => (es[x.2]?).getD (0, .none)
  | [], _ => rfl
  | x :: L, h => by
    have hx := h x List.mem_cons_self
    rw [List.map_cons, List.filterMap_cons, List.map_cons, Array.getElem?_eq_getElem hx]
    dsimp only
    rw [filterMap_at fun y hy => h y (List.mem_cons_of_mem _ hy)]
    rfl
theorem laid_spec {m : Nat} (hm : Msk m) (es : Array (Int × Value)) (hl : es.size ≤ m + 1) (fi mo : Nat) (le pl : Bool) :
    ∃ t order, laid m fi mo le pl (es.map (·.1)) = some (t, order) ∧ t.mask = m ∧ T0 t (order.filterMap (es[·]?)) ∧ (order.filterMap (es[·]?)).toList.Perm es.toList := by
  have L0 : LInv m [] (Array.replicate (m + 1) none) := by
    refine ⟨Array.size_replicate .., fun j k h => ?_, fun k h hk => by simp at hk, fun j j' k h => ?_⟩ <;>
    · rw [Array.getElem?_replicate] at h
      split at h <;> cases h
  obtain ⟨owner, e1, L⟩ := fold_spec hm (es.map (·.1)).toList [] _ L0 (by simp; exact hl)
  rw [List.nil_append] at e1 L
  have hsz : ((es.map (·.1)).toList).length = es.size := by simp
  have e2 : layClean m (es.map (·.1)) = some owner := by
    rw [layClean_eq]
    have e1' : List.foldl (layF m) (some (Array.replicate (m + 1) none, 0)) (es.map (·.1)).toList = _ := e1
    rw [e1']
    rfl
  have hlt : ∀ x ∈ live m owner, x.2 < es.size := fun x hx => by
    have := L.lt _ _ ((mem_live L.sz).mp hx)
    rw [hsz] at this
    exact this
  have efm : (((live m owner).map (·.2)).toArray.filterMap (es[·]?)).toList = (live m owner).map fun x => (es[x.2]?).getD (0, .none) := by
    rw [Array.toList_filterMap]
    exact filterMap_at hlt
  have perm : (((live m owner).map (·.2)).toArray.filterMap (es[·]?)).toList.Perm es.toList := by
    rw [Array.toList_filterMap]
    have p := (live_perm L).filterMap (fun i => es[i]?)
    rw [hsz, filterMap_getElem?_range] at p
    exact p
  refine ⟨{ mask := m, place := ((live m owner).map (·.1)).toArray, dummies := #[], finger := fi, led := le, moves := mo, plain := pl }, ((live m owner).map (·.2)).toArray, ?_, rfl, ?_, perm⟩
  · unfold laid
    rw [e2]
    rfl
  · refine ⟨?_, live_ris m owner, rfl, fun j hj => ?_, fun z hz => ?_⟩
    · have := perm.length_eq
      rw [Array.length_toList, Array.length_toList] at this
      rw [this]
      show ((live m owner).map (·.1)).toArray.size = _
      rw [List.size_toArray, List.length_map, live_len L, hsz]
    · obtain ⟨x, hx, rfl⟩ := List.mem_map.mp (show j ∈ (live m owner).map (·.1) from hj)
      obtain ⟨hq, _⟩ := Array.getElem?_eq_some_iff.mp ((mem_live L.sz).mp hx)
      rw [L.sz] at hq
      exact hq
    · have hz' : z ∈ ((live m owner).map (·.1)).zip (((live m owner).map (·.2)).toArray.filterMap (es[·]?)).toList := hz
      rw [efm, List.zip_map', List.mem_map] at hz'
      obtain ⟨x, hx, rfl⟩ := hz'
      have hxs := (mem_live L.sz).mp hx
      have hxl := hlt x hx
      have eh : (es.map (·.1)).toList[x.2]? = some (es[x.2].1) := by simp [hxl]
      obtain ⟨j, g1, g2⟩ := L.at_ _ _ eh
      have ej := L.inj _ _ _ g1 hxs
      subst ej
      dsimp only
      rw [Array.getElem?_eq_getElem hxl, Option.getD_some]
      refine g2.mono fun y hy => ?_
      obtain ⟨k, hk⟩ := hy
      exact List.mem_map.mpr ⟨(y, k), (mem_live L.sz).mpr hk, rfl⟩
/-! ### when it is too full -/
/-- after one more: still roomy, or laid anew it is -/
theorem grow {m n : Nat} (h : Roomy m n) (hn : n + 1 ≤ 306) : ((n + 1) * 5 ≥ m * 3 ∧ Roomy (sizeAbove (grown (n + 1)) - 1) (n + 1) ∧ sizeAbove (grown (n + 1)) ≤ 512) ∨ (¬ (n + 1) * 5 ≥ m * 3 ∧ Roomy m (n + 1)) := by
  rcases h with ⟨rfl, h⟩ | ⟨rfl, h⟩ | ⟨rfl, h⟩ | ⟨rfl, h⟩
  · by_cases q : n = 4
    · subst q
      exact .inl ⟨by decide, .inr (.inl ⟨by decide, by decide⟩), by decide⟩
    · exact .inr ⟨by omega, .inl ⟨rfl, by omega⟩⟩
  · by_cases q : n = 18
    · subst q
      exact .inl ⟨by decide, .inr (.inr (.inl ⟨by decide, by decide⟩)), by decide⟩
    · exact .inr ⟨by omega, .inr (.inl ⟨rfl, by omega⟩)⟩
  · by_cases q : n = 76
    · subst q
      exact .inl ⟨by decide, .inr (.inr (.inr ⟨by decide, by decide⟩)), by decide⟩
    · exact .inr ⟨by omega, .inr (.inr (.inl ⟨rfl, by omega⟩))⟩
  · exact .inr ⟨by omega, .inr (.inr (.inr ⟨rfl, by omega⟩))⟩
end HS
-- part H5
set_option Elab.async false
set_option linter.all false
set_option maxRecDepth 100000
set_option maxHeartbeats 4000000
namespace HS
open PySem PySem.SetTable
section
variable {prog : Program} {w : World} {K : Type} [DecidableEq K]
/-- what a set asks of its keys beyond what a dict does -/
structure HK (knd : HeapKind prog w K) : Prop where
  byVal : ∀ {A : Around} {E : Value → Shared → Prop} {s : Shared} {k : K} {a : Addr} {Q : Bool → Shared → Prop}, knd.is s.heap k a → (∀ b, Q b s) → wpAny (model prog w) A (hashByValue 8 (.ref a)) Q E s
  notCls : ∀ {A : Around} {E : Value → Shared → Prop} {s : Shared} {k : K} {a : Addr} {Q : Bool → Shared → Prop}, knd.is s.heap k a → Q false s → wpAny (model prog w) A (ofAClassStatement 8 (.ref a)) Q E s
  keepsS : ∀ {h h' : Heap} {k : K} {a d : Addr} {o : Obj} {es ep t}, knd.is h k a → h.get? d = some o → o.data = .set es ep t → Heap.SameBut d h h' → knd.is h' k a
variable {knd : HeapKind prog w K} {A : Around} {E : Value → Shared → Prop} {s : Shared}
def Elem (knd : HeapKind prog w K) (h : Heap) (k : K) (e : Int × Value) : Prop := ∃ a, e.2 = .ref a ∧ knd.is h k a ∧ e.1 = knd.hash k
theorem wp_seen (hk : HK knd) {k : K} {x : Addr} (hx : knd.is s.heap k x) : ∀ {ys : List Value} {Q : Bool → Shared → Prop}, (∀ y ∈ ys, ∃ k' b, y = .ref b ∧ knd.is s.heap k' b) → Q false s → wpAny (model prog w) A (searchCouldBeSeen (.ref x) ys) Q E s := by
  intro ys Q hy hq
  unfold searchCouldBeSeen
  refine wpAny_bind ?_
  refine wpAny_forIn_list _ (fun rest r s' => r.1 = none ∧ s' = s ∧ ∀ y ∈ rest, ∃ k' b, y = .ref b ∧ knd.is s.heap k' b) _ ?_ ?_ _ _ ⟨rfl, rfl, hy⟩
  · rintro v rest r s' ⟨hr, rfl, hall⟩
    obtain ⟨k', b, rfl, hb⟩ := hall v List.mem_cons_self
    have hall' : ∀ y ∈ rest, ∃ k' b, y = Value.ref b ∧ knd.is s'.heap k' b := fun y hy => hall y (List.mem_cons_of_mem _ hy)
    dsimp only
    split
    · exact wpAny_pure ⟨rfl, rfl, hall'⟩
    · refine wpAny_bind (knd.quiet hx ?_)
      simp only [Bool.not_true, Bool.false_eq_true, if_false]
      refine wpAny_bind (knd.quiet hb ?_)
      simp only [Bool.not_true, Bool.false_eq_true, if_false]
      refine wpAny_bind (hk.notCls hx ?_)
      simp only [Bool.false_eq_true, if_false]
      refine wpAny_bind (hk.notCls hb ?_)
      simp only [Bool.false_eq_true, if_false]
      exact wpAny_pure ⟨rfl, rfl, hall'⟩
  · rintro ⟨r1, r2⟩ s' ⟨hr, rfl, _⟩
    simp only at hr
    subst hr
    exact wpAny_pure hq
theorem at_zip {t : SetTable} {es : Array (Int × Value)} (T : T0 t es) {i : Nat} {e : Int × Value} (h : es[i]? = some e) : ∃ j, t.place[i]? = some j ∧ (j, e) ∈ t.place.toList.zip es.toList := by
  obtain ⟨hi, _⟩ := Array.getElem?_eq_some_iff.mp h
  have hp : i < t.place.size := by rw [T.sz]; exact hi
  refine ⟨t.place[i], Array.getElem?_eq_getElem hp, List.mem_of_getElem? (i := i) ?_⟩
  rw [List.getElem?_zip_eq_some]
  exact ⟨by rw [Array.getElem?_toList]; exact Array.getElem?_eq_getElem hp, by rw [Array.getElem?_toList]; exact h⟩
theorem at_es {t : SetTable} {es : Array (Int × Value)} (T : T0 t es) {i j : Nat} (h : t.place[i]? = some j) : ∃ e, es[i]? = some e := by
  obtain ⟨hi, _⟩ := Array.getElem?_eq_some_iff.mp h
  exact ⟨es[i]'(by rw [← T.sz]; exact hi), Array.getElem?_eq_getElem _⟩
theorem probe_spec {t : SetTable} {es : Array (Int × Value)} (T : T0 t es) {hashAt : Nat → Int} {h : Int} {p : Probe} {met : Option Met} {n : Nat} (hp : p.dummy = none) (hn : n < 10 * turns t.mask) (h1 : ∀ k < n, (it t.mask p k).j ∈ t.place.toList) (h2 : (it t.mask p n).j ∉ t.place.toList)
    (hpr : t.probe hashAt h p = met) (hH : ∀ i : Nat, hashAt i = (es[i]?.map (·.1)).getD 0) :
    (met = some (.empty (it t.mask p n).j none) ∧ ∀ k < n, ∀ (i : Nat) (e : Int × Value), t.place[i]? = some (it t.mask p k).j → es[i]? = some e → e.1 ≠ h) ∨
    ∃ (k i : Nat) (e : Int × Value), k < n ∧ t.place[i]? = some (it t.mask p k).j ∧ es[i]? = some e ∧ e.1 = h ∧ met = some (.candidate (it t.mask p k).j i (it t.mask p (k + 1))) ∧ ∀ k' < k, ∀ (i : Nat) (e : Int × Value), t.place[i]? = some (it t.mask p k').j → es[i]? = some e → e.1 ≠ h := by
  have conv : ∀ {i : Nat} {e : Int × Value}, es[i]? = some e → hashAt i = e.1 := fun {i e} he => by rw [hH, he]; rfl
  rcases go_spec (hashAt := hashAt) (h := h) T.ris T.dum n (10 * turns t.mask) p hp hn h1 h2 with ⟨g1, g2⟩ | ⟨k, i, g1, g2, g3, g4, g5⟩
  · exact .inl ⟨hpr.symm.trans g1, fun k hk i e hi he => by rw [← conv he]; exact g2 k hk i hi⟩
  · obtain ⟨e, he⟩ := at_es T g2
    exact .inr ⟨k, i, e, g1, g2, he, by rw [← conv he]; exact g3, hpr.symm.trans g4, fun k' hk' i e hi he => by rw [← conv he]; exact g5 k' hk' i hi⟩
theorem wp_search (hk : HK knd) {S x : Addr} {k : K} {o : Obj} {es : Array (Int × Value)} {ep : Nat} {t : SetTable} {n : Nat} {Q : SetFound → Shared → Prop}
    (hroom : knd.room A) (hx : knd.is s.heap k x) (ho : s.heap.get? S = some o) (hd : o.data = .set es ep t) (T : T0 t es) (hm : t.mask % 2 = 1) (hf : es.size ≤ t.mask)
    (hel : ∀ e ∈ es.toList, ∃ k', Elem knd s.heap k' e)
    (hn : n < 10 * turns t.mask) (h1 : ∀ i < n, (it t.mask (st t.mask (knd.hash k)) i).j ∈ t.place.toList) (h2 : (it t.mask (st t.mask (knd.hash k)) n).j ∉ t.place.toList)
    (hThere : (∃ e ∈ es.toList, Elem knd s.heap k e) → Q (.there none) s) (hFree : (¬ ∃ e ∈ es.toList, Elem knd s.heap k e) → Q (.free (it t.mask (st t.mask (knd.hash k)) n).j false) s) :
    ∀ (d fuel m0 : Nat) (stand : Option Probe), m0 + d = n → d < fuel → stand.getD (t.probeStart (knd.hash k)) = it t.mask (st t.mask (knd.hash k)) m0 →
      (∀ i' < m0, ∀ (i : Nat) (e : Int × Value), t.place[i]? = some (it t.mask (st t.mask (knd.hash k)) i').j → es[i]? = some e → ¬ Elem knd s.heap k e) →
      wpAny (model prog w) A (setSearchFrom S (.ref x) (knd.hash k) true fuel stand) Q E s
  | d, 0, m0, stand, _, hfu, _, _ => absurd hfu (Nat.not_lt_zero _)
  | d, fuel + 1, m0, stand, hd0, hfu, hst, hold => by
    have hfit := T.fits hf
    unfold setSearchFrom
    refine wpAny_bind (wpAny_setState_of ho hd hfit ?_)
    dsimp only
    have hg : t.gaveWay = false := by unfold SetTable.gaveWay; rw [hm]; rfl
    rw [hg]
    simp only [Bool.false_eq_true, if_false]
    rw [hst]
    generalize hpr : t.probe _ (knd.hash k) _ = met
    have hdum : (it t.mask (st t.mask (knd.hash k)) m0).dummy = none := it_dummy _ _ _
    have it0 : ∀ i, it t.mask (it t.mask (st t.mask (knd.hash k)) m0) i = it t.mask (st t.mask (knd.hash k)) (m0 + i) := fun i => (it_add _ _ _ _).symm
    rcases probe_spec (es := es) T hdum (n := d) (by omega) (fun i hi => by rw [it0]; exact h1 _ (by omega)) (by rw [it0, hd0]; exact h2) hpr (fun i => rfl) with ⟨rfl, g2⟩ | ⟨c, i, e, g1, g2, g3, g4, rfl, g5⟩
    · dsimp only
      rw [it0, hd0]
      refine wpAny_pure (hFree ?_)
      rintro ⟨e, he, el⟩
      obtain ⟨i, hi, rfl⟩ := List.getElem_of_mem he
      have hi' : es[i]? = some es.toList[i] := by rw [← Array.getElem?_toList]; exact List.getElem?_eq_getElem hi
      obtain ⟨j, hj, hz⟩ := at_zip T hi'
      obtain ⟨a, ea, hka, eh⟩ := id el
      obtain ⟨nn, hnn, hocc⟩ := T.ld _ hz
      dsimp only at hnn hocc
      rw [eh] at hnn hocc
      have hlt : nn < n := by
        rcases Nat.lt_trichotomy nn n with q | q | q
        · exact q
        · rw [q] at hnn
          exact absurd (by rw [hnn]; exact at_mem hj) h2
        · exact absurd (hocc n q) h2
      by_cases hm0 : nn < m0
      · exact hold nn hm0 i _ (by rw [hnn]; exact hj) hi' el
      · obtain ⟨c, rfl⟩ : ∃ c, nn = m0 + c := ⟨nn - m0, by omega⟩
        exact g2 c (by omega) i _ (by rw [it0, hnn]; exact hj) hi' eh
    · have hem : e ∈ es.toList := by rw [← Array.getElem?_toList] at g3; exact List.mem_of_getElem? g3
      obtain ⟨k2, b, eb, hkb, ehb⟩ := hel e hem
      rw [it0] at g2
      have hseen : ∀ y ∈ List.map (fun x => x.snd) (Array.filter (fun x => x.fst == knd.hash k) es).toList, ∃ k' b, y = Value.ref b ∧ knd.is s.heap k' b := fun y hy => by
        obtain ⟨z, hz, rfl⟩ := List.mem_map.mp hy
        have hz' : z ∈ es.toList := by
          rw [Array.toList_filter] at hz
          exact (List.mem_filter.mp hz).1
        obtain ⟨k3, b3, e3, h3, _⟩ := hel z hz'
        exact ⟨k3, b3, e3, h3⟩
      have hslot : t.slot (it t.mask (it t.mask (st t.mask (knd.hash k)) m0) c).j = .live i := slot_live T.ris (by rw [it0]; exact g2)
      have hrec : ¬ k2 = k → wpAny (model prog w) A (setSearchFrom S (.ref x) (knd.hash k) true fuel (some (it t.mask (it t.mask (st t.mask (knd.hash k)) m0) (c + 1)))) Q E s := fun hne => by
        refine wp_search hk hroom hx ho hd T hm hf hel hn h1 h2 hThere hFree (d - c - 1) fuel (m0 + c + 1) _ (by omega) (by omega) (by rw [it0]; rfl) fun i' hi' i2 e2 hp2 he2 el2 => ?_
        by_cases q1 : i' < m0
        · exact hold i' q1 i2 e2 hp2 he2 el2
        · by_cases q2 : i' < m0 + c
          · obtain ⟨c', rfl⟩ : ∃ c', i' = m0 + c' := ⟨i' - m0, by omega⟩
            obtain ⟨_, _, _, eh2⟩ := el2
            exact g5 c' (by omega) i2 e2 (by rw [it0]; exact hp2) he2 eh2
          · have e0 : i' = m0 + c := by omega
            subst e0
            have ei : i2 = i := (below_at T.ris hp2).symm.trans (below_at T.ris g2)
            subst ei
            rw [g3] at he2
            cases he2
            obtain ⟨b', eb', hkb', _⟩ := el2
            rw [eb] at eb'
            cases eb'
            exact hne (knd.inj hkb hkb')
      dsimp only
      cases hl : t.led with
      | false =>
        simp only [Bool.not_false, if_true]
        refine wpAny_bind (wp_seen hk hx hseen ?_)
        simp only [Bool.false_eq_true, if_false]
        rw [g3]
        dsimp only
        refine wpAny_bind (wpAny_holding ?_)
        rw [eb]
        refine knd.eqBool hroom hkb hx ?_
        refine wpAny_bind (wpAny_setState_of ho hd hfit ?_)
        by_cases hq : k2 = k
        · rw [decide_eq_true hq]
          simp only [Bool.and_self, if_true]
          refine wpAny_pure (hThere ⟨e, hem, b, eb, by rw [← hq]; exact hkb, by rw [← hq]; exact ehb⟩)
        · rw [decide_eq_false hq]
          simp only [Bool.and_false, Bool.false_eq_true, if_false]
          have hsm : t.sameMemory t.moves t.mask = some true := by unfold SetTable.sameMemory; simp
          rw [hsm]
          dsimp only
          rw [if_pos rfl, hslot]
          dsimp only
          rw [g3]
          dsimp only
          rw [eb]
          refine wpAny_bind (wpAny_isSame_ref_self ?_)
          refine wpAny_bind (wpAny_pure ?_)
          rw [if_pos rfl]
          dsimp only
          exact hrec hq
      | true =>
        simp only [Bool.not_true, Bool.false_eq_true, if_false]
        rw [g3]
        dsimp only
        refine wpAny_bind (wpAny_holding ?_)
        rw [eb]
        refine knd.eqBool hroom hkb hx ?_
        refine wpAny_bind (wpAny_setState_of ho hd hfit ?_)
        by_cases hq : k2 = k
        · rw [decide_eq_true hq]
          simp only [Bool.and_self, if_true]
          refine wpAny_pure (hThere ⟨e, hem, b, eb, by rw [← hq]; exact hkb, by rw [← hq]; exact ehb⟩)
        · rw [decide_eq_false hq]
          simp only [Bool.and_false, Bool.false_eq_true, if_false]
          have hsm : t.sameMemory t.moves t.mask = some true := by unfold SetTable.sameMemory; simp
          rw [hsm]
          dsimp only
          rw [if_pos rfl, hslot]
          dsimp only
          rw [g3]
          dsimp only
          rw [eb]
          refine wpAny_bind (wpAny_isSame_ref_self ?_)
          refine wpAny_bind (wpAny_pure ?_)
          rw [if_pos rfl]
          dsimp only
          exact hrec hq
end
end HS
-- part H6
set_option Elab.async false
set_option linter.all false
set_option maxRecDepth 100000
set_option maxHeartbeats 4000000
namespace HS
open PySem PySem.SetTable
section
variable {prog : Program} {w : World} {K : Type} [DecidableEq K] {knd : HeapKind prog w K} {A : Around} {E : Value → Shared → Prop} {s : Shared}
/-- a set of keys that stand in the heap: ks, each once -/
structure SetH (knd : HeapKind prog w K) (h : Heap) (S : Addr) (ks : List K) (o : Obj) (es : Array (Int × Value)) (ep : Nat) (t : SetTable) : Prop where
  ho : h.get? S = some o
  ex : o.ExactSet
  hd : o.data = .set es ep t
  T : T0 t es
  room : Roomy t.mask es.size
  el : ∀ e ∈ es.toList, ∃ k ∈ ks, Elem knd h k e
  all : ∀ k ∈ ks, ∃ e ∈ es.toList, Elem knd h k e
  sz : es.size = ks.length
def IsSetH (knd : HeapKind prog w K) (h : Heap) (S : Addr) (ks : List K) : Prop := ∃ o es ep t, SetH knd h S ks o es ep t
theorem elem_keep (hk : HK knd) {h h' : Heap} {S : Addr} {o : Obj} {es ep t} (ho : h.get? S = some o) (hd : o.data = .set es ep t) (hs : Heap.SameBut S h h') {k : K} {e : Int × Value} (x : Elem knd h k e) : Elem knd h' k e := by
  obtain ⟨a, e1, e2, e3⟩ := x
  exact ⟨a, e1, hk.keepsS e2 ho hd hs, e3⟩
theorem wp_relay {S : Addr} {o : Obj} {es : Array (Int × Value)} {ep : Nat} {t : SetTable} {Q : Unit → Shared → Prop} (ho : s.heap.get? S = some o) (hd : o.data = .set es ep t) (hf : t.fits es.size = true) {wanted : Nat} (hm : Msk (sizeAbove wanted - 1)) (hw : sizeAbove wanted ≤ 512) (hl : es.size ≤ sizeAbove wanted - 1)
    (h : ∀ es' t', t'.mask = sizeAbove wanted - 1 → T0 t' es' → es'.toList.Perm es.toList → Q () { s with heap := s.heap.update S (Obj.putSet es' t') }) : wpAny (model prog w) A (setRelay S wanted) Q E s := by
  unfold setRelay
  refine wpAny_bind (wpAny_setState_of ho hd hf ?_)
  dsimp only
  rw [if_neg (by rw [sizeLine_eq]; omega)]
  obtain ⟨t', order, e, em, T', pm⟩ := laid_spec hm es (by omega) t.finger (t.movedTo (sizeAbove wanted - 1)) t.led t.plain
  have er : t.relaid (es.map (·.1)) wanted = some (t', order) := e
  rw [er]
  refine wpAny_bind ?_
  have hz : (order.filterMap (es[·]?)).size = es.size := by rw [← Array.length_toList, pm.length_eq, Array.length_toList]
  refine (show wpAny _ _ (if ((order.filterMap (es[·]?)).size != es.size) = true then _ else pure _) _ _ s from ?_)
  rw [if_neg (by rw [hz]; simp)]
  refine wpAny_pure ?_
  dsimp only
  refine wpAny_storeSet_of ho hd (h _ _ em T' pm) (by rw [hz, sizeLine_eq]; omega)
theorem put_get {h : Heap} {S : Addr} {o : Obj} {es : Array (Int × Value)} {ep : Nat} {t : SetTable} (ho : h.get? S = some o) (hd : o.data = .set es ep t) (es' : Array (Int × Value)) (t' : SetTable) : (h.update S (Obj.putSet es' t')).get? S = some { o with data := .set es' (ep + 1) t' } := by
  have := Heap.get?_update_self (Obj.putSet es' t') ho (by rw [putSet_of es' t' hd]; rfl)
  rw [putSet_of es' t' hd] at this
  exact this
theorem wp_add (hk : HK knd) {S x : Addr} {k : K} {ks : List K} {Q : Bool → Shared → Prop} (hroom : knd.room A) (hx : knd.is s.heap k x) (H : IsSetH knd s.heap S ks) (hn : ks.length + 1 ≤ 306)
    (h : ∀ h' b, Heap.SameBut S s.heap h' → IsSetH knd h' S (if k ∈ ks then ks else ks ++ [k]) → Q b { s with heap := h' }) :
    wpAny (model prog w) A (setAddHashed S (.ref x) (knd.hash k)) Q E s := by
  obtain ⟨o, es, ep, t, H⟩ := H
  have hfit := H.T.fits (Nat.le_of_lt (Nat.lt_of_succ_lt H.room.lt))
  unfold setAddHashed setAddHashedIn
  refine wpAny_holding (wpAny_bind (wpAny_setState_of H.ho H.hd hfit ?_))
  dsimp only
  have hb : byScan (.ref x) es = false := rfl
  rw [hb]
  simp only [Bool.false_eq_true, if_false]
  obtain ⟨f, hf, hfo⟩ := H.T.free (by have := H.room.lt; omega)
  obtain ⟨n, hn1, hn2, hn3⟩ := first_free (occ := (· ∈ t.place.toList)) H.room.msk (knd.hash k) hf hfo
  have odd : t.mask % 2 = 1 := by rcases H.room.msk with q | q | q | q <;> rw [q]
  unfold setSearch
  refine wpAny_bind ?_
  refine wp_search hk hroom hx H.ho H.hd H.T odd (by have := H.room.lt; omega) (fun e he => let ⟨k', _, el⟩ := H.el e he; ⟨k', el⟩) hn1 hn2 hn3 (fun hth => ?_) (fun hfr => ?_) n 100000 0 none (by omega) ?_ rfl (fun i' hi' => absurd hi' (Nat.not_lt_zero _))
  · dsimp only
    refine wpAny_pure ?_
    have hmem : k ∈ ks := by
      obtain ⟨e, he, a, ea, hka, _⟩ := hth
      obtain ⟨k', hk', a', ea', hka', _⟩ := H.el e he
      rw [ea] at ea'
      cases ea'
      rw [knd.inj hka hka']
      exact hk'
    have := h s.heap false (Heap.SameBut.refl _ _) (by rw [if_pos hmem]; exact ⟨o, es, ep, t, H⟩)
    exact this
  · dsimp only
    have hmem : k ∉ ks := fun m => hfr (H.all k m)
    refine wpAny_bind (wpAny_setState_of H.ho H.hd hfit ?_)
    dsimp only
    generalize hfe : (it t.mask (st t.mask (knd.hash k)) n).j = f'
    have Tp := fun pl => H.T.put (x := .ref x) hn2 hn3 pl
    rw [hfe] at Tp
    have esz : (insertAt es (t.put f').2 (knd.hash k, .ref x)).size = es.size + 1 := by rw [← Array.length_toList, (insertAt_perm es _ _).length_eq, Array.length_toList, Array.size_push]
    have emem : ∀ e, e ∈ (insertAt es (t.put f').2 (knd.hash k, Value.ref x)).toList ↔ e ∈ es.toList ∨ e = (knd.hash k, Value.ref x) := fun e => by
      rw [(insertAt_perm es _ _).mem_iff, Array.toList_push, List.mem_append, List.mem_singleton]
    have hel : ∀ e ∈ (insertAt es (t.put f').2 (knd.hash k, Value.ref x)).toList, ∃ k' ∈ ks ++ [k], Elem knd s.heap k' e := fun e he => by
      rcases (emem e).mp he with q | q
      · obtain ⟨k', h1, h2⟩ := H.el e q
        exact ⟨k', List.mem_append_left _ h1, h2⟩
      · exact ⟨k, by simp, x, by rw [q], hx, by rw [q]⟩
    have hal : ∀ k' ∈ ks ++ [k], ∃ e ∈ (insertAt es (t.put f').2 (knd.hash k, Value.ref x)).toList, Elem knd s.heap k' e := fun k' hk' => by
      rcases List.mem_append.mp hk' with q | q
      · obtain ⟨e, h1, h2⟩ := H.all k' q
        exact ⟨e, (emem e).mpr (.inl h1), h2⟩
      · rw [List.mem_singleton.mp q]
        exact ⟨_, (emem _).mpr (.inr rfl), x, rfl, hx, rfl⟩
    have hks : (insertAt es (t.put f').2 (knd.hash k, Value.ref x)).size = (ks ++ [k]).length := by rw [esz, List.length_append, List.length_singleton, H.sz]
    have h' := fun h' b => h h' b
    rw [if_neg hmem] at h'
    generalize hes1 : insertAt es (t.put f').2 (knd.hash k, Value.ref x) = es1 at *
    have tail : ∀ t1, (∃ pl, t1 = { (t.put f').1 with plain := pl }) → wpAny (model prog w) A (storeSet S es1 t1 >>= fun _ => if (!false && t1.tooFull) = true then (setRelay S (grown (es.size + 1)) >>= fun _ => pure true) else pure true) Q E s := by
      rintro t1 ⟨pl, rfl⟩
      have T1 := Tp pl
      have g1 := put_get H.ho H.hd es1 { (t.put f').1 with plain := pl }
      have sb := Heap.SameBut.update s.heap S (Obj.putSet es1 { (t.put f').1 with plain := pl })
      refine wpAny_bind (wpAny_storeSet_of H.ho H.hd ?_ (by rw [esz, sizeLine_eq]; have := H.room.small; omega))
      have fill : ({ (t.put f').1 with plain := pl } : SetTable).tooFull = decide ((es.size + 1) * 5 ≥ t.mask * 3) := by
        unfold SetTable.tooFull SetTable.fill
        have a : ({ (t.put f').1 with plain := pl } : SetTable).place.size = es.size + 1 := by rw [T1.sz, esz]
        have b := T1.dum
        rw [b, a]
        rfl
      rw [fill]
      rcases grow H.room (by rw [H.sz]; exact hn) with ⟨q1, q2, q3⟩ | ⟨q1, q2⟩
      · rw [decide_eq_true q1]
        simp only [Bool.not_false, Bool.and_self, if_true]
        refine wpAny_bind (wp_relay g1 rfl (T1.fits (by rw [esz]; exact Nat.le_of_lt H.room.lt)) q2.msk q3 (by have := q2.lt; rw [esz]; omega) fun es2 t2 em2 T2 pm2 => wpAny_pure (h' _ true (sb.trans (Heap.SameBut.update _ S _)) ?_))
        have sz2 : es2.size = es1.size := by rw [← Array.length_toList, pm2.length_eq, Array.length_toList]
        have sb2 := sb.trans (Heap.SameBut.update _ S (Obj.putSet es2 t2))
        exact ⟨_, es2, ep + 1 + 1, t2, put_get g1 rfl es2 t2, H.ex, rfl, T2, by rw [em2, sz2, esz]; exact q2, fun e he => let ⟨k', a, b⟩ := hel e (pm2.mem_iff.mp he); ⟨k', a, elem_keep hk H.ho H.hd sb2 b⟩, fun k' hk' => let ⟨e, a, b⟩ := hal k' hk'; ⟨e, pm2.mem_iff.mpr a, elem_keep hk H.ho H.hd sb2 b⟩, by rw [sz2, hks]⟩
      · rw [decide_eq_false q1]
        simp only [Bool.not_false, Bool.and_false, Bool.false_eq_true, if_false]
        refine wpAny_pure (h' _ true sb ?_)
        exact ⟨_, es1, ep + 1, _, g1, H.ex, rfl, T1, by rw [esz]; exact q2, fun e he => let ⟨k', a, b⟩ := hel e he; ⟨k', a, elem_keep hk H.ho H.hd sb b⟩, fun k' hk' => let ⟨e, a, b⟩ := hal k' hk'; ⟨e, a, elem_keep hk H.ho H.hd sb b⟩, hks⟩
    split
    · refine wpAny_bind (hk.byVal hx fun b => ?_)
      cases b with
      | true => exact tail _ ⟨(t.put f').1.plain, rfl⟩
      | false => exact tail _ ⟨false, rfl⟩
    · refine wpAny_bind (wpAny_pure ?_)
      exact tail _ ⟨(t.put f').1.plain, rfl⟩
  · have : 10 * turns t.mask ≤ 5260 := by
      unfold turns
      rcases H.room.msk with q | q | q | q <;> rw [q] <;> decide
    omega
end
end HS
-- part H7
set_option Elab.async false
set_option linter.all false
set_option maxRecDepth 100000
set_option maxHeartbeats 4000000
namespace HS
open PySem PySem.SetTable PySem.Spec
theorem hbv_pure (n : Nat) {v : Value} (h : carriedByValue v = true) : ∃ b, hashByValue n v = pure b := by
  cases n <;> cases v <;> first | exact ⟨_, rfl⟩ | (simp [carriedByValue] at h)
theorem oac_pure (n : Nat) {v : Value} (h : carriedByValue v = true) : ofAClassStatement n v = pure false := by
  cases n <;> cases v <;> first | rfl | (simp [carriedByValue] at h) | (unfold ofAClassStatement; rfl)
section
variable {prog : Program} {w : World} {K : Type} [DecidableEq K] {knd : KeyKind prog w K} {A : Around} {E : Value → Shared → Prop} {s : Shared}
theorem byVal_tuple {ks : List K} {a : Addr} {Q : Bool → Shared → Prop} (hk : IsTupleKey knd s.heap ks a) (h : ∀ b, Q b s) : wpAny (model prog w) A (hashByValue 8 (.ref a)) Q E s := by
  have hT := hk.typeIs
  obtain ⟨o, items, n, ho, _, hd, hi⟩ := hk
  unfold hashByValue
  refine wpAny_bind (wpAny_specialOf hT F.slot_tuple_hash.lookup ?_)
  refine (show wpAny _ _ (seqItems? (.ref a) >>= _) _ _ s from wpAny_bind (wpAny_seqItems ho hd ?_))
  refine wpAny_bind ?_
  show wpAny _ _ (forIn items _ _) _ _ s
  rw [← Array.forIn_toList]
  refine wpAny_forIn_list _ (fun rest r s' => r.1 = none ∧ s' = s ∧ ∀ v ∈ rest, carriedByValue v = true) _ ?_ ?_ _ _ ⟨rfl, rfl, hi.byValue⟩
  · rintro v rest r s' ⟨hr, rfl, hall⟩
    obtain ⟨b, e⟩ := hbv_pure 7 (hall v List.mem_cons_self)
    rw [e]
    refine wpAny_bind (wpAny_pure ?_)
    cases b with
    | true =>
      simp only [Bool.not_true, Bool.false_eq_true, if_false]
      exact wpAny_pure ⟨rfl, rfl, fun u hu' => hall u (List.mem_cons_of_mem _ hu')⟩
    | false =>
      simp only [Bool.not_false, if_true]
      exact wpAny_pure (wpAny_pure (h false))
  · rintro ⟨r1, r2⟩ s' ⟨hr, rfl, _⟩
    simp only at hr
    subst hr
    exact wpAny_pure (h true)
theorem notCls_tuple {ks : List K} {a : Addr} {Q : Bool → Shared → Prop} (hk : IsTupleKey knd s.heap ks a) (h : Q false s) : wpAny (model prog w) A (ofAClassStatement 8 (.ref a)) Q E s := by
  have hT := hk.typeIs
  obtain ⟨o, items, n, ho, _, hd, hi⟩ := hk
  unfold ofAClassStatement
  refine wpAny_bind (wpAny_typeOf hT ?_)
  dsimp only
  rw [if_pos (by decide)]
  refine wpAny_bind (wpAny_pure ?_)
  simp only [Bool.not_true, Bool.false_eq_true, if_false]
  refine wpAny_bind (wpAny_seqItems ho hd ?_)
  dsimp only
  refine wpAny_bind ?_
  rw [← Array.forIn_toList]
  refine wpAny_forIn_list _ (fun rest r s' => r.1 = none ∧ s' = s ∧ ∀ v ∈ rest, carriedByValue v = true) _ ?_ ?_ _ _ ⟨rfl, rfl, hi.byValue⟩
  · rintro v rest r s' ⟨hr, rfl, hall⟩
    rw [oac_pure 7 (hall v List.mem_cons_self)]
    refine wpAny_bind (wpAny_pure ?_)
    simp only [Bool.false_eq_true, if_false]
    exact wpAny_pure ⟨rfl, rfl, fun u hu' => hall u (List.mem_cons_of_mem _ hu')⟩
  · rintro ⟨r1, r2⟩ s' ⟨hr, rfl, _⟩
    simp only at hr
    subst hr
    exact wpAny_pure h
theorem hk_tuple (knd : KeyKind prog w K) : HK (tupleKind knd) := by
  refine ⟨fun hk h => byVal_tuple hk h, fun hk h => notCls_tuple hk h, ?_⟩
  intro h h' k a d o es ep t x ho hd hs
  obtain ⟨o', items, n, ho', hc, hd', hi⟩ := x
  have hne : a ≠ d := by
    rintro rfl
    obtain rfl : o' = o := Option.some.inj (ho'.symm.trans ho)
    rw [hd] at hd'
    exact nomatch hd'
  exact ⟨o', items, n, (hs.2 a hne).trans ho', hc, hd', hi⟩
end
/-! ### set(list) of keys that stand in the heap -/
section
variable {K : Type} [DecidableEq K]
def met (val : Nat → K) : Nat → List K
  | 0 => []
  | n + 1 => if val n ∈ met val n then met val n else met val n ++ [val n]
theorem met_succ (val : Nat → K) (n : Nat) : met val (n + 1) = if val n ∈ met val n then met val n else met val n ++ [val n] := rfl
theorem met_len (val : Nat → K) : ∀ n, (met val n).length ≤ n
  | 0 => Nat.le_refl _
  | n + 1 => by
    rw [met_succ]
    have := met_len val n
    split
    · omega
    · rw [List.length_append, List.length_singleton]; omega
theorem met_mem (val : Nat → K) : ∀ n k, k ∈ met val n ↔ k ∈ (List.range n).map val
  | 0, k => by simp [met]
  | n + 1, k => by
    rw [List.range_succ, List.map_append, List.mem_append, ← met_mem val n k, met_succ]
    split
    · rename_i h
      simp only [List.map_cons, List.map_nil, List.mem_singleton]
      exact ⟨.inl, fun z => z.elim id fun e => by rw [e]; exact h⟩
    · simp
theorem met_nodup (val : Nat → K) : ∀ n, ((met val n).length = n ↔ ((List.range n).map val).Nodup)
  | 0 => by simp [met]
  | n + 1 => by
    have ih := met_nodup val n
    have le := met_len val n
    have mm := met_mem val n (val n)
    rw [List.range_succ, List.map_append]
    have nd : ((List.range n).map val ++ List.map val [n]).Nodup ↔ ((List.range n).map val).Nodup ∧ ¬ val n ∈ (List.range n).map val := by
      rw [List.nodup_append]
      constructor
      · rintro ⟨h1, _, h3⟩
        exact ⟨h1, fun m => h3 _ m (val n) (by simp) rfl⟩
      · rintro ⟨h1, h2⟩
        refine ⟨h1, by simp, fun a ha b hb q => h2 ?_⟩
        have hb' : b = val n := by simpa using hb
        rw [← hb', ← q]; exact ha
    rw [nd, ← ih, ← mm, met_succ]
    split
    · rename_i h
      constructor
      · intro z; omega
      · rintro ⟨_, z⟩; exact absurd h z
    · rename_i h
      rw [List.length_append, List.length_singleton]
      constructor
      · intro z; exact ⟨by omega, h⟩
      · rintro ⟨z, _⟩; omega
variable {prog : Program} {w : World} {kk : KeyKind prog w K} {A : Around} {E : Value → Shared → Prop} {s : Shared} {R : Result → Shared → Prop} {I : Addr} {fp wr : List Addr} {G : Array GenState → Array GenState → Prop} {n : Nat} {P : Nat → Value → Prop} {St : Nat → Shared → Prop}
def NoTup (h : Heap) (b : Addr) : Prop := ∃ o, h.get? b = some o ∧ o.cls ≠ .type "tuple"
theorem key_keep {h h' : Heap} {ws : List Addr} {ks : List K} {a : Addr} (hw : ∀ b ∈ ws, NoTup h b) (hkeep : ∀ b o, b ∉ ws → h.get? b = some o → h'.get? b = some o) (x : IsTupleKey kk h ks a) : IsTupleKey kk h' ks a := by
  obtain ⟨o', items, n, ho', hc, hd', hi⟩ := x
  have hne : a ∉ ws := fun m => by
    obtain ⟨o, ho, hn⟩ := hw a m
    rw [ho'] at ho
    cases ho
    exact hn hc
  exact ⟨o', items, n, hkeep _ _ hne ho', hc, hd', hi⟩
theorem set_keep {h h' : Heap} {ws : List Addr} {S : Addr} {ks : List (List K)} (hw : ∀ b ∈ ws, NoTup h b) (hS : S ∉ ws) (hkeep : ∀ b o, b ∉ ws → h.get? b = some o → h'.get? b = some o) (x : IsSetH (tupleKind kk) h S ks) : IsSetH (tupleKind kk) h' S ks := by
  obtain ⟨o, es, ep, t, X⟩ := x
  have ke : ∀ {k : List K} {e : Int × Value}, Elem (tupleKind kk) h k e → Elem (tupleKind kk) h' k e := fun ⟨a, e1, e2, e3⟩ => ⟨a, e1, key_keep hw hkeep e2, e3⟩
  exact ⟨o, es, ep, t, hkeep _ _ hS X.ho, X.ex, X.hd, X.T, X.room, fun e he => let ⟨k, a, b⟩ := X.el e he; ⟨k, a, ke b⟩, fun k hk => let ⟨e, a, b⟩ := X.all k hk; ⟨e, a, ke b⟩, X.sz⟩
theorem set_noTup {h : Heap} {S : Addr} {ks : List (List K)} (x : IsSetH (tupleKind kk) h S ks) : NoTup h S := by
  obtain ⟨o, es, ep, t, X⟩ := x
  exact ⟨o, X.ho, by rw [X.ex.1]; decide⟩
/-- the loop of set(..) over tuples that stand -/
theorem loopH (hroom : A.in1.units < cLine) (W : WalksS prog w A.in1 I fp wr G n P St) (S : Addr) (hSf : S ∉ fp) (val : Nat → List K) (hb : n ≤ 305) (hI : ∀ i s, St i s → ∀ b ∈ wr, NoTup s.heap b) :
    ∀ (k i : Nat) (s : Shared), n - i = k → i ≤ n → St i s → IsSetH (tupleKind kk) s.heap S (met val i) → (∀ i v, P i v → ∃ a, v = .ref a ∧ IsTupleKey kk s.heap (val i) a) →
      (∀ s', Moved (S :: wr) G s s' → IsSetH (tupleKind kk) s'.heap S (met val n) → R (.ok (.ret .none)) s') →
      codeAny (model prog w) A (.builtin "set.update.loop" ⟨[.ref S, .ref I], []⟩) R s := by
  have hSw : S ∉ wr := fun h => hSf (W.sub _ h)
  have hsub : ∀ b ∈ wr, b ∈ S :: wr := fun b hb => List.mem_cons_of_mem _ hb
  intro k
  induction k with
  | zero =>
    intro i s hk' hi hst' hS hKey hR
    have hin : i = n := by omega
    subst hin
    refine codeAny_builtin PyProof.Rows.F.entry_set_update_loop ?_
    rw [Around.under_plainId PyProof.Rows.F.plain_set_update_loop _]
    show wpAny _ A.in1 (pyNext (.ref I) >>= _) _ _ s
    refine wpAny_bind (W.done s _ _ hst' fun s' hm => ?_)
    show wpAny _ A.in1 (ret Value.none) _ _ s'
    exact wpAny_pure (hR s' (hm.mono hsub) (set_keep (hI _ _ hst') hSw (fun b o hb e => hm.heap b o hb e) hS))
  | succ k ih =>
    intro i s hk' hi hst' hS hKey hR
    have hlt : i < n := by omega
    refine codeAny_builtin PyProof.Rows.F.entry_set_update_loop ?_
    rw [Around.under_plainId PyProof.Rows.F.plain_set_update_loop _]
    show wpAny _ A.in1 (pyNext (.ref I) >>= _) _ _ s
    refine wpAny_bind (W.item i s _ _ hlt hst' fun v s' hP hst2 hm => ?_)
    have kp : ∀ b o, b ∉ wr → s.heap.get? b = some o → s'.heap.get? b = some o := fun b o hb e => hm.heap b o hb e
    have hS' := set_keep (hI _ _ hst') hSw kp hS
    have hKey' : ∀ i v, P i v → ∃ a, v = .ref a ∧ IsTupleKey kk s'.heap (val i) a := fun i v hv => let ⟨a, e, x⟩ := hKey i v hv; ⟨a, e, key_keep (hI _ _ hst') kp x⟩
    obtain ⟨a, rfl, hka⟩ := hKey' i v hP
    show wpAny _ A.in1 (holding [Value.ref a] (setAdd S (.ref a)) >>= _) _ _ s'
    refine wpAny_bind (wpAny_holding ?_)
    unfold setAdd
    refine wpAny_holding ?_
    refine wpAny_bind ((tupleKind kk).pyHash hroom hka ?_)
    refine wp_add (s := { s' with toks := s'.toks + (tupleKind kk).draws (val i) }) (hk_tuple kk) hroom hka hS' (by have := met_len val i; omega) fun h' b sb hS2 => ?_
    have sbk : ∀ b o, b ∉ [S] → s'.heap.get? b = some o → h'.get? b = some o := fun b o hb e => by
      rw [sb.2 b (fun z => hb (by rw [z]; exact List.mem_singleton.mpr rfl))]; exact e
    have nS : ∀ b ∈ [S], NoTup s'.heap b := fun b hb => by rw [List.mem_singleton.mp hb]; exact set_noTup hS'
    refine wpAny_pure ⟨plainId_quiet PyProof.Rows.F.plain_set_update_loop _, ih (i + 1) _ (by omega) hlt (W.frame _ s' _ _ hst2 (Nat.le_add_right _ _) fun b hb o e => ?_) (by rw [met_succ]; exact hS2) (fun i v hv => let ⟨a, e, x⟩ := hKey' i v hv; ⟨a, e, key_keep nS sbk x⟩) fun s'' hm'' hS'' => ?_⟩
    · rw [sb.2 b (fun h : b = S => hSf (by rw [← h]; exact hb))]; exact e
    · refine hR s'' (Moved.trans W.gtrans ((hm.mono hsub).then_heap (Nat.le_add_right _ _) fun b o hb e => ?_) hm'') hS''
      rw [sb.2 b (fun h : b = S => hb (by rw [h]; exact List.mem_cons_self))]; exact e
end
end HS
-- part H8
set_option Elab.async false
set_option linter.all false
set_option maxRecDepth 100000
set_option maxHeartbeats 8000000
namespace HS
open PySem PySem.SetTable PySem.Spec
section
variable {K : Type} [DecidableEq K] {prog : Program} {w : World} {kk : KeyKind prog w K} {A : Around} {E : Value → Shared → Prop} {s : Shared}
abbrev newS (led : Bool) : Obj := { cls := .type "set", dict := none, data := .set #[] 0 (.fresh 0 0 led) }
theorem fresh_set {h : Heap} {S : Addr} (led : Bool) (g : h.get? S = some (newS led)) : IsSetH (tupleKind kk) h S [] := by
  refine ⟨_, #[], 0, _, g, ⟨rfl, rfl, rfl⟩, rfl, ⟨rfl, .nil, rfl, fun j hj => ?_, fun z hz => ?_⟩, .inl ⟨rfl, Nat.zero_le _⟩, fun e he => ?_, fun k hk => ?_, rfl⟩
  · exact absurd hj (by simp [SetTable.fresh])
  · exact absurd hz (by simp [SetTable.fresh])
  · exact absurd he (by simp)
  · exact absurd hk (by simp)
set_option maxHeartbeats 8000000 in
/-- set(l), l a list of tuples that stand -/
theorem call_setH {l : Addr} {items : Array Value} {val : Nat → List K} {Q : Value → Shared → Prop}
    (hh : A.handled = none) (hu : A.in1.in1.in1.units < cLine) (hl : s.heap.IsList l items) (hi : ∀ i v, items[i]? = some v → ∃ a, v = .ref a ∧ IsTupleKey kk s.heap (val i) a) (hb : items.size ≤ 305)
    (h : ∀ (h' : Heap) (tk : Nat), IsSetH (tupleKind kk) h' s.heap.objs.size (met val items.size) → (∀ b o, b < s.heap.objs.size → s.heap.get? b = some o → h'.get? b = some o) → Q (.ref s.heap.objs.size) { s with heap := h', toks := tk }) :
    wpAny (model prog w) A (call (.type "set") [.ref l]) Q E s := by
  have cS := F.called_set
  obtain ⟨c0, tl0, mro0⟩ := cS.mro
  have made0 := cS.made; have sub0 := cS.sub
  refine wpAny_call (codeAny_of_tree (show wpAny _ _ (callAny (.type "set") _) _ _ _ from ?_))
  refine wpAny_pure ⟨Code.quiet_builtin _ (by decide +kernel), codeAny_builtin F.entry_type_call ?_⟩
  rw [Around.under_plain (weight_type_call_type "set" [.ref l] []) rfl]
  have k1 := cS.notType; have k2 := cS.canCreate; have k3 := F.typeCall_set_1 (.ref l)
  repeat (any_goals (first | assumption | wp_step))
  refine codeAny_mono (code_set_new_1 (.ref l) (E := E) (Q₁ := fun ob s₁ => ∃ led : Bool, ob = .ref s.heap.objs.size ∧ s₁ = { s with heap := s.heap.push (newS led) }) fun led => ⟨led, rfl, rfl⟩) fun r₁ s₁ g₁ => ?_
  cases r₁ with
  | error e => exact g₁
  | ok f₁ =>
    cases f₁ with
    | ret ob =>
      obtain ⟨led, rfl, rfl⟩ := g₁
      have gS : (s.heap.push (newS led)).get? s.heap.objs.size = some (newS led) := Heap.get?_push_size _ rfl
      have tS : Shared.TypeIs { s with heap := s.heap.push (newS led) } (.ref s.heap.objs.size) "set" := ⟨_, gS, rfl⟩
      have li0 := cS.init.lookup; have bi0 := cS.init.bind (.ref s.heap.objs.size)
      repeat (any_goals (first | assumption | wp_step))
      refine codeAny_mono (codeAny_call_builtin (R := wants (fun r s₂ => r = .none ∧ ∃ h' tk, s₂ = { s with heap := h', toks := tk } ∧ IsSetH (tupleKind kk) h' s.heap.objs.size (met val items.size) ∧ (∀ b o, b < s.heap.objs.size → s.heap.get? b = some o → h'.get? b = some o)) E) cS.init.plain F.entry_set_init (check_set_init_1 tS ?_)) fun r₂ s₂ g₂ => ?_
      · obtain ⟨⟨lc, ld, lt, ls⟩, hol, hcl, nl, hdl⟩ := hl
        simp only at hcl hdl
        subst hcl; subst hdl
        have hol' := Heap.get?_push_of_some (newS led) hol
        have sl1 := F.sub_list_set; have sl2 := F.sub_list_frozenset
        have ne0 : (Value.type "list" == Value.type "dict") = false := by decide
        have hl1 : (s.heap.push (newS led)).IsList l items := ⟨_, hol', rfl, nl, rfl⟩
        unfold Builtin.«set.__init__» noKeywords Builtin.Frozenset.updateFrom
        generalize hPy : pyIter = PI
        wp_walk
        subst hPy
        refine wpAny_pyIter_list hl1 (wpAny_bind (wpAny_runValue ?_))
        have llt : l < s.heap.objs.size := Heap.lt_size hol
        have hh3 : A.in1.in1.in1.handled = none := by simp [hh]
        have nI : l ≠ (s.heap.push (newS led)).objs.size := by rw [Heap.size_push]; exact Nat.ne_of_lt (Nat.lt_succ_of_lt llt)
        have Sf : s.heap.objs.size ∉ [(s.heap.push (newS led)).objs.size, l] := by
          rw [Heap.size_push]
          simp only [List.mem_cons, List.mem_singleton, List.not_mem_nil, or_false, not_or]
          exact ⟨Nat.ne_of_lt (Nat.lt_succ_self _), Nat.ne_of_gt llt⟩
        refine loopH (kk := kk) ?hroom ((Walks.list hh3 _ l nI items).toS) s.heap.objs.size Sf val hb ?hI (items.size - 0) 0 _ (by omega) (Nat.zero_le _) ⟨⟨_, Heap.get?_push_size _ rfl, rfl, rfl⟩, (hl1.push _)⟩ ?hS0 ?hKey ?hR
        case hroom => exact hu
        case hI =>
          rintro i s1 ⟨⟨o1, e1, e2, _⟩, _⟩ b hb
          rw [List.mem_singleton.mp hb]
          exact ⟨o1, e1, by rw [e2]; decide⟩
        case hS0 => exact fresh_set led (Heap.get?_push_of_some _ gS)
        case hKey =>
          intro i v hv
          obtain ⟨a, e, x⟩ := hi i v hv
          refine ⟨a, e, key_keep (ws := []) (fun b hb => absurd hb (by simp)) (fun b o _ eb => Heap.get?_push_of_some _ (Heap.get?_push_of_some _ eb)) x⟩
        case hR =>
          rintro ⟨h', g', d', tk', os'⟩ hm hS'
          obtain rfl : g' = s.gens := hm.gens
          obtain rfl : d' = s.drawn := hm.drawn
          obtain rfl : os' = s.os := hm.os
          show wpAny _ _ _ _ _ _
          refine wpAny_pure (show wpAny _ _ (ret Value.none) _ _ _ from wpAny_pure ⟨rfl, h', tk', rfl, hS', fun b o hb e => ?_⟩)
          refine hm.heap b o ?_ (Heap.get?_push_of_some _ (Heap.get?_push_of_some _ e))
          simp only [List.mem_cons, List.mem_singleton, List.not_mem_nil, or_false, not_or]
          exact ⟨Nat.ne_of_lt hb, by rw [Heap.size_push]; exact Nat.ne_of_lt (Nat.lt_succ_of_lt hb)⟩
      · cases r₂ with
        | error e => exact g₂
        | ok f₂ =>
          cases f₂ with
          | ret r =>
            obtain ⟨rfl, h', tk, rfl, hS', hk'⟩ := g₂
            repeat (any_goals (first | assumption | wp_step))
            exact h _ _ hS' hk'
          | _ => exact g₂.elim
    | _ => exact g₁.elim
end
end HS
-- part P22
set_option Elab.async false
set_option linter.all false
set_option maxRecDepth 100000
set_option maxHeartbeats 4000000
namespace L2
open PySem PySem.Spec PyProof.Rows
/-! ### len(set(l)), l a list of tuples of ints -/
def lenS (ks : List (List Int)) : Nat := (HS.met (fun i => ks.getD i []) ks.length).length
theorem lenS_eq (ks : List (List Int)) : lenS ks = ks.length ↔ ks.Nodup := by
  unfold lenS
  rw [HS.met_nodup]
  have e : (List.range ks.length).map (fun i => ks.getD i []) = ks := by
    refine List.ext_getElem (by simp) fun i h1 h2 => ?_
    rw [List.getElem_map, List.getElem_range, List.getD_eq_getElem?_getD, List.getElem?_eq_getElem h2, Option.getD_some]
  rw [e]
theorem items_int {prog : Program} {w : World} : ∀ {ks : List Int} {us : List Value}, Vals (ks.map V.int) us → ItemsAre (intKind prog w) ks us
  | [], _, .nil => .nil
  | k :: ks, _, .cons r rs => by
    obtain ⟨t, rfl⟩ := r
    exact .cons (intKind_is _ _ _ _) (items_int rs)
section
variable {X : Cx}
theorem tkey {pins : List (Addr × Obj)} {σ : St} {H : Hp} {s : Shared} {v : V} {u : Value} {k : List Int} (I : Inv X pins σ H s) (h : TpAt H v k) (r : RelV v u) : ∃ a, u = .ref a ∧ IsTupleKey (intKind X.prog X.w) s.heap k a := by
  obtain ⟨t, rfl, ht⟩ := h
  cases r
  obtain ⟨us, rv, ⟨o, ho, hc, n, hd⟩, _⟩ := I.tuple (SqT.of ht)
  exact ⟨t, rfl, o, us.toArray, n, ho, hc, hd, by simpa using items_int rv⟩
def tLenSet (K : PySem.W.Frag) (te : TE) : TE := fun σ H Q => te σ H fun v H1 => ∃ (l : Addr) (ts : List V) (ks : List (List Int)), v = .ref l ∧ SqL K H1 l ts ∧ Paired (TpAt H1) ts ks ∧ ts.length ≤ 305 ∧ Q (.int (lenS ks)) H1
theorem pe_lenSet {e : Expr} {te : TE} {p p2 pos pos2 : Pos} (hc : X.calm = true) (hu : X.A.units + 4 < cLine) (hg : Gl X "len") (hm : X.mg "len" = none) (hg2 : Gl X "set") (hm2 : X.mg "set" = none) (he : PE X e te)
    (hs1 : starEach [.Call (.Name "set" p2) [e] [] pos2] X.env = [(false, eval (.Call (.Name "set" p2) [e] [] pos2) X.env)] := by rfl) (hs2 : starEach [e] X.env = [(false, eval e X.env)] := by rfl) :
    PE X (.Call (.Name "len" p) [.Call (.Name "set" p2) [e] [] pos2] [] pos) (tLenSet X.K te) := by
  intro pins s σ H Q I h
  refine wpAny_Call_Name_kw (ld_blt I hg hm boot_len ?_)
  refine PyProof.Rows.callWith_builtin1 ?_ hs1 rfl
  rw [hs1]
  show wpAny _ _ (spliced ((false, eval (.Call (.Name "set" p2) [e] [] pos2) X.env) :: backTo pos (starEach [] X.env))) _ _ s
  refine Calls.spliced_cons ?_
  refine wpAny_Call_Name_kw (ld_blt I hg2 hm2 boot_set ?_)
  have h2 : tCons te tNil σ H fun vs H1 => ∃ v, vs = [v] ∧ ∃ (l : Addr) (ts : List V) (ks : List (List Int)), v = .ref l ∧ SqL X.K H1 l ts ∧ Paired (TpAt H1) ts ks ∧ ts.length ≤ 305 ∧ Q (.int (lenS ks)) H1 := by
    have e0 : (fun (v : V) (H1 : Hp) => ∃ v' : V, [v] = [v'] ∧ ∃ (l : Addr) (ts : List V) (ks : List (List Int)), v' = .ref l ∧ SqL X.K H1 l ts ∧ Paired (TpAt H1) ts ks ∧ ts.length ≤ 305 ∧ Q (.int (lenS ks)) H1) = (fun (v : V) (H1 : Hp) => ∃ (l : Addr) (ts : List V) (ks : List (List Int)), v = .ref l ∧ SqL X.K H1 l ts ∧ Paired (TpAt H1) ts ks ∧ ts.length ≤ 305 ∧ Q (.int (lenS ks)) H1) := by
      funext v H1
      refine propext ⟨fun ⟨v', z, q⟩ => ?_, fun q => ⟨v, rfl, q⟩⟩
      cases z
      exact q
    show te σ H (fun (v : V) (H1 : Hp) => ∃ v' : V, [v] = [v'] ∧ ∃ (l : Addr) (ts : List V) (ks : List (List Int)), v' = .ref l ∧ SqL X.K H1 l ts ∧ Paired (TpAt H1) ts ks ∧ ts.length ≤ 305 ∧ Q (.int (lenS ks)) H1)
    rw [e0]
    exact h
  refine PyProof.Rows.callWith_type1 (thn (pa_cons he pa_nil hs2 pos2 pins s σ H _ I h2) fun us s1 ⟨vs, H1, I1, r1, q1⟩ => ?_) hs2 rfl
  obtain ⟨v, rfl, l, ts, ks, rfl, hl, pr, hn, q⟩ := q1
  obtain ⟨u, rfl, ru⟩ := vals1 r1
  cases ru
  obtain ⟨its, rv, pl, hz⟩ := I1.list hl
  have ll := rv.length
  have lk := Paired.length pr
  refine HS.call_setH (kk := intKind X.prog X.w) (val := fun i => ks.getD i []) (items := its.toArray) (I1.ok.hd hc) (by show X.A.units + 1 + 1 + 1 < cLine; omega) pl.isList (fun i u hu' => ?_) (by rw [List.size_toArray]; omega) fun h' tk hS hk => ?_
  · have hu2 : its[i]? = some u := by simpa using hu'
    have hi : i < ts.length := by rw [ll]; exact (List.getElem?_eq_some_iff.mp hu2).1
    obtain ⟨u', e1, r2⟩ := rv.get (List.getElem?_eq_getElem hi)
    rw [hu2] at e1
    cases e1
    obtain ⟨k, hk, tp⟩ := pr_at pr (List.getElem?_eq_getElem hi)
    obtain ⟨a, e, x⟩ := tkey I1 tp r2
    refine ⟨a, e, ?_⟩
    show IsTupleKey _ _ (ks.getD i []) a
    rw [List.getD_eq_getElem?_getD, hk]
    exact x
  · have I2 : Inv X pins σ H1 { s1 with heap := h', toks := tk } := I1.kept fun b o eb => hk b o (Heap.lt_size eb) eb
    refine Calls.spliced_nil ?_
    obtain ⟨o, es, ep, t, SH⟩ := hS
    have sm := SH.room.small
    refine call_len_set SH.ho SH.ex SH.hd (SH.T.fits (Nat.le_of_lt (Nat.lt_of_succ_lt SH.room.lt))) (by omega) ?_
    have ez : (es.size : Int) = (lenS ks : Int) := by
      rw [SH.sz]
      unfold lenS
      rw [List.size_toArray, ← ll, lk]
    exact ⟨.int (lenS ks), H1, I2.tok _, ⟨_, by rw [← ez]⟩, q⟩
end
end L2
-- part P23
set_option Elab.async false
set_option linter.all false
set_option maxRecDepth 100000
set_option maxHeartbeats 4000000
namespace L2
open PySem PySem.Spec PyProof.Rows SeqAt
section
variable {X : Cx}
/-! ### == and != of two lists of the same tuples of ints -/
def rSameT (K : PySem.W.Frag) (r : Bool) : R2 := fun x y H Q => ∃ (a b : Addr) (xs ys : List V) (ks : List (List Int)), x = .ref a ∧ y = .ref b ∧ SqL K H a xs ∧ SqL K H b ys ∧ Paired (TpAt H) xs ks ∧ Paired (TpAt H) ys ks ∧ Q (.bl r) H
end
end L2
-- part P24
set_option Elab.async false
set_option linter.all false
set_option maxRecDepth 100000
set_option maxHeartbeats 4000000
namespace L2
open PySem PySem.Spec PyProof.Rows SeqAt
/-! ### xs[::-1] of a list -/
section
variable {X : Cx} {e : Expr} {te : TE} {p1 p2 p3 pos : Pos} {j : Nat}
def tRevL (K : PySem.W.Frag) (te : TE) : TE := fun σ H Q => te σ H fun x H1 => ∃ a xs, x = .ref a ∧ SqL K H1 a xs ∧ ∀ p, H1 p = none → Q (.ref p) (upd H1 p (.lst xs.reverse))
end
section
variable {X : Cx}
/-! ### sum of a list of ints -/
/-! ### a tuple of ints among the items of a tuple of such -/
theorem tp_eqAt {pins : List (Addr × Obj)} {σ : St} {H : Hp} {s : Shared} {x y : V} {u v : Value} {k m : List Int} (A : Around) (hu : A.units < cLine) (I : Inv X pins σ H s) (hx : TpAt H x k) (hy : TpAt H y m) (ru : RelV x u) (rv : RelV y v) : EqAt A s u v (decide (k = m)) := by
  obtain ⟨a, rfl, ha⟩ := hx
  obtain ⟨b, rfl, hb⟩ := hy
  cases ru
  cases rv
  by_cases hab : a = b
  · subst hab
    rw [ha] at hb
    have : k = m := by
      have h := Option.some.inj hb
      injection h with h
      exact List.map_inj_right (fun _ _ z => by injection z) |>.mp h
    rw [decide_eq_true this]
    exact EqAt.same _
  · obtain ⟨us, r1, p1, _⟩ := I.tuple (SqT.of ha)
    obtain ⟨vs, r2, p2, _⟩ := I.tuple (SqT.of hb)
    have z := RcAt.tuples (A := A) (s := s) (e := fun j => k.getD j 0 == m.getD j 0) p1 p2 hu (fun j h1 h2 => by
      obtain ⟨t1, e1⟩ := ints_vals r1 j (by simpa using h1)
      obtain ⟨t2, e2⟩ := ints_vals r2 j (by simpa using h2)
      rw [show us.toArray[j] = us[j]'(by simpa using h1) by simp, show vs.toArray[j] = vs[j]'(by simpa using h2) by simp, e1, e2]
      exact EqAt.int_int _ _ _ _)
    have l1 := r1.length
    have l2 := r2.length
    rw [List.length_map] at l1 l2
    have e : ((List.range (min us.toArray.size vs.toArray.size)).all (fun j => k.getD j 0 == m.getD j 0) && us.toArray.size == vs.toArray.size) = decide (k = m) := by
      rw [Bool.eq_iff_iff, Bool.and_eq_true, List.all_eq_true, decide_eq_true_eq, beq_iff_eq, List.size_toArray, List.size_toArray]
      constructor
      · rintro ⟨h, hl⟩
        refine List.ext_getElem (by omega) fun i h1 h2 => ?_
        have := h i (by rw [List.mem_range]; omega)
        simpa [h1, h2] using this
      · rintro rfl
        exact ⟨fun j _ => by simp, by omega⟩
    rw [e] at z
    exact EqAt.of_refs hab z
/-- (a, b) in (t, u), tuples of ints -/
def rInTT (K : PySem.W.Frag) : R2 := fun x y H Q => ∃ (p : Addr) (t u : V) (k k1 k2 : List Int), TpAt H x k ∧ y = .ref p ∧ H p = some (.tup [t, u]) ∧ TpAt H t k1 ∧ TpAt H u k2 ∧ Q (.bl (decide (k1 = k) || decide (k2 = k))) H
end
end L2
-- part P25
set_option Elab.async false
set_option linter.all false
set_option maxRecDepth 100000
set_option maxHeartbeats 4000000
namespace L2
open PySem PySem.Spec PyProof.Rows
/-! ### enumerate(l), l a list -/
/-- the pairs (i, item), each a new tuple -/
def IteL (K : PySem.W.Frag) (t : Addr) : It :=
  ⟨fun i H => ∃ xs x, SqL K H t xs ∧ xs[i]? = some x, fun i H x H' => ∃ (T : Addr) (y : V), x = .ref T ∧ H T = none ∧ H' = upd H T (.par [.int (i : Int), y]) ∧ ∀ xs, SqL K H t xs → xs[i]? = some y, fun i H => ∃ xs, SqL K H t xs ∧ xs.length = i⟩
theorem turn_enumL {P : Program} {w : World} {K : PySem.W.Frag} {elts : List Expr} {kk : Nat} {pos : Pos} (t e j : Addr) (hej : e ≠ j) (hte : t ≠ e) (htj : t ≠ j) :
    Turn P w K (.Tuple elts kk pos) (IteL K t) [e, j] e (fun i h => (∃ old, IsEnum h e j i old) ∧ h.IsListIter j t i) where
  mem := by simp
  obj := fun i h st b hb => by
    obtain ⟨⟨old, he⟩, o, ho, hc, hd⟩ := st
    rcases List.mem_cons.mp hb with rfl | hb
    · exact ⟨_, he, fun v z => by cases z⟩
    · rw [List.mem_singleton.mp hb]
      exact ⟨o, ho, fun v z => by rw [hd] at z; cases z⟩
  keep := fun i h h' st k => ⟨let ⟨old, he⟩ := st.1; ⟨old, k e (by simp) _ he⟩, st.2.at fun o q => k j (by simp) o q⟩
  item := by
    intro X hP hw hK hc i pins s σ H E I hf st hg
    subst hP hw hK
    obtain ⟨xs, x, hq, hx⟩ := hg
    obtain ⟨its, rv, p, hz⟩ := I.list hq
    obtain ⟨u, hu, ru⟩ := rv.get hx
    have hl := rv.length
    have hil : i < its.toArray.size := by
      have := (List.getElem?_eq_some_iff.mp hu).1
      simpa using this
    have W := WalksT.enumerateD (prog := X.prog) (w := X.w) (A := X.A) (Draws.list (A := X.A.in1) (show X.A.in1.handled = none from I.ok.hd hc) j t htj its.toArray) e hej (by simp [hej, hte.symm]) (by simp)
    have hT : s.heap.IsList t its.toArray := p.isList
    refine W.item i s _ _ hil ⟨st.1, st.2, hT⟩ fun T vals h' tk hP hTs hTup hmid hk => ⟨_, rfl, W.go elts kk pos i T _ _ _ hmid fun h'' st'' hk'' => ?_⟩
    obtain ⟨tk2, x2, hx2, rfl⟩ := hP
    have hx2' : its[i]? = some x2 := by simpa using hx2
    rw [hu] at hx2'
    cases hx2'
    have hTn : H T = none := I.hok.fresh hTs
    have both : ∀ b o, b ∉ [e, j] → s.heap.get? b = some o → h''.get? b = some o := fun b o hb q => hk'' b o hb (hk b o hb q)
    have hTw : T ∉ [e, j] := W.apart _ _ _ hmid
    have hTT : h''.IsTuple T #[.int i tk2, u] := hTup.at fun o q => hk'' T o hTw q
    have neT : ∀ b o, s.heap.get? b = some o → b ≠ T := fun b o q => Nat.ne_of_lt (Nat.lt_of_lt_of_le (Heap.lt_size q) hTs)
    have neT' : ∀ b o, H b = some o → b ≠ T := fun b o q => ne_of_none q hTn
    have trk : ∀ b o, H b = some o → b ∉ [e, j] := fun b o q z => by
      have := (hf b z).1
      rw [this] at q; cases q
    refine ⟨.ref T, upd H T (.par [.int (i : Int), x]), ?_, rfl, ⟨T, x, rfl, hTn, rfl, fun ys hy => by rw [I.list_inj hy hq]; exact hx⟩, ⟨st''.1, st''.2.1⟩, fun b hb => ?_⟩
    · refine (show Inv X pins σ (upd H T (.par [.int (i : Int), x])) { s with heap := h'', toks := tk } from ?_)
      refine I.call (g' := s.gens) (d' := s.drawn) (t' := tk) (h' := h'') (ch := [e, j]) ⟨fun b o q _ _ hx => both b o hx q, fun b o q _ _ hx => ⟨o.slots, both b o hx q⟩, fun b o q n hx => by rw [upd_ne (neT b o q)]; exact n, fun b o q hx => ⟨o, both b o hx q⟩,
        fun b ys q => by rw [upd_ne (neT' b _ q)]; exact q, fun b o u q => by rw [upd_ne (neT' b _ q)]; exact q, fun b ps q => ⟨#[], by rw [upd_ne (neT' b _ q), q]; simp⟩⟩ (fun b v q => ?_) I.bare fun b hb => ?_
      · by_cases hb : b = T
        · subst hb
          rw [upd_same] at q
          cases q
          exact ⟨by show 2 ≤ sizeLine; decide, [.int i tk2, u], .cons ⟨tk2, rfl⟩ (.cons ru .nil), hTT⟩
        · rw [upd_ne hb] at q
          refine (I.hok b v q).stay (fun c z hc' q' => both c z ?_ q') (fun c q' => by rw [upd_ne (neT' c _ q')]; exact q') fun c ys q' => by rw [upd_ne (neT' c _ q')]; exact q'
          rcases hc' with z' | z'
          · rw [z']; exact trk b v q
          · exact trk c _ z'
      · obtain ⟨f0, f1, f2, f3, f4, f5⟩ := hf b hb
        exact ⟨f3, f1, f4, f5⟩
    · rw [upd_ne (fun z => hTw (by rw [← z]; exact hb))]
      exact (hf b hb).1
  done := by
    intro X hP hw hK hc i pins s σ H E I hf st hg
    subst hP hw hK
    obtain ⟨xs, hq, hx⟩ := hg
    obtain ⟨its, rv, p, hz⟩ := I.list hq
    have hl := rv.length
    have W := WalksT.enumerateD (prog := X.prog) (w := X.w) (A := X.A) (Draws.list (A := X.A.in1) (show X.A.in1.handled = none from I.ok.hd hc) j t htj its.toArray) e hej (by simp [hej, hte.symm]) (by simp)
    have hn : i = its.toArray.size := by rw [List.size_toArray]; omega
    have hT : s.heap.IsList t its.toArray := p.isList
    rw [hn] at st
    refine W.done s _ _ ⟨st.1, st.2, hT⟩ fun h' tk hk => ⟨rfl, ?_⟩
    have trk : ∀ b o, H b = some o → b ∉ [e, j] := fun b o q z => by
      have := (hf b z).1
      rw [this] at q; cases q
    refine I.call (g' := s.gens) (d' := s.drawn) (t' := tk) (h' := h') (ch := [e, j]) ⟨fun b o q _ _ hx => hk b o hx q, fun b o q _ _ hx => ⟨o.slots, hk b o hx q⟩, fun b o q n hx => n, fun b o q hx => ⟨o, hk b o hx q⟩, fun b ys q => q, fun b o u q => q, fun b ps q => ⟨#[], by rw [q]; simp⟩⟩ (fun b v q => ?_) I.bare fun b hb => ?_
    · refine (I.hok b v q).stay (fun c z hc' q' => hk c z ?_ q') (fun _ q' => q') fun _ _ q' => q'
      rcases hc' with z' | z'
      · rw [z']; exact trk b v q
      · exact trk c _ z'
    · obtain ⟨f0, f1, f2, f3, f4, f5⟩ := hf b hb
      exact ⟨f3, f1, f4, f5⟩
  self := fun A i s Q E st h => let ⟨old, he⟩ := st.1; wpAny_pyIter_enum he h
section
variable {X : Cx} {elts : List Expr} {kk : Nat} {tp : Pos}
def iEnumL (K : PySem.W.Frag) (ta : TA) : TI := fun σ H R => ta σ H fun vs H1 => ∃ t, vs = [.ref t] ∧ (∃ xs, SqL K H1 t xs) ∧ R (IteL K t) H1
theorem pi_enumL {a : Expr} {ta : TA} {p pos : Pos} (hg : Gl X "enumerate") (hm : X.mg "enumerate" = none) (ha : PA X [a] ta) (hs : starEach [a] X.env = [(false, eval a X.env)] := by rfl) : PI X (.Tuple elts kk tp) (.Call (.Name "enumerate" p) [a] [] pos) (iEnumL X.K ta) := by
  intro pins s σ H R I h
  refine Call_ (ld_blt I hg hm boot_enumerate (PyProof.Rows.callWith_type1 (thn (ha pos pins s σ H _ I h) fun us s1 ⟨vs, H1, I1, r1, q1⟩ => ?_) hs rfl))
  obtain ⟨t, e, ⟨xs, hq⟩, q⟩ := q1
  subst e
  obtain ⟨u, rfl, ru⟩ := vals1 r1
  cases ru
  obtain ⟨its, rv, pl, hz⟩ := I1.list hq
  have hT : s1.heap.IsList t its.toArray := pl.isList
  have ht : t < s1.heap.objs.size := by obtain ⟨o, ho, _⟩ := hT; exact Heap.lt_size ho
  refine call_enumerate_list hT fun h' he hj hz2 hk => wpAny_pyIter_enum he ?_
  have I2 : Inv X pins σ H1 { s1 with heap := h' } := I1.kept (t' := s1.toks) hk
  refine ⟨s1.heap.objs.size + 1, [s1.heap.objs.size + 1, s1.heap.objs.size], _, _, H1, rfl, I2, turn_enumL t _ _ (Nat.succ_ne_self _) (Nat.ne_of_lt (Nat.lt_succ_of_lt ht)) (Nat.ne_of_lt ht), ⟨⟨_, he⟩, hj⟩, fun b hb => ?_, q⟩
  have hbs : s1.heap.objs.size ≤ b := by
    rcases List.mem_cons.mp hb with z | z
    · rw [z]; exact Nat.le_succ _
    · rw [List.mem_singleton.mp z]; exact Nat.le_refl _
  exact I1.fpOk hbs (I1.hok.fresh hbs)
end
theorem for_enumL {K : PySem.W.Frag} {a : Addr} {xs : List V} {g : TG} {tb : TS} {D : Ends} {σ : St} {H : Hp} (Pv : Nat → St → Hp → Prop) (h0 : Pv 0 σ H) (hl : ∀ i σ H, i ≤ xs.length → Pv i σ H → SqL K H a xs)
    (hs : ∀ i x T σ H, xs[i]? = some x → H T = none → Pv i σ H → g (.ref T) σ (upd H T (.par [.int (i : Int), x])) fun σ2 H2 => tb { D with nx := Pv (i + 1), ct := Pv (i + 1), bk := D.nx } σ2 H2) (hd : ∀ σ H, Pv xs.length σ H → D.nx σ H) :
    ∃ W : Nat → Nat → St → Hp → Prop, (∃ m, W 0 m σ H) ∧ ∀ i m σ H, W i m σ H →
      ((IteL K a).stop i H ∧ D.nx σ H) ∨ ((IteL K a).go i H ∧ ∃ N : St → Hp → Prop, (∀ σ' H', N σ' H' → ∃ m', m' < m ∧ W (i + 1) m' σ' H') ∧ ∀ x H', (IteL K a).yld i H x H' → g x σ H' fun σ2 H2 => tb { D with nx := N, ct := N, bk := D.nx } σ2 H2) := by
  refine ⟨fun i m σ H => m = xs.length - i ∧ i ≤ xs.length ∧ Pv i σ H, ⟨xs.length, by simp, Nat.zero_le _, h0⟩, ?_⟩
  rintro i m σ H ⟨rfl, hi, p⟩
  have q := hl i σ H hi p
  by_cases hlt : i < xs.length
  · refine .inr ⟨⟨xs, xs[i], q, by simp [hlt]⟩, Pv (i + 1), fun σ' H' p' => ⟨xs.length - (i + 1), by omega, rfl, hlt, p'⟩, fun x H' y => ?_⟩
    obtain ⟨T, z, e1, e2, e3, e4⟩ := y
    subst e1 e3
    exact hs i z T σ H (e4 xs q) e2 p
  · have e : i = xs.length := by omega
    subst e
    exact .inl ⟨⟨xs, q, rfl⟩, hd σ H p⟩
end L2
-- part P26
set_option Elab.async false
set_option linter.all false
set_option maxRecDepth 100000
set_option maxHeartbeats 4000000
namespace L2
open PySem PySem.Spec PyProof.Rows
section
variable {X : Cx}
/-! ### t.count(x), flat items -/
def rTCnt (K : PySem.W.Frag) : V → List V → Hp → VK → Prop := fun v vs H Q => ∃ (a : Addr) (xs : List V) (x : V), v = .ref a ∧ vs = [x] ∧ SqT K H a xs ∧ flatV x = true ∧ xs.all flatV = true ∧ Q (.int ((xs.countP fun y => eqV y x : Nat) : Int)) H
theorem mt_tcount : MtR X "tuple.count" (rTCnt X.K) := by
  intro pins s σ H v vs u us Q I rv rvs h
  obtain ⟨a, xs, x, rfl, rfl, hq, fx, fs, q⟩ := h
  cases rv
  obtain ⟨ux, rfl, rx⟩ := vals1 rvs
  obtain ⟨its, r, pl, hz⟩ := I.tuple hq
  obtain ⟨o, ho, hc, n, hd⟩ := id pl
  obtain ⟨cls, dd, dt, sl⟩ := o
  replace hc : cls = .type "tuple" := hc
  replace hd : dt = .seq its.toArray n := hd
  subst hc hd
  refine call_meets F.slot_tuple_count ⟨_, ho, rfl⟩ F.entry_tuple_count (F.args_tuple_count_2 _ _) (SeqAt.tuple_countAt a its.toArray n dd sl ux (eqU x)) ⟨ho, fun y hy => mem_eqAt rx fx r fs y (by simpa using hy), ?_⟩
  exact ⟨.int _, H, I.tok _, ⟨_, by rw [show its.toArray.toList = its by simp, count_eqU r fs]⟩, q⟩
/-! ### max(l), ints -/
def rMaxL (K : PySem.W.Frag) : List V → Hp → VK → Prop := fun xs H Q => ∃ (p : Addr) (ns : List Int), xs = [.ref p] ∧ SqL K H p (ns.map V.int) ∧ ns ≠ [] ∧ ∀ M, M ∈ ns → (∀ a ∈ ns, a ≤ M) → Q (.int M) H
theorem call_maxL (hc : X.calm = true := by rfl) : CallR X (.builtin "max") (rMaxL X.K) := by
  intro pins s σ H xs us Q I r h
  obtain ⟨p, ns, rfl, hp, hne, q⟩ := h
  obtain ⟨u, rfl, ru⟩ := vals1 r
  cases ru
  obtain ⟨its, rv, pl, _⟩ := I.list hp
  have hi := intsAre_of rv
  obtain ⟨xs, hx⟩ := hi.allInts.items
  have hl' : s.heap.IsList p (intItems xs) := hx ▸ pl.isList
  have e1 : ns = xs.toList.map (·.1) := by
    rw [← nums_intItems, ← hx]
    exact (show numsOf its.toArray.toList = ns from hi.numsOf).symm
  have hsz : 0 < xs.size := by
    rcases Nat.eq_zero_or_pos xs.size with z | z
    · exact absurd (by rw [e1]; simp [Array.size_eq_zero_iff.mp z]) hne
    · exact z
  refine max_intList (I.ok.hd hc) hl' hsz fun v h' tk hv hk => ?_
  obtain ⟨b1, b2⟩ := argBest_gt (numAt xs) (xs.size - 1)
  generalize argBest (fun i j => decide (numAt xs i > numAt xs j)) (xs.size - 1) = j at *
  have hj : j < xs.size := by omega
  have ev := intItems_at hv
  have num : ∀ i, (hi : i < xs.size) → numAt xs i ∈ ns := fun i hi => by
    rw [e1]
    unfold numAt
    simp only [Array.getD_eq_getD_getElem?, Array.getElem?_eq_getElem hi]
    exact List.mem_map.mpr ⟨xs[i], by simp, rfl⟩
  have of : ∀ a ∈ ns, ∃ i, i < xs.size ∧ a = numAt xs i := fun a ha => by
    rw [e1] at ha
    obtain ⟨y, hy, rfl⟩ := List.mem_map.mp ha
    obtain ⟨i, hi, rfl⟩ := List.getElem_of_mem hy
    refine ⟨i, by simpa using hi, ?_⟩
    have hi' : i < xs.size := by simpa using hi
    unfold numAt
    simp [Array.getElem?_eq_getElem hi']
  obtain ⟨tk', rfl⟩ := ev
  refine ⟨.int (numAt xs j), H, I.kept hk, ⟨_, rfl⟩, q _ (num j hj) fun a ha => ?_⟩
  obtain ⟨i, hi, rfl⟩ := of a ha
  exact b2 i (by omega)
/-! ### a tuple of ints among the items of a list of such -/
def rInTL (K : PySem.W.Frag) : R2 := fun x y H Q => ∃ (p : Addr) (ts : List V) (k : List Int) (ks : List (List Int)), TpAt H x k ∧ y = .ref p ∧ SqL K H p ts ∧ Paired (TpAt H) ts ks ∧ Q (.bl (decide (k ∈ ks))) H
theorem op_inTL (hu : X.A.units + 1 < cLine) : OpR X (compareOp .In) (rInTL X.K) := by
  intro pins s σ H x y v u Q I rx ry h
  obtain ⟨p, ts, k, ks, hx, rfl, hp, pr, q⟩ := h
  cases ry
  obtain ⟨its, r, pl, _⟩ := I.list hp
  have at' : ∀ {vs : List V} {ks : List (List Int)} {its : List Value}, Paired (TpAt H) vs ks → Vals vs its → (∀ u ∈ its, ∃ v m, TpAt H v m ∧ RelV v u ∧ keyAt s.heap u = m) ∧ (its.any fun u => decide (keyAt s.heap u = k)) = decide (k ∈ ks) := by
    intro vs ks its pr
    induction pr generalizing its with
    | nil => intro rv; cases rv; exact ⟨fun u hu => (by cases hu), by simp⟩
    | cons hh _ ih =>
      intro rv
      cases rv with
      | cons r1 r2 =>
        obtain ⟨g1, g2⟩ := ih r2
        obtain ⟨t, e, ht⟩ := id hh
        obtain ⟨items, ri, ⟨o, go, oc, n, od⟩, _⟩ := I.tuple (SqT.of ht)
        subst e
        have r1' := r1
        cases r1
        have ek := keyAt_of go od (by simpa using intsAre_of ri)
        refine ⟨fun u hu => ?_, ?_⟩
        · rcases List.mem_cons.mp hu with rfl | hu
          · exact ⟨_, _, hh, r1', ek⟩
          · exact g1 u hu
        · rw [List.any_cons, g2, ek, Bool.eq_iff_iff]
          simp only [Bool.or_eq_true, decide_eq_true_eq, List.mem_cons, @eq_comm _ k]
  obtain ⟨a1, a2⟩ := at' pr r
  refine SeqAt.in_listAt (fun w => decide (keyAt s.heap w = k)) pl.isList (fun w hw => ?_) ⟨.bl _, H, I, ?_, q⟩
  · obtain ⟨z, m, h1, h2, h3⟩ := a1 w (by simpa using hw)
    rw [h3]
    exact tp_eqAt X.A.in1 hu I h1 hx h2 rx
  · show Value.bool _ = Value.bool _
    rw [← a2]
    simp
end
end L2
-- part Xk11a
set_option Elab.async false
set_option linter.all false
set_option maxRecDepth 100000
set_option maxHeartbeats 40000000
namespace U
open PySem L2 PyProof.Rows
def top (i : Nat) : Stmt := PySem.Challenge.pw_unlikesteps_k52_whole_most_points.main.body.getD i (.Pass ⟨0, 0, 0, 0⟩)
structure Gs (mg : Str → Option Value) : Prop where
  isinstance : mg "isinstance" = none
  int : mg "int" = none
  bool : mg "bool" = none
  tuple : mg "tuple" = none
  list : mg "list" = none
  len : mg "len" = none
  all : mg "all" = none
  set : mg "set" = none
  range : mg "range" = none
  max : mg "max" = none
  min : mg "min" = none
  enumerate : mg "enumerate" = none
  zip : mg "zip" = none
  sorted : mg "sorted" = none
  longest : ∃ t, mg "LONGEST_SIDE" = some (.int 12 t)
  mwide : ∃ t, mg "MOST_WIDE" = some (.int 5 t)
  mhigh : ∃ t, mg "MOST_HIGH" = some (.int 5 t)

end U
namespace U
open PySem L2 PyProof.Rows
section
theorem tNext_i {D : Ends} {σ : L2.St} {H : Hp} (h : D.nx σ H) : tNext D σ H := h
theorem tSeq_i {t u : TS} {D : Ends} {σ : L2.St} {H : Hp} (h : t { D with nx := u D } σ H) : tSeq t u D σ H := h
theorem tAsg_i {te : TE} {g : TG} {D : Ends} {σ : L2.St} {H : Hp} (h : te σ H fun v H1 => g v σ H1 D.nx) : tAsg te g D σ H := h
theorem gName_i {i : Nat} {v : V} {σ : L2.St} {H : Hp} {Q : L2.St → Hp → Prop} (h : Q (σ.set i (some v)) H) : gName i v σ H Q := h
end
end U
namespace U
open PySem L2 PyProof.Rows
section
variable {P : Program} {w : World} {K : PySem.W.Frag} {mg : Str → Option Value} {base : Heap}
abbrev sWhole : Stmt := top 9
def spWhole (K : PySem.W.Frag) : Sp := fun vs H Q _ => ∃ x, vs = [x] ∧ PlT K H x ∧ Q (.bl (whole x)) H
theorem scWhole : FnScope ["thing"] ["thing"] (defScope sWhole) := ⟨rfl, rfl, rfl, by decide +kernel, rfl, by decide +kernel, by decide +kernel⟩
theorem ok_whole {f : Addr} {fd : FuncData} (F : Fun K "is_whole" "is_whole" sWhole f fd) (G : Gs mg) : FnOk P w K mg base CX0 1 f fd ["thing"] (spWhole K) := by
  refine F.ok scWhole (fun vs H Q E h => ?_) (fun cdv A outer s H vs Q E hr h => ?_)
  · obtain ⟨x, rfl, _⟩ := h
    rfl
  · obtain ⟨x, rfl, ⟨T, t⟩, q⟩ := h
    refine ⟨_, pss_one (ps_ret (pe_and (pe_callB (call_isinst (c := "int")) rfl G.isinstance boot_isinstance (pa_cons (pv 0) (pa_cons (pe_bltn (v := .ty "int") rfl G.int boot_int rfl) pa_nil)))
      (pe_one (pe_not (pe_callB (call_isinst (c := "bool")) rfl G.isinstance boot_isinstance (pa_cons (pv 0) (pa_cons (pe_bltn (v := .ty "bool") rfl G.bool boot_bool rfl) pa_nil))))))), ?_⟩
    refine ⟨x, rfl, x, _, _, rfl, t, kit_int t, _, rfl, ?_⟩
    rw [isInt_whole] at q
    cases e : isIntV x with
    | false => rw [e] at q; exact iteF q
    | true => rw [e] at q; exact iteT ⟨x, rfl, x, _, _, rfl, t, kit_bool t, _, rfl, q⟩
abbrev sWithin : Stmt := top 10
def spWithin (K : PySem.W.Frag) : Sp := fun vs H Q _ => ∃ x a b, vs = [x, .int a, .int b] ∧ PlT K H x ∧ Q (.bl (wholeIn x a b)) H
theorem scWithin : FnScope ["thing", "least", "most"] ["thing", "least", "most"] (defScope sWithin) := ⟨rfl, rfl, rfl, by decide +kernel, rfl, by decide +kernel, by decide +kernel⟩
theorem ok_within {f : Addr} {fd : FuncData} (F : Fun K "is_whole_within" "is_whole_within" sWithin f fd) (D1 : Def P w K mg base 1 "is_whole" ["thing"] (spWhole K)) : FnOk P w K mg base CX0 2 f fd ["thing", "least", "most"] (spWithin K) := by
  refine F.ok scWithin (fun vs H Q E h => ?_) (fun cdv A outer s H vs Q E hr h => ?_)
  · obtain ⟨x, a, b, rfl, _⟩ := h
    rfl
  · obtain ⟨x, a, b, rfl, t, q⟩ := h
    refine ⟨_, pss_one (ps_ret (pe_and (pe_callD D1 hr (pa_cons (pv 0) pa_nil)) (pe_one (pe_chain op_le op_le (pv 1) (pv 0) (pv 2))))), ?_⟩
    refine ⟨x, rfl, x, rfl, t, _, rfl, ?_⟩
    cases x with
    | int i =>
      refine iteT ⟨_, rfl, _, rfl, _, _, rfl, rfl, _, rfl, ?_⟩
      have e : wholeIn (.int i) a b = (decide (a ≤ i) && decide (i ≤ b)) := rfl
      rw [e] at q
      cases e1 : decide (a ≤ i) with
      | false => rw [e1] at q; exact iteF q
      | true => rw [e1] at q; exact iteT ⟨_, rfl, _, _, rfl, rfl, q⟩
    | _ => exact iteF q
abbrev sTupOf : Stmt := top 12
def spTupOf (K : PySem.W.Frag) : Sp := fun vs H Q _ => ∃ x n, vs = [x, .int n] ∧ PlT K H x ∧ Q (.bl (match tupOf H x with | some xs => decide ((xs.length : Int) = n) | none => false)) H
theorem scTupOf : FnScope ["thing", "many"] ["thing", "many"] (defScope sTupOf) := ⟨rfl, rfl, rfl, by decide +kernel, rfl, by decide +kernel, by decide +kernel⟩
theorem ok_tupOf {f : Addr} {fd : FuncData} (F : Fun K "is_tuple_of" "is_tuple_of" sTupOf f fd) (G : Gs mg) : FnOk P w K mg base CX0 1 f fd ["thing", "many"] (spTupOf K) := by
  refine F.ok scTupOf (fun vs H Q E h => ?_) (fun cdv A outer s H vs Q E hr h => ?_)
  · obtain ⟨x, n, rfl, _⟩ := h
    rfl
  · obtain ⟨x, n, rfl, ⟨T, t⟩, q⟩ := h
    refine ⟨_, pss_one (ps_ret (pe_and (pe_callB (call_isinst (c := "tuple")) rfl G.isinstance boot_isinstance (pa_cons (pv 0) (pa_cons (pe_bltn (v := .ty "tuple") rfl G.tuple boot_tuple rfl) pa_nil)))
      (pe_one (pe_cmpR op_eq (pe_callB call_len_seq rfl G.len boot_len (pa_cons (pv 0) pa_nil)) (pv 1) (nomark _))))), ?_⟩
    refine ⟨x, rfl, x, _, _, rfl, t, kit_tuple t, _, rfl, ?_⟩
    cases e : tupOf H x with
    | none => rw [e] at q; exact iteF q
    | some xs =>
      rw [e] at q
      obtain ⟨a, rfl, ha⟩ := tupOf_some e
      refine iteT ⟨_, rfl, a, xs, rfl, .inr (SqT.of ha), _, rfl, rfl, ?_⟩
      have z : decide (V.int (xs.length : Int) = V.int n) = decide ((xs.length : Int) = n) := by simp
      rw [z]
      exact q
abbrev sBoard : Stmt := top 13
def isBoardL : Option (List V) → Bool
  | some [a, b] => wholeIn a 1 12 && wholeIn b 1 12
  | _ => false
def Pl1 (K : PySem.W.Frag) (H : Hp) (x : V) : Prop := PlT K H x ∧ ∀ xs, tupOf H x = some xs → ∀ y ∈ xs, PlT K H y
def spBoard (K : PySem.W.Frag) : Sp := fun vs H Q _ => ∃ x, vs = [x] ∧ Pl1 K H x ∧ ∀ H', Same H H' → Q (.bl (isBoardL (tupOf H x))) H'
theorem scBoard : FnScope ["thing"] ["thing"] (defScope sBoard) := ⟨rfl, rfl, rfl, by decide +kernel, rfl, by decide +kernel, by decide +kernel⟩
theorem ok_board {f : Addr} {fd : FuncData} (F : Fun K "is_board" "is_board" sBoard f fd) (G : Gs mg) (D1 : Def P w K mg base 1 "is_tuple_of" ["thing", "many"] (spTupOf K)) (D2 : Def P w K mg base 2 "is_whole_within" ["thing", "least", "most"] (spWithin K)) :
    FnOk P w K mg base CX0 3 f fd ["thing"] (spBoard K) := by
  obtain ⟨tk, hL⟩ := G.longest
  refine F.ok scBoard (fun vs H Q E h => ?_) (fun cdv A outer s H vs Q E hr h => ?_)
  · obtain ⟨x, rfl, _⟩ := h
    rfl
  · obtain ⟨x, rfl, ⟨t, hi⟩, q⟩ := h
    refine ⟨_, pss_one (ps_ret (pe_and (pe_callD D1 (hr.mono (by decide)) (pa_cons (pv 0) (pa_cons pe_int pa_nil)))
      (pe_one (pe_callB call_all rfl G.all boot_all (pa_cons (pe_comp ["side"] 1 [] (pi_tup (pv 0)) (fun C s H fp => pb 0) (fun C s H fp => pts_nil)
        (fun C s H fp D => pin_emit rfl (pe_callD D2 (hr.mono (by decide)) (pa_cons (pv 0) (pa_cons pe_int (pa_cons (pe_glob (v := .int 12) rfl hL ⟨_, rfl⟩) pa_nil)))))) pa_nil))))), ?_⟩
    refine ⟨x, rfl, x, 2, rfl, t, _, rfl, ?_⟩
    cases e : tupOf H x with
    | none => rw [e] at q; exact iteF (q H (Same.refl H))
    | some xs =>
      rw [e] at q
      obtain ⟨a, rfl, ha⟩ := tupOf_some e
      show if decide ((xs.length : Int) = 2) = true then _ else _
      by_cases h2 : xs.length = 2
      · rw [decide_eq_true (show (xs.length : Int) = 2 by omega)]
        refine iteT ⟨_, rfl, a, rfl, ⟨xs, SqT.of ha⟩, ?_⟩
        refine nest_tup (xs := xs) (fun i ys σ H2 => ys = (xs.take i).map (fun y => V.bl (wholeIn y 1 12)) ∧ H2 = H ∧ ∃ v, σ = [v]) ⟨rfl, rfl, none, rfl⟩ (fun i ys σ H2 _ ⟨_, e2, _⟩ => by rw [e2]; exact SqT.of ha) ?_ ?_
        · rintro i y ys σ H2 hy ⟨rfl, rfl, v, rfl⟩
          have my : y ∈ xs := List.mem_of_getElem? hy
          refine ⟨y, rfl, y, 1, 12, rfl, hi xs e y my, ?_, ?_⟩
          · rw [List.length_map, sizeLine_eq, List.length_take]; omega
          · refine ⟨?_, rfl, _, rfl⟩
            rw [List.take_add_one, hy, List.map_append]
            rfl
        · rintro ys σ H2 ⟨rfl, rfl, v, rfl⟩ p hp
          rw [List.take_length]
          refine ⟨p, xs.map (fun y => wholeIn y 1 12), rfl, ?_, ?_⟩
          · rw [List.map_map]; exact SqL.of upd_same
          · have e3 : isBoardL (some xs) = (xs.map (fun y => wholeIn y 1 12)).all id := by
              match xs, h2 with
              | [a, b], _ => simp [isBoardL]
            rw [← e3]
            exact q _ fun b o hb => by rw [upd_ne (ne_of_none hb hp)]; exact hb
      · rw [decide_eq_false (show ¬ (xs.length : Int) = 2 by omega)]
        have e3 : isBoardL (some xs) = false := by
          match xs, h2 with
          | [], _ => rfl
          | [a], _ => rfl
          | [a, b], h => exact absurd rfl h
          | a :: b :: c :: r, _ => rfl
        rw [e3] at q
        exact iteF (q H (Same.refl H))
abbrev sCell : Stmt := top 40
def spCell (K : PySem.W.Frag) : Sp := fun vs H Q _ => ∃ (a : Addr) (ns : List Int) (k : Nat), vs = [.ref a, .int k] ∧ SqL K H a (ns.map V.int) ∧ ∀ n : Int, Q (.int n) H
theorem scCell : FnScope ["_law_script", "_law_k"] ["_law_script", "_law_k"] (defScope sCell) := ⟨rfl, rfl, rfl, by decide +kernel, rfl, by decide +kernel, by decide +kernel⟩
theorem ok_cell {f : Addr} {fd : FuncData} (F : Fun K "_law_cell_at" "_law_cell_at" sCell f fd) (G : Gs mg) : FnOk P w K mg base CX0 1 f fd ["_law_script", "_law_k"] (spCell K) := by
  refine F.ok scCell (fun vs H Q E h => ?_) (fun cdv A outer s H vs Q E hr h => ?_)
  · obtain ⟨a, ns, k, rfl, _⟩ := h
    rfl
  · obtain ⟨a, ns, k, rfl, hs, q⟩ := h
    refine ⟨_, pss_cons (ps_if (pt_cmpR op_lt (pv 1) (pe_callB call_len_seq rfl G.len boot_len (pa_cons (pv 0) pa_nil)) (nomark _)) (pss_one (ps_ret (pe_ix ix_list (pv 0) (pv 1) (fun _ _ => rfl)))) pss_nil) (pss_one (ps_ret pe_int)), ?_⟩
    refine ⟨_, rfl, _, rfl, a, ns.map V.int, rfl, .inl hs, _, _, rfl, rfl, _, rfl, ?_⟩
    by_cases hk : k < ns.length
    · rw [decide_eq_true (by rw [List.length_map]; omega)]
      refine iteT ⟨_, rfl, _, rfl, a, ns.map V.int, k, V.int ns[k], rfl, rfl, hs, atI_nat ?_, q _⟩
      rw [List.getElem?_map, List.getElem?_eq_getElem hk]
      rfl
    · rw [decide_eq_false (by rw [List.length_map]; omega)]
      exact iteF (q 0)
def StAt (H : Hp) (p : Addr) : Prop := ∃ u v : Int, H p = some (.lst [.int u, .int v]) ∧ 0 ≤ u ∧ 0 ≤ v ∧ v < 2147483647
abbrev sState : Stmt := top 41
def spState (K : PySem.W.Frag) : Sp := fun vs H Q _ => ∃ (a : Addr) (ns : List Int) (k : Nat), vs = [.ref a, .int k] ∧ SqL K H a (ns.map V.int) ∧ ∀ p H', H p = none → Same H H' → StAt H' p → Q (.ref p) H'
theorem scState : FnScope ["_law_script", "_law_k", "_law_cell"] ["_law_script", "_law_k"] (defScope sState) := ⟨rfl, rfl, rfl, by decide +kernel, rfl, by decide +kernel, by decide +kernel⟩
theorem ok_state {f : Addr} {fd : FuncData} (F : Fun K "_law_state" "_law_state" sState f fd) (G : Gs mg) (D1 : Def P w K mg base 1 "_law_cell_at" ["_law_script", "_law_k"] (spCell K)) : FnOk P w K mg base CX0 2 f fd ["_law_script", "_law_k"] (spState K) := by
  refine F.ok scState (fun vs H Q E h => ?_) (fun cdv A outer s H vs Q E hr h => ?_)
  · obtain ⟨a, ns, k, rfl, _⟩ := h
    rfl
  · obtain ⟨a, ns, k, rfl, hs, q⟩ := h
    refine ⟨_, pss_cons (ps_set (i := 2) scState.nd rfl (Or.inl rfl) (pe_callD D1 hr (pa_cons (pv 0) (pa_cons (pv 1) pa_nil))))
      (pss_one (ps_ret (pe_lst (pa_cons (pe_callB (call_max2 rfl) rfl G.max boot_max (pa_cons pe_int (pa_cons (pe_op op_sub (pv 2) (pe_op op_pow pe_int pe_int)) pa_nil))) (pa_cons (pe_op op_mod (pv 2) pe_int) pa_nil))))), ?_⟩
    refine ⟨_, rfl, _, rfl, a, ns, k, rfl, hs, fun n => ?_⟩
    refine ⟨_, rfl, _, _, rfl, rfl, ⟨by decide, by decide, by decide⟩, _, _, rfl, rfl, _, _, rfl, ?_⟩
    refine ⟨_, rfl, _, _, rfl, rfl, (by show (0 : Int) < 2147483647; decide), (by show 2 ≤ sizeLine; decide), fun p hp => q p _ hp (fun b o hb => by rw [upd_ne (ne_of_none hb hp)]; exact hb) ?_⟩
    refine ⟨_, _, upd_same, ?_, Int.emod_nonneg _ (by decide), Int.emod_lt_of_pos _ (by decide)⟩
    split <;> omega
abbrev sTake : Stmt := top 42
def spTake : Sp := fun vs H Q _ => ∃ (p : Addr) (m : Int), vs = [.ref p, .int m] ∧ StAt H p ∧ 0 < m ∧ m < 1073741824 ∧ ∀ r o, 0 ≤ r → r < m → StAt (upd H p o) p → Q (.int r) (upd H p o)
theorem scTake : FnScope ["_law_state_here", "_law_many", "_law_found", "_law_mixed"] ["_law_state_here", "_law_many"] (defScope sTake) := ⟨rfl, rfl, rfl, by decide +kernel, rfl, by decide +kernel, by decide +kernel⟩
theorem at0 {x y : V} : atI [x, y] 0 = some x := rfl
theorem at1 {x y : V} : atI [x, y] 1 = some y := rfl
theorem ok_take {f : Addr} {fd : FuncData} (F : Fun K "_law_take" "_law_take" sTake f fd) : FnOk P w K mg base CX0 1 f fd ["_law_state_here", "_law_many"] spTake := by
  refine F.ok scTake (fun vs H Q E h => ?_) (fun cdv A outer s H vs Q E hr h => ?_)
  · obtain ⟨p, m, rfl, _⟩ := h
    rfl
  · obtain ⟨p, m, rfl, ⟨u, v, hp, hu, hv, hv2⟩, hm, hm2, q⟩ := h
    refine ⟨_, pss_cons (ps_if (pt_cmpR op_ge (pe_ix ix_list (pv 0) pe_int (fun _ _ => rfl)) (pv 1) (nomark _))
        (pss_cons (ps_set (i := 2) scTake.nd rfl (Or.inl rfl) (pe_op op_mod (pe_ix ix_list (pv 0) pe_int (fun _ _ => rfl)) (pv 1)))
        (pss_cons (ps_asg (pe_op op_fdiv (pe_ix ix_list (pv 0) pe_int (fun _ _ => rfl)) (pv 1)) (pg_sub (pv 0) pe_int set_list)) (pss_one (ps_ret (pv 2))))) pss_nil)
      (pss_cons (ps_asg (pe_op op_mod (pe_op op_add (pe_op op_mul (pe_ix ix_list (pv 0) pe_int (fun _ _ => rfl)) pe_int) pe_int) pe_int) (pg_sub (pv 0) pe_int set_list))
      (pss_cons (ps_set (i := 3) scTake.nd rfl (Or.inl rfl) (pe_op op_mod (pe_op op_add (pe_op op_add (pe_op op_mul (pe_ix ix_list (pv 0) pe_int (fun _ _ => rfl)) (pe_ix ix_list (pv 0) pe_int (fun _ _ => rfl))) (pe_op op_mul pe_int (pe_ix ix_list (pv 0) pe_int (fun _ _ => rfl)))) pe_int) pe_int))
      (pss_cons (ps_set (i := 3) scTake.nd rfl (Or.inl rfl) (pe_op op_mod (pe_op op_add (pe_op op_mul (pv 3) (pv 3)) (pe_op op_mul pe_int (pv 3))) pe_int))
      (pss_one (ps_ret (pe_op op_mod (pe_op op_fdiv (pv 3) pe_int) (pv 1))))))), ?_⟩
    have s0 := SqL.of (K := K) hp
    refine ⟨_, rfl, p, _, _, _, rfl, rfl, s0, at0, _, rfl, _, _, rfl, rfl, _, rfl, ?_⟩
    by_cases h0 : m ≤ u
    · rw [decide_eq_true h0]
      refine iteT ?_
      refine ⟨_, rfl, p, _, _, _, rfl, rfl, s0, at0, _, rfl, _, _, rfl, rfl, hm, ?_⟩
      refine ⟨_, rfl, p, _, _, _, rfl, rfl, s0, at0, _, rfl, _, _, rfl, rfl, ⟨hm, by omega⟩, ?_⟩
      refine ⟨_, rfl, p, _, 0, 0, rfl, rfl, hp, rfl, ?_⟩
      refine ⟨_, rfl, q _ _ (Int.emod_nonneg _ (by omega)) (Int.emod_lt_of_pos _ hm) ?_⟩
      exact ⟨u / m, v, upd_same, Int.ediv_nonneg hu (by omega), hv, hv2⟩
    · rw [decide_eq_false h0]
      refine iteF ?_
      refine ⟨_, rfl, p, _, _, _, rfl, rfl, s0, at1, _, _, rfl, rfl, .inr ⟨by decide, by decide⟩, _, _, rfl, rfl, _, _, rfl, rfl, (by show (0 : Int) < 2147483647; decide), ?_⟩
      refine ⟨_, rfl, p, _, 1, 1, rfl, rfl, hp, rfl, ?_⟩
      have b1 : 0 ≤ ((v * 48271 + 29) % 2147483647) := Int.emod_nonneg _ (by decide)
      have b2 : ((v * 48271 + 29) % 2147483647) < 2147483647 := Int.emod_lt_of_pos _ (by decide)
      have s1 : SqL K (upd H p (.lst (([V.int u, V.int v] : List V).set 1 (V.int ((v * 48271 + 29) % 2147483647))))) p [.int u, .int ((v * 48271 + 29) % 2147483647)] := SqL.of upd_same
      have lo : ∀ {t : Int}, 0 ≤ t → -(2 ^ 64) < t := fun h => Int.lt_of_lt_of_le (by decide) h
      have hi : ∀ {t : Int}, t < 2147483647 → t < 2 ^ 64 := fun h => Int.lt_trans h (by decide)
      refine ⟨_, rfl, p, _, _, _, rfl, rfl, s1, at1, _, rfl, p, _, _, _, rfl, rfl, s1, at1, _, _, rfl, rfl, .inl ⟨lo b1, hi b2⟩, ?_⟩
      refine ⟨_, rfl, p, _, _, _, rfl, rfl, s1, at1, _, _, rfl, rfl, .inl ⟨by decide, by decide⟩, _, _, rfl, rfl, _, _, rfl, rfl, _, _, rfl, rfl, (by show (0 : Int) < 2147483629; decide), ?_⟩
      have c1 : 0 ≤ ((((v * 48271 + 29) % 2147483647) * ((v * 48271 + 29) % 2147483647) + 39373 * ((v * 48271 + 29) % 2147483647) + 7) % 2147483629) := Int.emod_nonneg _ (by decide)
      have c2 : ((((v * 48271 + 29) % 2147483647) * ((v * 48271 + 29) % 2147483647) + 39373 * ((v * 48271 + 29) % 2147483647) + 7) % 2147483629) < 2147483647 := Int.lt_trans (Int.emod_lt_of_pos _ (by decide)) (by decide)
      refine ⟨_, rfl, _, rfl, _, _, rfl, rfl, .inl ⟨lo c1, hi c2⟩, _, rfl, _, _, rfl, rfl, .inl ⟨by decide, by decide⟩, _, _, rfl, rfl, _, _, rfl, rfl, (by show (0 : Int) < 2147483587; decide), ?_⟩
      refine ⟨_, rfl, _, _, rfl, rfl, ⟨by decide, by decide⟩, _, rfl, _, _, rfl, rfl, hm, ?_⟩
      refine q _ _ (Int.emod_nonneg _ (by omega)) (Int.emod_lt_of_pos _ hm) ?_
      exact ⟨u, _, upd_same, hu, b1, b2⟩
end
end U
-- part Xk11b
set_option Elab.async false
set_option linter.all false
set_option maxRecDepth 100000
set_option maxHeartbeats 40000000
namespace U
open PySem L2 PyProof.Rows
section
theorem firstMet_nodup (val : Nat → Int) : ∀ n, ((PyProof.Rows.firstMet val n).length = n ↔ ((List.range n).map val).Nodup)
  | 0 => by simp [PyProof.Rows.firstMet_zero]
  | n + 1 => by
    have ih := firstMet_nodup val n
    have le := PyProof.Rows.firstMet_length_le val n
    rw [PyProof.Rows.firstMet_succ, PyProof.Rows.step_length, PyProof.Rows.firstMet_any, List.range_succ, List.map_append]
    have e : (((List.range n).map val).any (· == val n)) = true ↔ val n ∈ (List.range n).map val := by
      rw [List.any_eq_true]
      constructor
      · rintro ⟨x, hx, q⟩
        have : x = val n := by simpa using q
        rw [← this]; exact hx
      · intro h; exact ⟨_, h, by simp⟩
    have nd : ((List.range n).map val ++ List.map val [n]).Nodup ↔ ((List.range n).map val).Nodup ∧ ¬ val n ∈ (List.range n).map val := by
      rw [List.nodup_append]
      constructor
      · rintro ⟨h1, _, h3⟩
        exact ⟨h1, fun m => h3 _ m (val n) (by simp) rfl⟩
      · rintro ⟨h1, h2⟩
        refine ⟨h1, by simp, fun a ha b hb q => h2 ?_⟩
        have hb' : b = val n := by simpa using hb
        rw [← hb', ← q]; exact ha
    rw [nd, ← ih]
    by_cases m : val n ∈ (List.range n).map val
    · rw [if_pos (e.mpr m)]
      constructor
      · intro h; omega
      · rintro ⟨_, h⟩; exact absurd m h
    · rw [if_neg (fun z => m (e.mp z))]
      constructor
      · intro h; exact ⟨by omega, m⟩
      · rintro ⟨h, _⟩; omega
theorem setN_nodup (ns : List Int) : setN ns = ns.length ↔ ns.Nodup := by
  unfold setN
  rw [firstMet_nodup]
  have e : (List.range ns.length).map (fun i => ns.getD i 0) = ns := by
    refine List.ext_getElem (by simp) fun i h1 h2 => ?_
    rw [List.getElem_map, List.getElem_range, List.getD_eq_getElem?_getD, List.getElem?_eq_getElem h2, Option.getD_some]
  rw [e]
def rowsOf (xs : List V) : List V := xs.filter fun x => !decide (x = .non)
def isLayV (wd hg : Int) : Option (List V) → Bool
  | some xs => decide ((xs.length : Int) = wd) && ((rowsOf xs).all fun r => wholeIn r 0 (hg - 1)) && decide (rowsOf xs).Nodup
  | none => false
def BoardAt (H : Hp) (x : V) (wd hg : Int) : Prop := tupOf H x = some [.int wd, .int hg] ∧ 1 ≤ wd ∧ wd ≤ 12 ∧ 1 ≤ hg ∧ hg ≤ 12
theorem BoardAt.same {H H' : Hp} {x : V} {wd hg : Int} (b : BoardAt H x wd hg) (s : Same H H') : BoardAt H' x wd hg := ⟨s.tupOf b.1, b.2⟩
theorem BoardAt.is {H : Hp} {x : V} {wd hg : Int} (b : BoardAt H x wd hg) : isBoardL (tupOf H x) = true := by
  obtain ⟨h, h1, h2, h3, h4⟩ := b
  rw [h]
  show (decide (1 ≤ wd) && decide (wd ≤ 12) && (decide (1 ≤ hg) && decide (hg ≤ 12))) = true
  simp [h1, h2, h3, h4]
theorem BoardAt.pl {K : PySem.W.Frag} {H : Hp} {x : V} {wd hg : Int} (b : BoardAt H x wd hg) : Pl1 K H x := by
  obtain ⟨a, rfl, ha⟩ := tupOf_some b.1
  refine ⟨⟨_, .tup ha⟩, fun xs e y hy => ?_⟩
  rw [b.1] at e
  cases e
  rcases List.mem_cons.mp hy with z | hy
  · rw [z]; exact ⟨_, .int wd⟩
  · rw [List.mem_singleton.mp hy]; exact ⟨_, .int hg⟩
theorem ints_of_all {xs : List V} {lo hi : Int} (h : (xs.all fun r => wholeIn r lo hi) = true) : ∃ ns : List Int, xs = ns.map V.int := by
  induction xs with
  | nil => exact ⟨[], rfl⟩
  | cons x xs ih =>
    rw [List.all_cons, Bool.and_eq_true] at h
    obtain ⟨ns, e⟩ := ih h.2
    cases x with
    | int i => exact ⟨i :: ns, by rw [e]; rfl⟩
    | _ => cases h.1
theorem nodup_int (ns : List Int) : (ns.map V.int).Nodup ↔ ns.Nodup := by
  induction ns with
  | nil => simp
  | cons n ns ih => rw [List.map_cons, List.nodup_cons, List.nodup_cons, ih]; simp
end
end U
namespace U
open PySem L2 PyProof.Rows
section
variable {P : Program} {w : World} {K : PySem.W.Frag} {mg : Str → Option Value} {base : Heap}
abbrev sNeedBoard : Stmt := top 14
def spNeedBoard (K : PySem.W.Frag) : Sp := fun vs H Q _ => ∃ x wd hg, vs = [x] ∧ BoardAt H x wd hg ∧ ∀ H', Same H H' → Q .non H'
theorem scNeedBoard : FnScope ["board"] ["board"] (defScope sNeedBoard) := ⟨rfl, rfl, rfl, by decide +kernel, rfl, by decide +kernel, by decide +kernel⟩
theorem ok_needBoard {f : Addr} {fd : FuncData} (F : Fun K "need_board" "need_board" sNeedBoard f fd) (D1 : Def P w K mg base 3 "is_board" ["thing"] (spBoard K)) : FnOk P w K mg base CX0 4 f fd ["board"] (spNeedBoard K) := by
  refine F.ok scNeedBoard (fun vs H Q E h => ?_) (fun cdv A outer s H vs Q E hr h => ?_)
  · obtain ⟨x, wd, hg, rfl, _⟩ := h
    rfl
  · obtain ⟨x, wd, hg, rfl, b, q⟩ := h
    refine ⟨_, pss_one (ps_if (pt_not (pt_val (pe_callD D1 hr (pa_cons (pv 0) pa_nil)))) pss_never pss_nil), ?_⟩
    refine ⟨x, rfl, x, rfl, b.pl, fun H' sm => ⟨_, rfl, ?_⟩⟩
    rw [b.is]
    exact iteF (q H' sm)
abbrev sLay : Stmt := top 16
def spLay (K : PySem.W.Frag) : Sp := fun vs H Q _ => ∃ x y wd hg, vs = [x, y] ∧ BoardAt H x wd hg ∧ Pl1 K H y ∧ ∀ H', Same H H' → Q (.bl (isLayV wd hg (tupOf H y))) H'
theorem scLay : FnScope ["board", "thing", "wide", "high", "rows"] ["board", "thing"] (defScope sLay) := ⟨rfl, rfl, rfl, by decide +kernel, rfl, by decide +kernel, by decide +kernel⟩
theorem ok_lay {f : Addr} {fd : FuncData} (F : Fun K "is_lay" "is_lay" sLay f fd) (G : Gs mg) (D1 : Def P w K mg base 4 "need_board" ["board"] (spNeedBoard K)) (D2 : Def P w K mg base 1 "is_tuple_of" ["thing", "many"] (spTupOf K))
    (D3 : Def P w K mg base 2 "is_whole_within" ["thing", "least", "most"] (spWithin K)) : FnOk P w K mg base CX0 5 f fd ["board", "thing"] (spLay K) := by
  refine F.ok scLay (fun vs H Q E h => ?_) (fun cdv A outer s H vs Q E hr h => ?_)
  · obtain ⟨x, y, wd, hg, rfl, _⟩ := h
    rfl
  · obtain ⟨x, y, wd, hg, rfl, b, ⟨ty, hy⟩, q⟩ := h
    refine ⟨_, pss_cons (ps_expr (pe_callD D1 hr (pa_cons (pv 0) pa_nil)))
      (pss_cons (ps_asg (pv 0) (pg_tup rfl (pgs_cons (pg_name (i := 2) scLay.nd rfl (Or.inl rfl)) (pgs_cons (pg_name (i := 3) scLay.nd rfl (Or.inr rfl)) pgs_nil))))
      (pss_cons (ps_if (pt_not (pt_val (pe_callD D2 (hr.mono (by decide)) (pa_cons (pv 1) (pa_cons (pv 2) pa_nil))))) (pss_one (ps_ret pe_bl)) pss_nil)
      (pss_cons (ps_setC ["row"] 1 [] (i := 4) scLay.nd rfl (Or.inl rfl) (pi_tup (pv 1)) (fun C s H fp => pb 0) (fun C s H fp => pts_one (pt_cmp (pc_notN (pv 0)))) (fun C s H fp D => pin_emit rfl (pv 0)))
      (pss_one (ps_ret (pe_and (pe_callB call_all rfl G.all boot_all (pa_cons (pe_comp ["row", "high"] 1 [3] (pi_list (pv 4)) (fun C s H fp => pb 0) (fun C s H fp => pts_nil)
          (fun C s H fp D => pin_emit rfl (pe_callD D3 (hr.mono (by decide)) (pa_cons (pv 0) (pa_cons pe_int (pa_cons (pe_op op_sub (pv 1) pe_int) pa_nil)))))) pa_nil))
        (pe_one (pe_cmpR op_eq (pe_callB call_len_setN rfl G.len boot_len (pa_cons (pe_callTy call_set_ints rfl G.set boot_set (pa_cons (pv 4) pa_nil)) pa_nil)) (pe_callB call_len_seq rfl G.len boot_len (pa_cons (pv 4) pa_nil)) (nomark _))))))))), ?_⟩
    refine ⟨x, rfl, x, wd, hg, rfl, b, fun H1 s1 => ?_⟩
    have b1 := b.same s1
    obtain ⟨a, rfl, ha⟩ := tupOf_some b1.1
    refine ⟨_, rfl, a, _, rfl, SqT.of ha, rfl, _, _, rfl, _, _, rfl, rfl, ?_⟩
    refine ⟨y, rfl, _, rfl, y, wd, rfl, s1.plT ty, _, rfl, ?_⟩
    cases e : tupOf H y with
    | none =>
      have e1 : tupOf H1 y = none := by
        obtain ⟨T, t⟩ := ty
        cases t with
        | tup e2 => rw [tupOf_ref e2] at e; cases e
        | lst e2 => rw [tupOf_r, s1 _ _ e2]; rfl
        | frz e2 => rw [tupOf_r, s1 _ _ e2]; rfl
        | dK e2 => rw [tupOf_r, s1 _ _ e2]; rfl
        | dT e2 => rw [tupOf_r, s1 _ _ e2]; rfl
        | _ => rfl
      rw [e1]
      rw [e] at q
      exact iteT (q H1 s1)
    | some xs =>
      have e1 := s1.tupOf e
      rw [e1]
      rw [e] at q
      obtain ⟨l, rfl, hl⟩ := tupOf_some e1
      by_cases hw : (xs.length : Int) = wd
      · refine (show if (!decide ((xs.length : Int) = wd)) = true then _ else _ from ?_)
        rw [decide_eq_true hw]
        refine iteF ?_
        have hwd := b.2.2.1
        have hlen : xs.length ≤ 12 := by omega
        refine ⟨_, rfl, l, rfl, ⟨xs, SqT.of hl⟩, ?_⟩
        refine nest_tup (xs := xs) (fun i ys σ H2 => ys = rowsOf (xs.take i) ∧ H2 = H1 ∧ ∃ v, σ = [v]) ⟨rfl, rfl, none, rfl⟩ (fun i ys σ H2 _ ⟨_, e2, _⟩ => by rw [e2]; exact SqT.of hl) ?_ ?_
        · rintro i r ys σ H2 hr' ⟨rfl, rfl, v, rfl⟩
          have et : rowsOf (xs.take (i + 1)) = rowsOf (xs.take i) ++ (if (!decide (r = V.non)) = true then [r] else []) := by
            unfold rowsOf
            rw [List.take_add_one, hr', List.filter_append]
            cases hh : (!decide (r = V.non)) with
            | true => simp [hh]
            | false => simp [hh]
          refine ⟨r, rfl, _, rfl, ?_⟩
          cases hh : (!decide (r = V.non)) with
          | true =>
            rw [hh] at et
            refine iteT ?_
            refine ⟨r, rfl, ?_, ?_⟩
            · have := List.length_filter_le (fun x => !decide (x = V.non)) (xs.take i)
              unfold rowsOf
              rw [sizeLine_eq]
              rw [List.length_take] at this
              omega
            · exact ⟨by rw [et, if_pos rfl], rfl, _, rfl⟩
          | false =>
            rw [hh] at et
            exact iteF ⟨by rw [et, if_neg Bool.false_ne_true, List.append_nil], rfl, _, rfl⟩
        · rintro ys σ H2 ⟨rfl, rfl, v, rfl⟩ p hp
          rw [List.take_length]
          have hrl : (rowsOf xs).length ≤ 12 := Nat.le_trans (List.length_filter_le _ _) hlen
          have s2 : Same H2 (upd H2 p (.lst (rowsOf xs))) := fun b o hb => by rw [upd_ne (ne_of_none hb hp)]; exact hb
          -- all([..]) and ..
          refine ⟨_, rfl, p, rfl, ⟨rowsOf xs, SqL.of upd_same⟩, ?_⟩
          generalize hH3 : upd H2 p (HO.lst (rowsOf xs)) = H3 at s2
          have hp3 : H3 p = some (.lst (rowsOf xs)) := by rw [← hH3]; exact upd_same
          refine nest_list (xs := rowsOf xs) (fun i ys σ H4 => ys = ((rowsOf xs).take i).map (fun r => V.bl (wholeIn r 0 (hg - 1))) ∧ H4 = H3 ∧ ∃ v, σ = [v, some (.int hg)]) ⟨rfl, rfl, none, rfl⟩ (fun i ys σ H4 _ ⟨_, e2, _⟩ => by rw [e2]; exact SqL.of hp3) ?_ ?_
          · rintro i r ys σ H4 hr' ⟨rfl, rfl, v, rfl⟩
            have mr : r ∈ xs := (List.mem_filter.mp (List.mem_of_getElem? hr')).1
            refine ⟨r, rfl, _, rfl, _, _, rfl, rfl, r, 0, hg - 1, rfl, (s1.trans s2).plT (hy xs e r mr), ?_, ?_⟩
            · rw [List.length_map, sizeLine_eq, List.length_take]; omega
            · refine ⟨?_, rfl, _, rfl⟩
              rw [List.take_add_one, hr', List.map_append]
              rfl
          · rintro ys σ H4 ⟨rfl, rfl, v, rfl⟩ p' hp'
            rw [List.take_length]
            have s3 : ∀ o, Same H4 (upd H4 p' o) := fun o b u hb => by rw [upd_ne (ne_of_none hb hp')]; exact hb
            refine ⟨p', (rowsOf xs).map (fun r => wholeIn r 0 (hg - 1)), rfl, ?_, ?_⟩
            · rw [List.map_map]; exact SqL.of upd_same
            · have eall : ((rowsOf xs).map (fun r => wholeIn r 0 (hg - 1))).all id = (rowsOf xs).all fun r => wholeIn r 0 (hg - 1) := by rw [List.all_map]; rfl
              rw [eall]
              have elay : isLayV wd hg (some xs) = (((rowsOf xs).all fun r => wholeIn r 0 (hg - 1)) && decide (rowsOf xs).Nodup) := by
                show (decide ((xs.length : Int) = wd) && _ && _) = _
                rw [decide_eq_true hw, Bool.true_and]
              rw [elay] at q
              refine ⟨_, rfl, ?_⟩
              cases hall : ((rowsOf xs).all fun r => wholeIn r 0 (hg - 1)) with
              | false =>
                rw [hall] at q
                exact iteF (q _ (s1.trans (s2.trans (s3 _))))
              | true =>
                rw [hall, Bool.true_and] at q
                obtain ⟨ns, en⟩ := ints_of_all hall
                have hpl : (upd H4 p' (.lst (((rowsOf xs).map (fun r => V.bl (wholeIn r 0 (hg - 1))))))) p = some (.lst (rowsOf xs)) := s3 _ _ _ hp3
                refine iteT ?_
                have hnl : ns.length = (rowsOf xs).length := by rw [en, List.length_map]
                refine ⟨_, rfl, p, ns, rfl, by rw [← en]; exact SqL.of hpl, by omega, fun q2 S hq2 => ⟨q2, S, setN ns, rfl, upd_same, _, rfl, p, rowsOf xs, rfl, .inl (SqL.of ?_), rfl, ?_⟩⟩
                · rw [upd_ne (ne_of_none hpl hq2)]; exact hpl
                · have ed : decide (V.int (setN ns : Int) = V.int ((rowsOf xs).length : Int)) = decide (rowsOf xs).Nodup := by
                    rw [decide_eq_decide]
                    rw [en, nodup_int, ← setN_nodup, List.length_map]
                    constructor
                    · intro h; injection h with h; omega
                    · intro h; rw [h]
                  rw [ed]
                  exact q _ (s1.trans (s2.trans ((s3 _).trans fun b o hb => by rw [upd_ne (ne_of_none hb hq2)]; exact hb)))
      · refine (show if (!decide ((xs.length : Int) = wd)) = true then _ else _ from ?_)
        rw [decide_eq_false hw]
        have e3 : isLayV wd hg (some xs) = false := by
          show (decide ((xs.length : Int) = wd) && _ && _) = false
          rw [decide_eq_false hw, Bool.false_and, Bool.false_and]
        rw [e3] at q
        exact iteT (q H1 s1)
end
end U
-- part Xk11c
set_option Elab.async false
set_option linter.all false
set_option maxRecDepth 100000
set_option maxHeartbeats 40000000
namespace U
open PySem L2 PyProof.Rows
section
end
end U
-- part Xk11e
set_option Elab.async false
set_option linter.all false
set_option maxRecDepth 100000
set_option maxHeartbeats 40000000
namespace U
open PySem L2 PyProof.Rows
section
theorem StAt.same {H H' : Hp} {p : Addr} (h : StAt H p) (s : Same H H') : StAt H' p := by
  obtain ⟨u, v, e, r⟩ := h
  exact ⟨u, v, s _ _ e, r⟩
end
end U
-- part Xk11u
set_option Elab.async false
set_option linter.all false
set_option maxRecDepth 100000
set_option maxHeartbeats 40000000
namespace U
open PySem L2 PyProof.Rows
section
end
end U
-- part Xk11k
set_option Elab.async false
set_option linter.all false
set_option maxRecDepth 100000
set_option maxHeartbeats 40000000
namespace U
open PySem L2 PyProof.Rows
section
end
end U
-- part Xk9c
set_option Elab.async false
set_option linter.all false
set_option maxRecDepth 100000
set_option maxHeartbeats 40000000
namespace U
open PySem L2 PyProof.Rows
section
variable {P : Program} {w : World} {K : PySem.W.Frag} {mg : Str → Option Value} {base : Heap} {cB cL : Addr}
abbrev sNWW : Stmt := top 11
def spNWW (K : PySem.W.Frag) : Sp := fun vs H Q _ => ∃ x a b, vs = [x, .int a, .int b] ∧ PlT K H x ∧ wholeIn x a b = true ∧ Q .non H
theorem scNWW : FnScope ["number", "least", "most"] ["number", "least", "most"] (defScope sNWW) := ⟨rfl, rfl, rfl, by decide +kernel, rfl, by decide +kernel, by decide +kernel⟩
theorem ok_nww {f : Addr} {fd : FuncData} (F : Fun K "need_whole_within" "need_whole_within" sNWW f fd) (D1 : Def P w K mg base 2 "is_whole_within" ["thing", "least", "most"] (spWithin K)) : FnOk P w K mg base CX0 3 f fd ["number", "least", "most"] (spNWW K) := by
  refine F.ok scNWW (fun vs H Q E h => ?_) (fun cdv A outer s H vs Q E hr h => ?_)
  · obtain ⟨x, a, b, rfl, _⟩ := h
    rfl
  · obtain ⟨x, a, b, rfl, t, hw, q⟩ := h
    refine ⟨_, pss_one (ps_if (pt_not (pt_val (pe_callD D1 hr (pa_cons (pv 0) (pa_cons (pv 1) (pa_cons (pv 2) pa_nil)))))) pss_never pss_nil), ?_⟩
    refine ⟨x, rfl, _, rfl, _, rfl, x, a, b, rfl, t, _, rfl, ?_⟩
    rw [hw]
    exact iteF q
end
end U
-- part Xvk13d
set_option Elab.async false
set_option linter.all false
set_option maxRecDepth 100000
set_option maxHeartbeats 40000000
namespace U.S
open PySem L2 PyProof.Rows
section
variable {P : Program} {w : World} {K : PySem.W.Frag} {mg : Str → Option Value} {base : Heap}
structure IsLay (wd hg : Int) (xs : List V) : Prop where
  len : (xs.length : Int) = wd
  row : ∀ r ∈ rowsOf xs, wholeIn r 0 (hg - 1) = true
  nd : (rowsOf xs).Nodup
theorem IsLay.is {wd hg : Int} {xs : List V} (h : IsLay wd hg xs) : isLayV wd hg (some xs) = true := by
  show (decide ((xs.length : Int) = wd) && ((rowsOf xs).all fun r => wholeIn r 0 (hg - 1)) && decide (rowsOf xs).Nodup) = true
  rw [decide_eq_true h.len, decide_eq_true h.nd, List.all_eq_true.mpr h.row]
  rfl
end
end U.S
-- part Xvk13e
set_option Elab.async false
set_option linter.all false
set_option maxRecDepth 100000
set_option maxHeartbeats 40000000
namespace U.S
open PySem L2 PyProof.Rows
section
def rowV : V → Option Int
  | .int r => some r
  | _ => none
def rowAt (xs : List V) (i : Nat) : Option Int := xs[i]?.bind rowV
abbrev Step4 := Int × Int × Int × Int
def stepOf (xs : List V) (o l : Nat) : Option Step4 := (rowAt xs l).bind fun a => (rowAt xs o).map fun b => ((o : Int) - l, b - a, (l : Int), (o : Int))
def stepsTo (xs : List V) (o j : Nat) : List Step4 := (List.range j).filterMap (stepOf xs o)
def lawSteps (xs : List V) (n : Nat) : List Step4 := (List.range n).flatMap fun o => stepsTo xs o o
def StepAt (H : Hp) (v : V) (q : Step4) : Prop := ∃ t t' : Addr, v = .ref t ∧ H t = some (.tup [.ref t', .int q.2.2.1, .int q.2.2.2]) ∧ H t' = some (.tup [.int q.1, .int q.2.1])
def RowsOk (xs : List V) : Prop := ∀ x ∈ xs, x = .non ∨ ∃ i, x = .int i
theorem IsLay.ok {wd hg : Int} {xs : List V} (h : IsLay wd hg xs) : RowsOk xs := fun x hx => by
  by_cases e : x = .non
  · exact .inl e
  · have m : x ∈ rowsOf xs := List.mem_filter.mpr ⟨hx, by simp [e]⟩
    have q := h.row x m
    cases x with
    | int i => exact .inr ⟨i, rfl⟩
    | _ => cases q
end
end U.S
-- part Xvk13f
set_option Elab.async false
set_option linter.all false
set_option maxRecDepth 100000
set_option maxHeartbeats 40000000
namespace U.S
open PySem L2 PyProof.Rows
section
variable {P : Program} {w : World} {K : PySem.W.Frag} {mg : Str → Option Value} {base : Heap}
theorem Paired.at {α β : Type} {F : α → β → Prop} : ∀ {l₁ : List α} {l₂ : List β} {i : Nat} {a : α}, Paired F l₁ l₂ → l₁[i]? = some a → ∃ b, l₂[i]? = some b ∧ F a b
  | _, _, _, _, .nil, e => by simp at e
  | _, _, 0, _, .cons r _, e => by simp at e; subst e; exact ⟨_, rfl, r⟩
  | _, _, i + 1, a, .cons _ t, e => by
    obtain ⟨u, h1, h2⟩ := Paired.at (i := i) (a := a) t (by simpa using e)
    exact ⟨u, by simpa using h1, h2⟩
end
end U.S
-- part Xvk13g
set_option Elab.async false
set_option linter.all false
set_option maxRecDepth 100000
set_option maxHeartbeats 40000000
namespace U.S
open PySem L2 PyProof.Rows
section
def rCat0 (K : PySem.W.Frag) : R2 := fun x y H Q => ∃ a b ys, x = .ref a ∧ y = .ref b ∧ SqT K H a [] ∧ SqT K H b ys ∧ Q (.ref b) H
def rCatA (K : PySem.W.Frag) : R2 := fun x y H Q => rCat0 K x y H Q ∨ rCatT K x y H Q
theorem op_catA {X : Cx} : OpR X (binaryOp .Add) (rCatA X.K) := op_catT0.or op_catT
end
end U.S
-- part Xvk13h
set_option Elab.async false
set_option linter.all false
set_option maxRecDepth 100000
set_option maxHeartbeats 40000000
namespace U.S
open PySem L2 PyProof.Rows
section
def pointsL (xs : List V) : List (Int × Int) := (List.range xs.length).filterMap fun l => (rowAt xs l).map fun r => ((l : Int), r)
def PtAt (H : Hp) (v : V) (q : Int × Int) : Prop := ∃ t : Addr, v = .ref t ∧ H t = some (.tup [.int q.1, .int q.2])
def QdAt (H : Hp) (v : V) (q : Step4) : Prop := ∃ t : Addr, v = .ref t ∧ H t = some (.tup [.int q.1, .int q.2.1, .int q.2.2.1, .int q.2.2.2])
theorem PtAt.same {H H' : Hp} {v : V} {q : Int × Int} (h : PtAt H v q) (s : Same H H') : PtAt H' v q := by
  obtain ⟨t, e, h1⟩ := h
  exact ⟨t, e, s _ _ h1⟩
theorem QdAt.same {H H' : Hp} {v : V} {q : Step4} (h : QdAt H v q) (s : Same H H') : QdAt H' v q := by
  obtain ⟨t, e, h1⟩ := h
  exact ⟨t, e, s _ _ h1⟩
def pairsOf (ps : List (Int × Int)) (a : Int × Int) (j : Nat) : List Step4 := ((ps.take j).filter fun b => decide (a.1 < b.1)).map fun b => (a.1, a.2, b.1, b.2)
def pairsTo (ps : List (Int × Int)) (i : Nat) : List Step4 := (ps.take i).flatMap fun a => pairsOf ps a ps.length
def pairsL (ps : List (Int × Int)) : List Step4 := pairsTo ps ps.length
theorem pairsOf_succ {ps : List (Int × Int)} {a b : Int × Int} {j : Nat} (h : ps[j]? = some b) : pairsOf ps a (j + 1) = pairsOf ps a j ++ (if decide (a.1 < b.1) = true then [(a.1, a.2, b.1, b.2)] else []) := by
  unfold pairsOf
  rw [List.take_add_one, h, List.filter_append, List.map_append]
  cases hh : decide (a.1 < b.1) <;> simp_all
theorem pairsTo_succ {ps : List (Int × Int)} {a : Int × Int} {i : Nat} (h : ps[i]? = some a) : pairsTo ps (i + 1) = pairsTo ps i ++ pairsOf ps a ps.length := by
  unfold pairsTo
  rw [List.take_add_one, h, List.flatMap_append]
  simp
end
end U.S
namespace U.S
open PySem L2 PyProof.Rows
section
variable {P : Program} {w : World} {K : PySem.W.Frag} {mg : Str → Option Value} {base : Heap}
abbrev sNeedLay : Stmt := top 17
def LayAt (H : Hp) (x y : V) (wd hg : Int) (xs : List V) : Prop := BoardAt H x wd hg ∧ tupOf H y = some xs ∧ IsLay wd hg xs
theorem LayAt.same {H H' : Hp} {x y : V} {wd hg : Int} {xs : List V} (h : LayAt H x y wd hg xs) (s : Same H H') : LayAt H' x y wd hg xs := ⟨h.1.same s, s.tupOf h.2.1, h.2.2⟩
theorem LayAt.pl {H : Hp} {x y : V} {wd hg : Int} {xs : List V} (h : LayAt H x y wd hg xs) : Pl1 K H y := by
  obtain ⟨a, rfl, ha⟩ := tupOf_some h.2.1
  refine ⟨⟨_, .tup ha⟩, fun zs e z hz => ?_⟩
  rw [h.2.1] at e
  cases e
  rcases h.2.2.ok z hz with rfl | ⟨i, rfl⟩
  · exact ⟨_, .non⟩
  · exact ⟨_, .int i⟩
def spNeedLay : Sp := fun vs H Q _ => ∃ x y wd hg xs, vs = [x, y] ∧ LayAt H x y wd hg xs ∧ ∀ H', Same H H' → Q .non H'
theorem scNeedLay : FnScope ["board", "lay"] ["board", "lay"] (defScope sNeedLay) := ⟨rfl, rfl, rfl, by decide +kernel, rfl, by decide +kernel, by decide +kernel⟩
theorem ok_needLay {f : Addr} {fd : FuncData} (F : Fun K "need_lay" "need_lay" sNeedLay f fd) (D1 : Def P w K mg base 5 "is_lay" ["board", "thing"] (spLay K)) : FnOk P w K mg base CX0 6 f fd ["board", "lay"] spNeedLay := by
  refine F.ok scNeedLay (fun vs H Q E h => ?_) (fun cdv A outer s H vs Q E hr h => ?_)
  · obtain ⟨x, y, wd, hg, xs, rfl, _⟩ := h
    rfl
  · obtain ⟨x, y, wd, hg, xs, rfl, l, q⟩ := h
    refine ⟨_, pss_one (ps_if (pt_not (pt_val (pe_callD D1 hr (pa_cons (pv 0) (pa_cons (pv 1) pa_nil))))) pss_never pss_nil), ?_⟩
    refine ⟨x, rfl, y, rfl, x, y, wd, hg, rfl, l.1, l.pl, fun H' sm => ⟨_, rfl, ?_⟩⟩
    rw [l.2.1, l.2.2.is]
    exact iteF (q H' sm)
def spPoints : Sp := fun vs H Q _ => ∃ x y wd hg xs, vs = [x, y] ∧ LayAt H x y wd hg xs ∧ ∀ (l : Addr) (H' : Hp) (ps : List V), Same H H' → H l = none → H' l = some (.lst ps) → Paired (PtAt H') ps (pointsL xs) → Q (.ref l) H'
abbrev sPairs : Stmt := top 21
def spPairs : Sp := fun vs H Q _ => ∃ x y wd hg xs, vs = [x, y] ∧ LayAt H x y wd hg xs ∧ ∀ (l : Addr) (H' : Hp) (ps : List V), Same H H' → H l = none → H' l = some (.lst ps) → Paired (QdAt H') ps (pairsL (pointsL xs)) → Q (.ref l) H'
theorem scPairs : FnScope ["board", "lay", "found"] ["board", "lay"] (defScope sPairs) := ⟨rfl, rfl, rfl, by decide +kernel, rfl, by decide +kernel, by decide +kernel⟩
theorem ok_pairs {f : Addr} {fd : FuncData} (F : Fun K "point_pairs" "point_pairs" sPairs f fd) (D1 : Def P w K mg base 7 "points" ["board", "lay"] spPoints) : FnOk P w K mg base CX0 8 f fd ["board", "lay"] spPairs := by
  refine F.ok scPairs (fun vs H Q E h => ?_) (fun cdv A outer s H vs Q E hr h => ?_)
  · obtain ⟨x, y, wd, hg, xs, rfl, _⟩ := h
    rfl
  · obtain ⟨x, y, wd, hg, xs, rfl, l, q⟩ := h
    refine ⟨_, pss_cons (ps_set (i := 2) scPairs.nd rfl (Or.inr rfl) (pe_callD D1 hr (pa_cons (pv 0) (pa_cons (pv 1) pa_nil))))
      (pss_one (ps_ret (pe_comp ["line", "row", "other", "there", "found"] 4 [2] (pi_list (pv 2))
        (fun C s H fp => show PG (blk _ _ _ C s H fp) _ (gTup K 2 (gCons (gName 0) (gCons (gName 1) gNil))) from pg_tup rfl (pgs_cons (pb 0) (pgs_cons (pb 1) pgs_nil))) (fun C s H fp => pts_nil)
        (fun C s H fp D => pin_nest rfl rfl rfl (show PI (blk _ _ _ C s H fp) _ _ (iList K (tVar 4)) from pi_list (pv 4))
          (show PG (blk _ _ _ C s H fp) _ (gTup K 2 (gCons (gName 2) (gCons (gName 3) gNil))) from pg_tup rfl (pgs_cons (pb 2) (pgs_cons (pb 3) pgs_nil)))
          (pts_one (pt_cmpR op_lt (pv 0) (pv 2) (nomark _))) (pin_emit rfl (pe_tup (pa_cons (pv 0) (pa_cons (pv 1) (pa_cons (pv 2) (pa_cons (pv 3) pa_nil)))))) (by intro _; rfl) (by intro g' h; cases h))))), ?_⟩
    refine ⟨x, rfl, y, rfl, x, y, wd, hg, xs, rfl, l, fun fa H1 ps s1 hfn hf pr => ?_⟩
    generalize hqs : pointsL xs = qs at pr q
    have hlq : ps.length = qs.length := Paired.length pr
    have hq12 : qs.length ≤ 12 := by
      rw [← hqs]
      unfold pointsL
      have := List.length_filterMap_le (fun l : Nat => (rowAt xs l).map fun r => ((l : Int), r)) (List.range xs.length)
      rw [List.length_range] at this
      have h1 := l.2.2.len
      have h2 := l.1.2.2.1
      omega
    refine ⟨_, rfl, fa, rfl, ⟨ps, SqL.of hf⟩, ?_⟩
    refine nest_list (xs := ps) (fun i ys σ H2 => ∃ v0 v1 v2 v3, σ = [v0, v1, v2, v3, some (.ref fa)] ∧ Same H1 H2 ∧ Paired (QdAt H2) ys (pairsTo qs i) ∧ ys.length ≤ i * 12) ⟨_, _, _, _, rfl, Same.refl _, .nil, Nat.zero_le _⟩ (fun i ys σ H2 _ ⟨_, _, _, _, _, s2, _⟩ => SqL.of (s2 _ _ hf)) ?_ ?_
    · rintro i v ys σ H2 hv ⟨v0, v1, v2, v3, rfl, s2, pr2, hl2⟩
      obtain ⟨a, hqa, t, rfl, ht⟩ := Paired.at pr hv
      have hi : i < ps.length := (List.getElem?_eq_some_iff.mp hv).1
      refine ⟨t, _, rfl, SqT.of (s2 _ _ ht), rfl, _, _, rfl, _, _, rfl, rfl, ?_⟩
      refine ⟨_, rfl, fa, rfl, ⟨ps, SqL.of (s2 _ _ hf)⟩, ?_⟩
      refine nest_list (xs := ps) (fun j ys σ H3 => ∃ v2 v3, σ = [some (.int a.1), some (.int a.2), v2, v3, some (.ref fa)] ∧ Same H1 H3 ∧ Paired (QdAt H3) ys (pairsTo qs i ++ pairsOf qs a j) ∧ ys.length ≤ i * 12 + j) ⟨_, _, rfl, s2, by simpa [pairsOf] using pr2, hl2⟩ (fun i ys σ H2 _ ⟨_, _, _, s2, _⟩ => SqL.of (s2 _ _ hf)) ?_ ?_
      · rintro j v ys σ H3 hv' ⟨v2, v3, rfl, s3, pr3, hl3⟩
        obtain ⟨b, hqb, t', rfl, ht'⟩ := Paired.at pr hv'
        have hj : j < ps.length := (List.getElem?_eq_some_iff.mp hv').1
        have es := pairsOf_succ (a := a) hqb
        refine ⟨t', _, rfl, SqT.of (s3 _ _ ht'), rfl, _, _, rfl, _, _, rfl, rfl, ?_⟩
        refine ⟨_, rfl, _, rfl, _, _, rfl, rfl, _, rfl, ?_⟩
        cases hh : decide (a.1 < b.1) with
        | true =>
          rw [hh] at es
          refine iteT ?_
          refine ⟨_, rfl, _, rfl, _, rfl, _, rfl, (by show 4 ≤ sizeLine; decide), fun t4 ht4 => ⟨by rw [sizeLine_eq]; omega, ?_⟩⟩
          have s4 : Same H3 (upd H3 t4 (.tup [.int a.1, .int a.2, .int b.1, .int b.2])) := fun c o hc => by rw [upd_ne (ne_of_none hc ht4)]; exact hc
          refine ⟨_, _, rfl, s3.trans s4, ?_, by rw [List.length_append]; simp; omega⟩
          rw [es, if_pos rfl, ← List.append_assoc]
          exact Paired.snoc (Paired.mapP pr3 fun v q' hq => hq.same s4) ⟨t4, rfl, upd_same⟩
        | false =>
          rw [hh] at es
          refine iteF ⟨_, _, rfl, s3, ?_, by omega⟩
          rw [es, if_neg Bool.false_ne_true, List.append_nil]
          exact pr3
      · rintro ys σ H3 ⟨v2, v3, rfl, s3, pr3, hl3⟩
        refine ⟨_, _, _, _, rfl, s3, ?_, by omega⟩
        rw [pairsTo_succ hqa, ← hlq]
        exact pr3
    · rintro ys σ H2 ⟨v0, v1, v2, v3, rfl, s2, pr2, hl2⟩ p hp
      have s4 : Same H2 (upd H2 p (.lst ys)) := fun c o hc => by rw [upd_ne (ne_of_none hc hp)]; exact hc
      refine q p _ ys (s1.trans (s2.trans s4)) ((s1.trans s2).free hp) upd_same ?_
      rw [hlq] at pr2
      exact Paired.mapP pr2 fun v q' hq => hq.same s4
end
end U.S
-- part Xvk13i
set_option Elab.async false
set_option linter.all false
set_option maxRecDepth 100000
set_option maxHeartbeats 40000000
namespace U.S
open PySem L2 PyProof.Rows
section
def ptsTo (xs : List V) (n : Nat) : List (Int × Int) := (List.range n).filterMap fun l => (rowAt xs l).map fun r => ((l : Int), r)
theorem ptsTo_succ (xs : List V) (n : Nat) : ptsTo xs (n + 1) = ptsTo xs n ++ ((rowAt xs n).map fun r => ((n : Int), r)).toList := by
  unfold ptsTo
  rw [List.range_succ, List.filterMap_append]
  cases h : rowAt xs n <;> simp [h]
end
end U.S
namespace U.S
open PySem L2 PyProof.Rows
section
variable {P : Program} {w : World} {K : PySem.W.Frag} {mg : Str → Option Value} {base : Heap}
abbrev sPoints : Stmt := top 19
theorem scPoints : FnScope ["board", "lay"] ["board", "lay"] (defScope sPoints) := ⟨rfl, rfl, rfl, by decide +kernel, rfl, by decide +kernel, by decide +kernel⟩
theorem ok_points {f : Addr} {fd : FuncData} (F : Fun K "points" "points" sPoints f fd) (G : Gs mg) (D1 : Def P w K mg base 6 "need_lay" ["board", "lay"] spNeedLay) : FnOk P w K mg base CX0 7 f fd ["board", "lay"] spPoints := by
  refine F.ok scPoints (fun vs H Q E h => ?_) (fun cdv A outer s H vs Q E hr h => ?_)
  · obtain ⟨x, y, wd, hg, xs, rfl, _⟩ := h
    rfl
  · obtain ⟨x, y, wd, hg, xs, rfl, l, q⟩ := h
    refine ⟨_, pss_cons (ps_expr (pe_callD D1 hr (pa_cons (pv 0) (pa_cons (pv 1) pa_nil))))
      (pss_one (ps_ret (pe_comp ["line", "row"] 2 [] (pi_enum rfl G.enumerate (pa_cons (pv 1) pa_nil))
        (fun C s H fp => show PG (blk _ _ _ C s H fp) _ (gTup K 2 (gCons (gName 0) (gCons (gName 1) gNil))) from pg_tup rfl (pgs_cons (pb 0) (pgs_cons (pb 1) pgs_nil)))
        (fun C s H fp => pts_one (pt_cmp (pc_notN (pv 1)))) (fun C s H fp D => pin_emit rfl (pe_tup (pa_cons (pv 0) (pa_cons (pv 1) pa_nil))))))), ?_⟩
    refine ⟨x, rfl, y, rfl, x, y, wd, hg, xs, rfl, l, fun H1 s1 => ?_⟩
    obtain ⟨a, rfl, ha⟩ := tupOf_some (l.same s1).2.1
    have hlen : xs.length ≤ 12 := by
      have h1 := l.2.2.len
      have h2 := l.1.2.2.1
      omega
    refine ⟨_, rfl, a, rfl, ⟨xs, SqT.of ha⟩, ?_⟩
    refine nest_enum (xs := xs) (fun i ys σ H2 => ∃ v0 v1, σ = [v0, v1] ∧ Same H1 H2 ∧ Paired (PtAt H2) ys (ptsTo xs i) ∧ ys.length ≤ i) ⟨_, _, rfl, Same.refl _, .nil, Nat.zero_le _⟩ (fun i ys σ H2 _ ⟨_, _, _, s2, _⟩ => SqT.of (s2 _ _ ha)) ?_ ?_
    · rintro i v T ys σ H2 hv hT ⟨v0, v1, rfl, s2, pr2, hl2⟩
      have hi : i < xs.length := (List.getElem?_eq_some_iff.mp hv).1
      have sT : Same H2 (upd H2 T (.par [.int (i : Int), v])) := fun c o hc => by rw [upd_ne (ne_of_none hc hT)]; exact hc
      have er : rowAt xs i = rowV v := by unfold rowAt; rw [hv]; rfl
      refine ⟨T, _, rfl, SqT.ofP upd_same, rfl, _, _, rfl, _, _, rfl, rfl, ?_⟩
      refine ⟨_, rfl, _, rfl, ?_⟩
      generalize hH3 : upd H2 T (HO.par [V.int (i : Int), v]) = H3 at sT
      rcases l.2.2.ok v (List.mem_of_getElem? hv) with rfl | ⟨r, rfl⟩
      · refine iteF ⟨_, _, rfl, s2.trans sT, ?_, by omega⟩
        rw [ptsTo_succ, er]
        exact (by simpa [rowV] using Paired.mapP pr2 fun v q' hq => hq.same sT)
      · refine iteT ?_
        refine ⟨_, rfl, _, rfl, (by show 2 ≤ sizeLine; decide), fun t ht => ⟨by rw [sizeLine_eq]; omega, ?_⟩⟩
        have s4 : Same H3 (upd H3 t (.tup [.int (i : Int), .int r])) := fun c o hc => by rw [upd_ne (ne_of_none hc ht)]; exact hc
        refine ⟨_, _, rfl, s2.trans (sT.trans s4), ?_, by rw [List.length_append]; simp; omega⟩
        rw [ptsTo_succ, er]
        exact Paired.snoc (Paired.mapP pr2 fun v q' hq => hq.same (sT.trans s4)) ⟨t, rfl, upd_same⟩
    · rintro ys σ H2 ⟨v0, v1, rfl, s2, pr2, hl2⟩ p hp
      have s4 : Same H2 (upd H2 p (.lst ys)) := fun c o hc => by rw [upd_ne (ne_of_none hc hp)]; exact hc
      exact q p _ ys (s1.trans (s2.trans s4)) ((s1.trans s2).free hp) upd_same (Paired.mapP pr2 fun v q' hq => hq.same s4)
end
end U.S
-- part Xvk13j
set_option Elab.async false
set_option linter.all false
set_option maxRecDepth 100000
set_option maxHeartbeats 40000000
namespace U.S
open PySem L2 PyProof.Rows PyProof.Rows.Tim
section
def stOf (p : Step4) : Step4 := (p.2.2.1 - p.1, p.2.2.2 - p.2.1, p.1, p.2.2.1)
def Rise (ks : List Step4) : Prop := (ks.map key4).Pairwise fun a b => lexB b a = false
theorem StepAt.same {H H' : Hp} {v : V} {q : Step4} (h : StepAt H v q) (s : Same H H') : StepAt H' v q := by
  obtain ⟨t, t', e, h1, h2⟩ := h
  exact ⟨t, t', e, s _ _ h1, s _ _ h2⟩
theorem pts_len (xs : List V) : (pointsL xs).length ≤ xs.length := by
  unfold pointsL
  have := List.length_filterMap_le (fun l : Nat => (rowAt xs l).map fun r => ((l : Int), r)) (List.range xs.length)
  rw [List.length_range] at this
  exact this
theorem flat_len {α β : Type} (f : α → List β) (n : Nat) : ∀ l : List α, (∀ a ∈ l, (f a).length ≤ n) → (l.flatMap f).length ≤ l.length * n
  | [], _ => by simp
  | a :: l, h => by
    have h1 := h a List.mem_cons_self
    have h2 := flat_len f n l fun b hb => h b (List.mem_cons_of_mem _ hb)
    rw [List.flatMap_cons, List.length_append, List.length_cons, Nat.succ_mul]
    omega
theorem pairs_len (ps : List (Int × Int)) : (pairsL ps).length ≤ ps.length * ps.length := by
  unfold pairsL pairsTo
  rw [List.take_length]
  refine flat_len _ _ _ fun a _ => ?_
  unfold pairsOf
  rw [List.length_map]
  refine Nat.le_trans (List.length_filter_le ..) ?_
  rw [List.length_take]
  exact Nat.min_le_right ..
theorem len12 {H : Hp} {x y : V} {wd hg : Int} {xs : List V} (l : LayAt H x y wd hg xs) : xs.length ≤ 12 := by
  have h1 := l.2.2.len
  have h2 := l.1.2.2.1
  omega
theorem pairs144 {H : Hp} {x y : V} {wd hg : Int} {xs : List V} (l : LayAt H x y wd hg xs) : (pairsL (pointsL xs)).length ≤ 144 := by
  have h1 := pairs_len (pointsL xs)
  have h2 := pts_len xs
  have h3 := len12 l
  have h4 : (pointsL xs).length ≤ 12 := by omega
  have h5 := Nat.mul_le_mul h4 h4
  omega
end
end U.S
namespace U.S
open PySem L2 PyProof.Rows PyProof.Rows.Tim
section
variable {P : Program} {w : World} {K : PySem.W.Frag} {mg : Str → Option Value} {base : Heap}
abbrev sSteps : Stmt := top 22
def spSteps : Sp := fun vs H Q _ => ∃ x y wd hg xs, vs = [x, y] ∧ LayAt H x y wd hg xs ∧ ∀ (l : Addr) (H' : Hp) (rs : List V) (ks : List Step4), Same H H' → H l = none → H' l = some (.lst rs) → Paired (StepAt H') rs ks → ks.Perm ((pairsL (pointsL xs)).map stOf) → Rise ks → Q (.ref l) H'
theorem scSteps : FnScope ["board", "lay"] ["board", "lay"] (defScope sSteps) := ⟨rfl, rfl, rfl, by decide +kernel, rfl, by decide +kernel, by decide +kernel⟩
theorem ok_steps {f : Addr} {fd : FuncData} (F : Fun K "steps" "steps" sSteps f fd) (G : Gs mg) (D1 : Def P w K mg base 8 "point_pairs" ["board", "lay"] spPairs) : FnOk P w K mg base CX0 9 f fd ["board", "lay"] spSteps := by
  refine F.ok scSteps (fun vs H Q E h => ?_) (fun cdv A outer s H vs Q E hr h => ?_)
  · obtain ⟨x, y, wd, hg, xs, rfl, _⟩ := h
    rfl
  · obtain ⟨x, y, wd, hg, xs, rfl, l, q⟩ := h
    have hu := hr.units
    refine ⟨_, pss_one (ps_ret (pe_callB (call_sortedN (Nat.lt_of_le_of_lt (Nat.add_le_add_left (by decide : 2 ≤ 64) _) hu)) rfl G.sorted PyProof.Rows.Boot.«sorted» (pa_cons (pe_comp ["line", "row", "other", "there"] 4 [] (pi_list (pe_callD D1 hr (pa_cons (pv 0) (pa_cons (pv 1) pa_nil))))
        (fun C s H fp => show PG (blk _ _ _ C s H fp) _ (gTup K 4 (gCons (gName 0) (gCons (gName 1) (gCons (gName 2) (gCons (gName 3) gNil))))) from pg_tup rfl (pgs_cons (pb 0) (pgs_cons (pb 1) (pgs_cons (pb 2) (pgs_cons (pb 3) pgs_nil))))) (fun C s H fp => pts_nil)
        (fun C s H fp D => pin_emit rfl (pe_tup (pa_cons (pe_tup (pa_cons (pe_op op_sub (pv 2) (pv 0)) (pa_cons (pe_op op_sub (pv 3) (pv 1)) pa_nil))) (pa_cons (pv 0) (pa_cons (pv 2) pa_nil)))))) pa_nil))), ?_⟩
    refine ⟨x, rfl, y, rfl, x, y, wd, hg, xs, rfl, l, fun fa H1 ps s1 hfn hf pr => ?_⟩
    have hlen := pairs144 l
    generalize hqs : pairsL (pointsL xs) = qs at pr q hlen
    have hlq : ps.length = qs.length := Paired.length pr
    refine ⟨fa, rfl, ⟨ps, SqL.of hf⟩, ?_⟩
    refine nest_list (xs := ps) (fun i ys σ H2 => ∃ v0 v1 v2 v3, σ = [v0, v1, v2, v3] ∧ Same H1 H2 ∧ Paired (StepAt H2) ys ((qs.take i).map stOf) ∧ ys.length ≤ i) ⟨_, _, _, _, rfl, Same.refl _, .nil, Nat.zero_le _⟩ (fun i ys σ H2 _ ⟨_, _, _, _, _, s2, _⟩ => SqL.of (s2 _ _ hf)) ?_ ?_
    · rintro i v ys σ H2 hv ⟨v0, v1, v2, v3, rfl, s2, pr2, hl2⟩
      obtain ⟨⟨a, b, c, d⟩, hq, tt, rfl, ht0⟩ := pr_at pr hv
      have hi : i < ps.length := (List.getElem?_eq_some_iff.mp hv).1
      refine ⟨tt, _, rfl, SqT.of (s2 _ _ ht0), rfl, _, _, rfl, _, _, rfl, _, _, rfl, _, _, rfl, rfl, ?_⟩
      refine ⟨_, rfl, _, rfl, c, a, rfl, rfl, _, rfl, _, rfl, d, b, rfl, rfl, (by show 2 ≤ sizeLine; decide), fun t' ht' => ?_⟩
      refine ⟨_, rfl, _, rfl, (by show 3 ≤ sizeLine; decide), fun t ht => ⟨by rw [sizeLine_eq]; omega, ?_⟩⟩
      generalize hH4 : upd H2 t' (HO.tup [V.int (c - a), V.int (d - b)]) = H4 at ht
      have s4 : Same H2 H4 := fun e o hc => by rw [← hH4, upd_ne (ne_of_none hc ht')]; exact hc
      have ht4 : H4 t' = some (.tup [V.int (c - a), V.int (d - b)]) := by rw [← hH4]; exact upd_same
      generalize hH5 : upd H4 t (HO.tup [V.ref t', V.int a, V.int c]) = H5
      have s5 : Same H4 H5 := fun e o hc => by rw [← hH5, upd_ne (ne_of_none hc ht)]; exact hc
      have ht5 : H5 t = some (.tup [V.ref t', V.int a, V.int c]) := by rw [← hH5]; exact upd_same
      refine ⟨_, _, _, _, rfl, s2.trans (s4.trans s5), ?_, by rw [List.length_append]; simp; omega⟩
      rw [List.take_add_one, hq, List.map_append]
      exact Paired.snoc (Paired.mapP pr2 fun v q' hq => hq.same (s4.trans s5)) ⟨t, t', rfl, ht5, s5 _ _ ht4⟩
    · rintro ys σ H2 ⟨v0, v1, v2, v3, rfl, s2, pr2, hl2⟩ p hp
      have s4 : Same H2 (upd H2 p (.lst ys)) := fun c o hc => by rw [upd_ne (ne_of_none hc hp)]; exact hc
      rw [hlq, List.take_length] at pr2
      refine ⟨p, ys, qs.map stOf, rfl, SqL.of upd_same, Paired.mapP pr2 fun v q' hq => hq.same s4, by omega, fun r vs' ks' hrn hperm hpw pr3 => ?_⟩
      have s5 : Same (upd H2 p (.lst ys)) (upd (upd H2 p (.lst ys)) r (.lst vs')) := fun c o hc => by rw [upd_ne (ne_of_none hc hrn)]; exact hc
      exact q r _ vs' ks' (s1.trans (s2.trans (s4.trans s5))) ((s1.trans (s2.trans s4)).free hrn) upd_same (Paired.mapP pr3 fun v q' hq => StepAt.same hq s5) hperm hpw
end
end U.S
-- part Xvk13k
set_option Elab.async false
set_option linter.all false
set_option maxRecDepth 100000
set_option maxHeartbeats 40000000
namespace U.S
open PySem L2 PyProof.Rows PyProof.Rows.Tim
section
theorem lexB_cons (a b : Int) (l m : List Int) : lexB (a :: l) (b :: m) = true ↔ a < b ∨ (a = b ∧ lexB l m = true) := by
  have z : lexB (a :: l) (b :: m) = if a = b then lexB l m else decide (a < b) := rfl
  rw [z]
  by_cases e : a = b
  · rw [if_pos e]
    constructor
    · exact fun h => .inr ⟨e, h⟩
    · rintro (h | h)
      · omega
      · exact h.2
  · rw [if_neg e, decide_eq_true_eq]
    constructor
    · exact fun h => .inl h
    · rintro (h | h)
      · exact h
      · exact absurd h.1 e
theorem lexB_nil : lexB [] [] = true ↔ False := by simp [lexB]
def SameS (a b : Step4) : Prop := a.1 = b.1 ∧ a.2.1 = b.2.1
instance (a b : Step4) : Decidable (SameS a b) := inferInstanceAs (Decidable (_ ∧ _))
def four (a b : Step4) : Step4 := (a.2.2.1, a.2.2.2, b.2.2.1, b.2.2.2)
def ltL (a b : Step4) : Bool := lexB [a.2.2.1, a.2.2.2] [b.2.2.1, b.2.2.2]
def FirstIs (S : List Step4) : Option Step4 → Prop
  | none => ∀ a ∈ S, ∀ b ∈ S, SameS a b → ltL a b = false
  | some k => (∃ a ∈ S, ∃ b ∈ S, SameS a b ∧ ltL a b = true ∧ k = four a b) ∧ ∀ a ∈ S, ∀ b ∈ S, SameS a b → ltL a b = true → lexB (key4 (four a b)) (key4 k) = false
def adj (ks : List Step4) : List (Step4 × Step4) := ks.zip (ks.drop 1)
def likesL (ks : List Step4) : List Step4 := ((adj ks).filter fun p => decide (SameS p.1 p.2)).map fun p => four p.1 p.2
theorem nf {b : Bool} : b = false ↔ ¬ b = true := by cases b <;> simp
theorem mid {h d b : Step4} (h1 : lexB (key4 d) (key4 h) = false) (h2 : lexB (key4 b) (key4 d) = false) (s : SameS h b) : SameS h d ∧ lexB (key4 (four h b)) (key4 (four h d)) = false := by
  unfold key4 at *
  unfold SameS at *
  unfold four
  rw [nf] at *
  simp only [lexB_cons, lexB_nil, and_false, or_false, false_or] at *
  omega
theorem key_lt {a b : Step4} (s : SameS a b) : lexB (key4 a) (key4 b) = true ↔ ltL a b = true := by
  unfold key4 ltL SameS at *
  simp only [lexB_cons, lexB_nil, and_false, or_false] at *
  omega
theorem adj_of {ks : List Step4} (hr : Rise ks) : ∀ a ∈ ks, ∀ b ∈ ks, SameS a b → ltL a b = true → ∃ p ∈ adj ks, SameS p.1 p.2 ∧ lexB (key4 (four a b)) (key4 (four p.1 p.2)) = false := by
  induction ks with
  | nil => intro a ha; cases ha
  | cons h r ih =>
    have hr' : Rise r := (List.pairwise_cons.mp hr).2
    have hh : ∀ d ∈ r, lexB (key4 d) (key4 h) = false := fun d hd => (List.pairwise_cons.mp hr).1 _ (List.mem_map_of_mem hd)
    intro a ha b hb s l
    have kl := (key_lt s).mpr l
    rcases List.mem_cons.mp ha with rfl | ha'
    · have hb' : b ∈ r := by
        rcases List.mem_cons.mp hb with rfl | hb
        · have := lexB_asy _ _ kl
          rw [kl] at this; cases this
        · exact hb
      cases r with
      | nil => cases hb'
      | cons d r' =>
        have hdb : lexB (key4 b) (key4 d) = false := by
          rcases List.mem_cons.mp hb' with rfl | hb2
          · cases hx : lexB (key4 b) (key4 b) with
            | false => rfl
            | true =>
              have := lexB_asy _ _ hx
              rw [hx] at this; cases this
          · exact (List.pairwise_cons.mp hr').1 _ (List.mem_map_of_mem hb2)
        obtain ⟨m1, m2⟩ := mid (hh d List.mem_cons_self) hdb s
        exact ⟨(a, d), List.mem_cons_self, m1, m2⟩
    · have hb' : b ∈ r := by
        rcases List.mem_cons.mp hb with rfl | hb
        · have := hh a ha'
          rw [kl] at this; cases this
        · exact hb
      obtain ⟨p, hp, q1, q2⟩ := ih hr' a ha' b hb' s l
      refine ⟨p, ?_, q1, q2⟩
      cases r with
      | nil => cases ha'
      | cons d r' => exact List.mem_cons_of_mem _ hp
theorem adj_lt {ks : List Step4} (hr : Rise ks) (hn : ks.Nodup) : ∀ p ∈ adj ks, SameS p.1 p.2 → p.1 ∈ ks ∧ p.2 ∈ ks ∧ ltL p.1 p.2 = true := by
  induction ks with
  | nil => intro p hp; cases hp
  | cons h r ih =>
    have hr' : Rise r := (List.pairwise_cons.mp hr).2
    have hh : ∀ d ∈ r, lexB (key4 d) (key4 h) = false := fun d hd => (List.pairwise_cons.mp hr).1 _ (List.mem_map_of_mem hd)
    have hn' := (List.nodup_cons.mp hn)
    intro p hp s
    cases r with
    | nil => cases hp
    | cons d r' =>
      rcases List.mem_cons.mp (show p ∈ (h, d) :: adj (d :: r') from hp) with rfl | hp
      · refine ⟨List.mem_cons_self, List.mem_cons_of_mem _ List.mem_cons_self, (key_lt s).mp ?_⟩
        cases hx : lexB (key4 h) (key4 d) with
        | true => rfl
        | false =>
          have e := key4_inj (lexB_eq _ _ hx (hh d List.mem_cons_self))
          rw [e] at hn'
          exact absurd List.mem_cons_self hn'.1
      · obtain ⟨q1, q2, q3⟩ := ih hr' hn'.2 p hp s
        exact ⟨List.mem_cons_of_mem _ q1, List.mem_cons_of_mem _ q2, q3⟩
theorem mem_likes {ks : List Step4} {k : Step4} : k ∈ likesL ks ↔ ∃ p ∈ adj ks, SameS p.1 p.2 ∧ four p.1 p.2 = k := by
  unfold likesL
  rw [List.mem_map]
  constructor
  · rintro ⟨p, hp, e⟩
    rw [List.mem_filter, decide_eq_true_eq] at hp
    exact ⟨p, hp.1, hp.2, e⟩
  · rintro ⟨p, hp, s, e⟩
    exact ⟨p, List.mem_filter.mpr ⟨hp, decide_eq_true s⟩, e⟩
theorem first_none {ks : List Step4} (hr : Rise ks) (h : likesL ks = []) : FirstIs ks none := fun a ha b hb s => by
  cases hl : ltL a b with
  | false => rfl
  | true =>
    obtain ⟨p, hp, q, _⟩ := adj_of hr a ha b hb s hl
    have : four p.1 p.2 ∈ likesL ks := mem_likes.mpr ⟨p, hp, q, rfl⟩
    rw [h] at this; cases this
theorem first_some {ks : List Step4} (hr : Rise ks) (hn : ks.Nodup) {k : Step4} (hk : k ∈ likesL ks) (hm : ∀ k' ∈ likesL ks, lexB (key4 k') (key4 k) = false) : FirstIs ks (some k) := by
  obtain ⟨p, hp, s, e⟩ := mem_likes.mp hk
  obtain ⟨m1, m2, m3⟩ := adj_lt hr hn p hp s
  refine ⟨⟨p.1, m1, p.2, m2, s, m3, e.symm⟩, fun a ha b hb s' l => ?_⟩
  obtain ⟨p', hp', q1, q2⟩ := adj_of hr a ha b hb s' l
  exact lexB_ntr _ _ _ (hm _ (mem_likes.mpr ⟨p', hp', q1, rfl⟩)) q2
def IsStep (xs : List V) (q : Step4) : Prop := ∃ l o : Nat, l < o ∧ o < xs.length ∧ stepOf xs o l = some q
theorem mem_pts {xs : List V} {p : Int × Int} : p ∈ pointsL xs ↔ ∃ l : Nat, l < xs.length ∧ rowAt xs l = some p.2 ∧ p.1 = (l : Int) := by
  unfold pointsL
  rw [List.mem_filterMap]
  constructor
  · rintro ⟨l, hl, e⟩
    rw [Option.map_eq_some_iff] at e
    obtain ⟨r, hr, rfl⟩ := e
    exact ⟨l, List.mem_range.mp hl, hr, rfl⟩
  · rintro ⟨l, hl, hr, e⟩
    refine ⟨l, List.mem_range.mpr hl, ?_⟩
    rw [hr, Option.map_some, ← e]
theorem mem_law {xs : List V} {q : Step4} : q ∈ lawSteps xs xs.length ↔ IsStep xs q := by
  unfold lawSteps stepsTo IsStep
  simp only [List.mem_flatMap, List.mem_filterMap, List.mem_range]
  constructor
  · rintro ⟨o, ho, l, hl, e⟩
    exact ⟨l, o, hl, ho, e⟩
  · rintro ⟨l, o, hl, ho, e⟩
    exact ⟨o, ho, l, hl, e⟩
theorem stepOf_eq {xs : List V} {o l : Nat} {q : Step4} : stepOf xs o l = some q ↔ ∃ a b, rowAt xs l = some a ∧ rowAt xs o = some b ∧ q = ((o : Int) - l, b - a, (l : Int), (o : Int)) := by
  unfold stepOf
  cases h1 : rowAt xs l with
  | none => simp
  | some a =>
    cases h2 : rowAt xs o with
    | none => simp
    | some b =>
      simp only [Option.bind_some, Option.map_some, Option.some.injEq]
      constructor
      · rintro rfl
        exact ⟨a, b, rfl, rfl, rfl⟩
      · rintro ⟨_, _, rfl, rfl, rfl⟩
        rfl
theorem mem_prog {xs : List V} {q : Step4} : q ∈ (pairsL (pointsL xs)).map stOf ↔ IsStep xs q := by
  unfold pairsL pairsTo
  rw [List.take_length]
  simp only [List.mem_map, List.mem_flatMap, pairsOf, List.take_length, List.mem_filter, decide_eq_true_eq]
  constructor
  · rintro ⟨_, ⟨a, ha, b, ⟨hb, hlt⟩, rfl⟩, rfl⟩
    obtain ⟨l, hl, hr, e⟩ := mem_pts.mp ha
    obtain ⟨o, ho, hr', e'⟩ := mem_pts.mp hb
    refine ⟨l, o, by omega, ho, stepOf_eq.mpr ⟨a.2, b.2, hr, hr', ?_⟩⟩
    unfold stOf
    rw [e, e']
  · rintro ⟨l, o, hl, ho, e⟩
    obtain ⟨a, b, h1, h2, rfl⟩ := stepOf_eq.mp e
    exact ⟨((l : Int), a, (o : Int), b), ⟨((l : Int), a), mem_pts.mpr ⟨l, by omega, h1, rfl⟩, ((o : Int), b), ⟨mem_pts.mpr ⟨o, ho, h2, rfl⟩, by show (l : Int) < (o : Int); omega⟩, rfl⟩, rfl⟩
theorem nodup_law (xs : List V) (n : Nat) : (lawSteps xs n).Nodup := by
  unfold lawSteps
  rw [List.nodup_iff_pairwise_ne, List.pairwise_flatMap]
  refine ⟨fun o _ => ?_, ?_⟩
  · unfold stepsTo
    rw [List.pairwise_filterMap]
    refine List.Pairwise.imp ?_ (List.nodup_iff_pairwise_ne.mp List.nodup_range)
    intro l l' hne q hq q' hq' e
    obtain ⟨_, _, _, _, rfl⟩ := stepOf_eq.mp hq
    obtain ⟨_, _, _, _, rfl⟩ := stepOf_eq.mp hq'
    simp only [Prod.mk.injEq] at e
    omega
  · refine List.Pairwise.imp ?_ (List.nodup_iff_pairwise_ne.mp List.nodup_range)
    intro o o' hne q hq q' hq' e
    unfold stepsTo at hq hq'
    rw [List.mem_filterMap] at hq hq'
    obtain ⟨l, _, hq⟩ := hq
    obtain ⟨l', _, hq'⟩ := hq'
    obtain ⟨_, _, _, _, rfl⟩ := stepOf_eq.mp hq
    obtain ⟨_, _, _, _, rfl⟩ := stepOf_eq.mp hq'
    simp only [Prod.mk.injEq] at e
    omega
theorem pts_pw (xs : List V) : (pointsL xs).Pairwise fun a b => a.1 ≠ b.1 := by
  unfold pointsL
  rw [List.pairwise_filterMap]
  refine List.Pairwise.imp ?_ (List.nodup_iff_pairwise_ne.mp List.nodup_range)
  intro l l' hne q hq q' hq'
  rw [Option.map_eq_some_iff] at hq hq'
  obtain ⟨_, _, rfl⟩ := hq
  obtain ⟨_, _, rfl⟩ := hq'
  show (l : Int) ≠ (l' : Int)
  omega
theorem nodup_prog (xs : List V) : ((pairsL (pointsL xs)).map stOf).Nodup := by
  unfold pairsL pairsTo
  rw [List.take_length, List.nodup_iff_pairwise_ne, List.pairwise_map, List.pairwise_flatMap]
  refine ⟨fun a _ => ?_, ?_⟩
  · unfold pairsOf
    rw [List.take_length, List.pairwise_map]
    refine List.Pairwise.imp ?_ ((pts_pw xs).filter _)
    intro b b' hne e
    unfold stOf at e
    simp only [Prod.mk.injEq] at e
    exact hne e.2.2.2
  · refine List.Pairwise.imp ?_ (pts_pw xs)
    intro a a' hne q hq q' hq' e
    unfold pairsOf at hq hq'
    rw [List.mem_map] at hq hq'
    obtain ⟨b, _, rfl⟩ := hq
    obtain ⟨b', _, rfl⟩ := hq'
    unfold stOf at e
    simp only [Prod.mk.injEq] at e
    exact hne e.2.2.1
theorem perm_steps (xs : List V) : ((pairsL (pointsL xs)).map stOf).Perm (lawSteps xs xs.length) :=
  (List.perm_ext_iff_of_nodup (nodup_prog xs) (nodup_law xs _)).mpr fun q => mem_prog.trans mem_law.symm
end
end U.S
-- part Xvk13l
set_option Elab.async false
set_option linter.all false
set_option maxRecDepth 100000
set_option maxHeartbeats 40000000
namespace U.S
open PySem L2 PyProof.Rows PyProof.Rows.Tim
section
theorem cut1 (vs : List V) : cutV vs (some 1) none = vs.drop 1 := by
  unfold cutV HT.sIx
  cases vs with
  | nil => rfl
  | cons a r => simp
def likesTo (ks : List Step4) (i : Nat) : List Step4 := (((adj ks).take i).filter fun p => decide (SameS p.1 p.2)).map fun p => four p.1 p.2
theorem likesTo_succ {ks : List Step4} {i : Nat} {a b : Step4} (h1 : ks[i]? = some a) (h2 : (ks.drop 1)[i]? = some b) : likesTo ks (i + 1) = likesTo ks i ++ (if decide (SameS a b) = true then [four a b] else []) := by
  have e : (adj ks)[i]? = some (a, b) := List.getElem?_zip_eq_some.mpr ⟨h1, h2⟩
  unfold likesTo
  rw [List.take_add_one, e, List.filter_append, List.map_append]
  by_cases h : SameS a b <;> simp [h]
def OptAt (H : Hp) (v : V) : Option Step4 → Prop
  | none => v = .non
  | some k => QdAt H v k
end
end U.S
namespace U.S
open PySem L2 PyProof.Rows PyProof.Rows.Tim
section
variable {P : Program} {w : World} {K : PySem.W.Frag} {mg : Str → Option Value} {base : Heap}
abbrev sFirst : Stmt := top 23
def spFirst : Sp := fun vs H Q _ => ∃ x y wd hg xs, vs = [x, y] ∧ LayAt H x y wd hg xs ∧ ∀ (H' : Hp) (v : V) (r : Option Step4), Same H H' → FirstIs (lawSteps xs xs.length) r → OptAt H' v r → Q v H'
theorem scFirst : FnScope ["board", "lay", "told", "likes"] ["board", "lay"] (defScope sFirst) := ⟨rfl, rfl, rfl, by decide +kernel, rfl, by decide +kernel, by decide +kernel⟩
theorem ok_first {f : Addr} {fd : FuncData} (F : Fun K "first_like" "first_like" sFirst f fd) (G : Gs mg) (D1 : Def P w K mg base 9 "steps" ["board", "lay"] spSteps) : FnOk P w K mg base CX0 10 f fd ["board", "lay"] spFirst := by
  refine F.ok scFirst (fun vs H Q E h => ?_) (fun cdv A outer s H vs Q E hr h => ?_)
  · obtain ⟨x, y, wd, hg, xs, rfl, _⟩ := h
    rfl
  · obtain ⟨x, y, wd, hg, xs, rfl, l, q⟩ := h
    have hu := hu_of hr
    refine ⟨_, pss_cons (ps_set (i := 2) scFirst.nd rfl (Or.inl rfl) (pe_callD D1 hr (pa_cons (pv 0) (pa_cons (pv 1) pa_nil))))
      (pss_cons (ps_setC ["step", "line", "other", "beside", "here", "there"] 6 [] (i := 3) scFirst.nd rfl (Or.inl rfl) (pi_zipM rfl G.zip (pa_cons (pv 2) (pa_cons (pe_slice sl_list (pv 2) (po_some pe_int) po_none) pa_nil)))
        (fun C s H fp => show PG (blk _ _ _ C s H fp) _ (gTup K 2 (gCons (gTup K 3 (gCons (gName 0) (gCons (gName 1) (gCons (gName 2) gNil)))) (gCons (gTup K 3 (gCons (gName 3) (gCons (gName 4) (gCons (gName 5) gNil)))) gNil))) from
          pg_tup rfl (pgs_cons (pg_tup rfl (pgs_cons (pb 0) (pgs_cons (pb 1) (pgs_cons (pb 2) pgs_nil)))) (pgs_cons (pg_tup rfl (pgs_cons (pb 3) (pgs_cons (pb 4) (pgs_cons (pb 5) pgs_nil)))) pgs_nil)))
        (fun C s H fp => pts_one (pt_cmpR (show OpR (blk _ _ _ C s H fp) (compareOp .Eq) (fun x y H Q => ∃ (a b : Addr) (ns ms : List Int), x = .ref a ∧ y = .ref b ∧ SqT K H a (ns.map V.int) ∧ SqT K H b (ms.map V.int) ∧ Q (.bl (decide (ns = ms))) H) from op_eqTu hr.units0) (pv 0) (pv 3) (nomark _)))
        (fun C s H fp D => pin_emit rfl (pe_tup (pa_cons (pv 1) (pa_cons (pv 2) (pa_cons (pv 4) (pa_cons (pv 5) pa_nil)))))))
      (pss_one (ps_ret (pe_minD rfl hu rfl G.min (pv 3))))), ?_⟩
    refine ⟨x, rfl, y, rfl, x, y, wd, hg, xs, rfl, l, fun fa H1 ps ks s1 hfn hf pr perm rise => ?_⟩
    have hlk : ps.length = ks.length := Paired.length pr
    have hlen : ks.length ≤ 144 := by
      rw [perm.length_eq, List.length_map]
      exact pairs144 l
    refine ⟨_, rfl, _, rfl, _, rfl, fa, ps, rfl, SqL.of hf, fun c hc => ?_⟩
    generalize hH2 : upd H1 c (HO.lst (cutV ps (some 1) none)) = H2
    have s2 : Same H1 H2 := fun b o hb => by rw [← hH2, upd_ne (ne_of_none hb hc)]; exact hb
    have hc2 : H2 c = some (.lst (ps.drop 1)) := by rw [← hH2, cut1]; exact upd_same
    have hf2 := s2 _ _ hf
    refine ⟨fa, c, rfl, ⟨_, _, SqL.of hf2, SqL.of hc2⟩, ?_⟩
    refine nest_zipM (xs := ps) (zs := ps.drop 1) (fun i ys σ H3 => ∃ v0 v1 v2 v3 v4 v5, σ = [v0, v1, v2, v3, v4, v5] ∧ Same H2 H3 ∧ Paired (QdAt H3) ys (likesTo ks i) ∧ ys.length ≤ i) ⟨_, _, _, _, _, _, rfl, Same.refl _, .nil, Nat.zero_le _⟩
      (fun i ys σ H3 _ ⟨_, _, _, _, _, _, _, s3, _⟩ => ⟨SqL.of (s3 _ _ hf2), SqL.of (s3 _ _ hc2)⟩) ?_ ?_
    · rintro i va vb T ys σ H3 hva hvb hT ⟨v0, v1, v2, v3, v4, v5, rfl, s3, pr3, hl3⟩
      have hi : i < ps.length := (List.getElem?_eq_some_iff.mp hva).1
      obtain ⟨a, hka, ta, ta', rfl, hta, hta'⟩ := pr_at pr hva
      have hvb' : ps[1 + i]? = some vb := by rw [← List.getElem?_drop]; exact hvb
      obtain ⟨b, hkb, tb, tb', rfl, htb, htb'⟩ := pr_at pr hvb'
      have hkb' : (ks.drop 1)[i]? = some b := by rw [List.getElem?_drop]; exact hkb
      have es := likesTo_succ hka hkb'
      have sT : Same H3 (upd H3 T (.par [.ref ta, .ref tb])) := fun e o hc => by rw [upd_ne (ne_of_none hc hT)]; exact hc
      have sA : Same H1 (upd H3 T (.par [.ref ta, .ref tb])) := s2.trans (s3.trans sT)
      refine ⟨T, _, rfl, SqT.ofP upd_same, rfl, _, _, rfl, ta, _, rfl, SqT.of (sA _ _ hta), rfl, _, _, rfl, _, _, rfl, _, _, rfl, rfl, _, _, rfl, tb, _, rfl, SqT.of (sA _ _ htb), rfl, _, _, rfl, _, _, rfl, _, _, rfl, rfl, rfl, ?_⟩
      generalize hH4 : upd H3 T (HO.par [V.ref ta, V.ref tb]) = H4 at sT sA
      refine ⟨_, rfl, _, rfl, ta', tb', [a.1, a.2.1], [b.1, b.2.1], rfl, rfl, SqT.of (sA _ _ hta'), SqT.of (sA _ _ htb'), _, rfl, ?_⟩
      by_cases hs : SameS a b
      · rw [decide_eq_true hs, if_pos rfl] at es
        have ed : decide ([a.1, a.2.1] = [b.1, b.2.1]) = true := decide_eq_true (by rw [hs.1, hs.2])
        rw [ed]
        refine iteT ?_
        refine ⟨_, rfl, _, rfl, _, rfl, _, rfl, (by show 4 ≤ sizeLine; decide), fun t4 ht4 => ⟨by rw [sizeLine_eq]; omega, ?_⟩⟩
        generalize hH5 : upd H4 t4 (HO.tup [V.int a.2.2.1, V.int a.2.2.2, V.int b.2.2.1, V.int b.2.2.2]) = H5
        have s5 : Same H4 H5 := fun e o hc => by rw [← hH5, upd_ne (ne_of_none hc ht4)]; exact hc
        refine ⟨_, _, _, _, _, _, rfl, s3.trans (sT.trans s5), ?_, by rw [List.length_append]; simp; omega⟩
        rw [es]
        exact Paired.snoc (Paired.mapP pr3 fun v q' hq => hq.same (sT.trans s5)) ⟨t4, rfl, by rw [← hH5]; exact upd_same⟩
      · rw [decide_eq_false hs, if_neg Bool.false_ne_true, List.append_nil] at es
        have ed : decide ([a.1, a.2.1] = [b.1, b.2.1]) = false := decide_eq_false (fun e => hs (by simp only [List.cons.injEq, and_true] at e; exact e))
        rw [ed]
        refine iteF ⟨_, _, _, _, _, _, rfl, s3.trans sT, ?_, by omega⟩
        rw [es]
        exact Paired.mapP pr3 fun v q' hq => hq.same sT
    · rintro ys σ H3 ⟨v0, v1, v2, v3, v4, v5, rfl, s3, pr3, hl3⟩ p hp
      have s4 : Same H3 (upd H3 p (.lst ys)) := fun e o hc => by rw [upd_ne (ne_of_none hc hp)]; exact hc
      have et : likesTo ks (min ps.length (ps.drop 1).length) = likesL ks := by
        unfold likesTo likesL
        rw [List.take_of_length_le]
        unfold adj
        rw [List.length_zip, List.length_drop, List.length_drop, hlk]
        exact Nat.le_refl _
      rw [et] at pr3
      have pr4 : Paired (QdAt (upd H3 p (.lst ys))) ys (likesL ks) := Paired.mapP pr3 fun v q' hq => hq.same s4
      have sA : Same H (upd H3 p (.lst ys)) := s1.trans (s2.trans (s3.trans s4))
      have hmem : ∀ z, z ∈ ks ↔ z ∈ lawSteps xs xs.length := fun z => (perm.trans (perm_steps xs)).mem_iff
      have hnd : ks.Nodup := (perm.trans (perm_steps xs)).nodup_iff.mpr (nodup_law xs _)
      have conv : ∀ r, FirstIs ks r → FirstIs (lawSteps xs xs.length) r := fun r hr => by
        cases r with
        | none => exact fun a ha b hb s => hr a ((hmem a).mpr ha) b ((hmem b).mpr hb) s
        | some k =>
          obtain ⟨⟨a, ha, b, hb, w⟩, h2⟩ := hr
          exact ⟨⟨a, (hmem a).mp ha, b, (hmem b).mp hb, w⟩, fun a ha b hb s l => h2 a ((hmem a).mpr ha) b ((hmem b).mpr hb) s l⟩
      refine ⟨_, rfl, p, ys, (likesL ks).map key4, rfl, SqL.of upd_same, ?_, fun e => ?_, fun v k hv hk htp hmin => ?_⟩
      · have : ∀ {ys : List V} {ls : List Step4}, Paired (QdAt (upd H3 p (.lst ys))) ys ls → Paired (TpAt (upd H3 p (.lst ys))) ys (ls.map key4) := by
          intro ys ls h
          generalize (upd H3 p (.lst ys)) = H9 at h
          induction h with
          | nil => exact .nil
          | cons h1 _ ih => exact .cons h1 ih
        exact this pr4
      · subst e
        have el : likesL ks = [] := by
          have := Paired.length pr4
          exact List.length_eq_zero_iff.mp this.symm
        exact q _ .non none sA (conv _ (first_none rise el)) rfl
      · obtain ⟨k4, hk4, rfl⟩ := List.mem_map.mp hk
        exact q _ v (some k4) sA (conv _ (first_some rise hnd hk4 fun k' hk' => hmin _ (List.mem_map_of_mem hk'))) htp
abbrev sUnl : Stmt := top 24
def spUnl : Sp := fun vs H Q _ => ∃ x y wd hg xs, vs = [x, y] ∧ LayAt H x y wd hg xs ∧ ∀ (H' : Hp) (r : Option Step4), Same H H' → FirstIs (lawSteps xs xs.length) r → Q (.bl r.isNone) H'
theorem scUnl : FnScope ["board", "lay"] ["board", "lay"] (defScope sUnl) := ⟨rfl, rfl, rfl, by decide +kernel, rfl, by decide +kernel, by decide +kernel⟩
theorem ok_unl {f : Addr} {fd : FuncData} (F : Fun K "is_unlike" "is_unlike" sUnl f fd) (D1 : Def P w K mg base 10 "first_like" ["board", "lay"] spFirst) : FnOk P w K mg base CX0 11 f fd ["board", "lay"] spUnl := by
  refine F.ok scUnl (fun vs H Q E h => ?_) (fun cdv A outer s H vs Q E hr h => ?_)
  · obtain ⟨x, y, wd, hg, xs, rfl, _⟩ := h
    rfl
  · obtain ⟨x, y, wd, hg, xs, rfl, l, q⟩ := h
    refine ⟨_, pss_one (ps_ret (pe_cmp (pc_isN (pe_callD D1 hr (pa_cons (pv 0) (pa_cons (pv 1) pa_nil)))))), ?_⟩
    refine ⟨x, rfl, y, rfl, x, y, wd, hg, xs, rfl, l, fun H1 v r s1 hf ho => ?_⟩
    have := q H1 r s1 hf
    cases r with
    | none =>
      have e : v = .non := ho
      subst e
      exact this
    | some k =>
      obtain ⟨t, rfl, _⟩ := (show QdAt H1 v k from ho)
      exact this
end
end U.S
-- part Xvk11c
set_option Elab.async false
set_option linter.all false
set_option maxRecDepth 100000
set_option maxHeartbeats 40000000
namespace U.T
open PySem L2 PyProof.Rows
section
end
end U.T
-- part Xw1
set_option Elab.async false
set_option linter.all false
set_option maxRecDepth 100000
set_option maxHeartbeats 40000000
namespace U.S
open PySem L2 PyProof.Rows PyProof.Rows.Tim
section
theorem pts_lt (xs : List V) : (pointsL xs).Pairwise fun a b => a.1 < b.1 := by
  unfold pointsL
  refine List.pairwise_filterMap.mpr (List.Pairwise.imp ?_ (List.pairwise_lt_range (n := xs.length)))
  intro a b hab p hp q hq
  obtain ⟨r, hr, rfl⟩ := Option.map_eq_some_iff.mp hp
  obtain ⟨r', hr', rfl⟩ := Option.map_eq_some_iff.mp hq
  show (a : Int) < (b : Int)
  omega
def prL (ps : List (Int × Int)) : List Step4 := ps.flatMap fun a => (ps.filter fun b => decide (a.1 < b.1)).map fun b => (a.1, a.2, b.1, b.2)
theorem pairsL_pr (ps : List (Int × Int)) : pairsL ps = prL ps := by
  unfold pairsL pairsTo prL pairsOf
  rw [List.take_length]
theorem nodup_map_iff {α β : Type} {f : α → β} {l : List α} (h : l.Nodup) : (l.map f).Nodup ↔ ∀ a ∈ l, ∀ b ∈ l, f a = f b → a = b := by
  rw [List.nodup_iff_pairwise_ne, List.pairwise_map]
  constructor
  · intro pw a ha b hb e
    obtain ⟨i, hi, rfl⟩ := List.getElem_of_mem ha
    obtain ⟨j, hj, rfl⟩ := List.getElem_of_mem hb
    have p := List.pairwise_iff_getElem.mp pw
    rcases Nat.lt_trichotomy i j with q | q | q
    · exact absurd e (p i j hi hj q)
    · subst q; rfl
    · exact absurd e.symm (p j i hj hi q)
  · intro inj
    refine List.Pairwise.imp_of_mem ?_ (List.nodup_iff_pairwise_ne.mp h)
    intro a b ha hb ne e
    exact ne (inj a ha b hb e)
theorem pairs_nodup (xs : List V) : (pairsL (pointsL xs)).Nodup := by
  have := nodup_prog xs
  rw [List.nodup_iff_pairwise_ne, List.pairwise_map] at this
  exact List.nodup_iff_pairwise_ne.mpr (List.Pairwise.imp (fun h e => h (by rw [e])) this)
theorem pair_of {xs : List V} {p : Step4} : p ∈ pairsL (pointsL xs) ↔ ∃ l o : Nat, l < o ∧ o < xs.length ∧ ∃ a b, rowAt xs l = some a ∧ rowAt xs o = some b ∧ p = ((l : Int), a, (o : Int), b) := by
  rw [pairsL_pr]
  unfold prL
  rw [List.mem_flatMap]
  constructor
  · rintro ⟨a, ha, hq⟩
    obtain ⟨b, hb, rfl⟩ := List.mem_map.mp hq
    obtain ⟨hb1, hb2⟩ := List.mem_filter.mp hb
    obtain ⟨l, hl, hr, e⟩ := mem_pts.mp ha
    obtain ⟨o, ho, hr', e'⟩ := mem_pts.mp hb1
    have := of_decide_eq_true hb2
    refine ⟨l, o, by omega, ho, a.2, b.2, hr, hr', by rw [e, e']⟩
  · rintro ⟨l, o, h1, h2, a, b, h3, h4, rfl⟩
    exact ⟨((l : Int), a), mem_pts.mpr ⟨l, by omega, h3, rfl⟩, List.mem_map.mpr ⟨((o : Int), b), List.mem_filter.mpr ⟨mem_pts.mpr ⟨o, h2, h4, rfl⟩, decide_eq_true (by show (l : Int) < o; omega)⟩, rfl⟩⟩
def Unl (xs : List V) : Prop := ∀ p ∈ pairsL (pointsL xs), ∀ q ∈ pairsL (pointsL xs), SameS (stOf p) (stOf q) → p = q
theorem lt_or {a b : Step4} (h : a.2.2.1 ≠ b.2.2.1 ∨ a.2.2.2 ≠ b.2.2.2) : ltL a b = true ∨ ltL b a = true := by
  unfold ltL
  simp only [lexB_cons, lexB_nil, and_false, or_false]
  omega
theorem unl_iff {xs : List V} {r : Option Step4} (f : FirstIs (lawSteps xs xs.length) r) : r.isNone = true ↔ Unl xs := by
  have mem : ∀ {p : Step4}, p ∈ pairsL (pointsL xs) → stOf p ∈ lawSteps xs xs.length := fun hp => (perm_steps xs).mem_iff.mp (List.mem_map_of_mem hp)
  cases r with
  | none =>
    refine ⟨fun _ p hp q hq s => ?_, fun _ => rfl⟩
    refine Classical.byContradiction fun ne => ?_
    obtain ⟨l, o, _, _, a, b, g1, g2, rfl⟩ := pair_of.mp hp
    obtain ⟨l', o', _, _, a', b', g3, g4, rfl⟩ := pair_of.mp hq
    have d : (l : Int) ≠ (l' : Int) ∨ (o : Int) ≠ (o' : Int) := by
      refine Classical.byContradiction fun c => ne ?_
      have e1 : l = l' := by omega
      have e2 : o = o' := by omega
      subst e1 e2
      rw [g1] at g3
      rw [g2] at g4
      cases g3
      cases g4
      rfl
    rcases lt_or (a := stOf ((l : Int), a, (o : Int), b)) (b := stOf ((l' : Int), a', (o' : Int), b')) d with z | z
    · have := f _ (mem hp) _ (mem hq) s
      rw [z] at this
      cases this
    · have := f _ (mem hq) _ (mem hp) ⟨s.1.symm, s.2.symm⟩
      rw [z] at this
      cases this
  | some k =>
    refine ⟨fun h => (by cases h), fun h => ?_⟩
    obtain ⟨⟨a, ha, b, hb, s, l, _⟩, _⟩ := f
    obtain ⟨p, hp, rfl⟩ := List.mem_map.mp ((perm_steps xs).mem_iff.mpr ha)
    obtain ⟨q, hq, rfl⟩ := List.mem_map.mp ((perm_steps xs).mem_iff.mpr hb)
    rw [h p hp q hq s] at l
    unfold ltL at l
    simp only [lexB_cons, lexB_nil, and_false, or_false] at l
    omega
def Fewer (xs ys : List V) : Prop := ys.length = xs.length ∧ ∀ (i : Nat) (v : V), ys[i]? = some v → v = .non ∨ xs[i]? = some v
end
end U.S
-- part Y1
set_option Elab.async false
set_option linter.all false
set_option maxRecDepth 100000
set_option maxHeartbeats 4000000
/-! k52: steps, places, all unlike lays, as lists -/
namespace U.S
open PySem L2 PyProof.Rows
/-- the step from a point to another -/
def sk (a b : Int × Int) : List Int := [b.1 - a.1, b.2 - a.2]
def pk : List (Int × Int) → List (List Int)
  | [] => []
  | a :: r => r.map (sk a) ++ pk r
def unlB (xs : List V) : Bool := decide (pk (pointsL xs)).Nodup
def sk4 (p : Step4) : List Int := [p.2.2.1 - p.1, p.2.2.2 - p.2.1]
theorem pk_pr : ∀ {ps : List (Int × Int)}, (ps.Pairwise fun a b => a.1 < b.1) → (prL ps).map sk4 = pk ps
  | [], _ => rfl
  | a :: l, h => by
    obtain ⟨h1, h2⟩ := List.pairwise_cons.mp h
    have ih := pk_pr h2
    have e : prL (a :: l) = (l.map fun b => (a.1, a.2, b.1, b.2)) ++ prL l := by
      unfold prL
      rw [List.flatMap_cons]
      congr 1
      · rw [List.filter_cons_of_neg (by simp), List.filter_eq_self.mpr fun b hb => decide_eq_true (h1 b hb)]
      · rw [List.flatMap_def, List.flatMap_def]
        congr 1
        refine List.map_congr_left fun c hc => ?_
        rw [List.filter_cons_of_neg (by have := h1 c hc; simp; omega)]
    rw [e, List.map_append, ih, List.map_map]
    rfl
theorem same_sk (p q : Step4) : SameS (stOf p) (stOf q) ↔ sk4 p = sk4 q := by
  unfold SameS stOf sk4
  simp
theorem unlB_iff (xs : List V) : unlB xs = true ↔ Unl xs := by
  unfold unlB
  rw [decide_eq_true_iff, ← pk_pr (pts_lt xs), ← pairsL_pr, nodup_map_iff (pairs_nodup xs)]
  unfold Unl
  constructor
  · intro h p hp q hq s
    exact h p hp q hq ((same_sk p q).mp s)
  · intro h p hp q hq s
    exact h p hp q hq ((same_sk p q).mpr s)
theorem unl_bl {xs : List V} {r : Option Step4} (f : FirstIs (lawSteps xs xs.length) r) : r.isNone = unlB xs := by
  have h1 := unl_iff f
  have h2 := unlB_iff xs
  cases hr : r.isNone <;> cases hu : unlB xs <;> simp_all
/-- the rows that are free for a line -/
def freeL (hg : Nat) (xs : List V) (l : Nat) : List Int := ((List.range hg).map fun (k : Nat) => (k : Int)).filter fun r => !inV (.int r) xs && unlB (xs.set l (.int r))
def foundL (wd hg : Nat) : Nat → List (List V)
  | 0 => [List.replicate wd .non]
  | i + 1 => (foundL wd hg i).flatMap fun xs => (V.non :: (freeL hg xs i).map V.int).map fun v => xs.set i v
def manyL (xs : List V) : Nat := (xs.filter fun x => !decide (x = V.non)).length
def ofL (wd hg : Nat) (n : Int) : List (List V) := (foundL wd hg wd).filter fun xs => decide ((manyL xs : Int) = n)
def maxN : List Nat → Nat
  | [] => 0
  | a :: r => max a (maxN r)
def mostL (wd hg : Nat) : Nat := maxN ((foundL wd hg wd).map manyL)
def placesL (hg : Nat) (xs : List V) : List (List Int) := (List.range xs.length).flatMap fun l => if xs[l]? = some V.non then (freeL hg xs l).map fun r => [(l : Int), r] else []
theorem maxN_le {l : List Nat} {n : Nat} (h : n ∈ l) : n ≤ maxN l := by
  induction l with
  | nil => cases h
  | cons a r ih =>
    rcases List.mem_cons.mp h with rfl | h
    · exact Nat.le_max_left _ _
    · exact Nat.le_trans (ih h) (Nat.le_max_right _ _)
/-- what is asked of the counts of a board -/
def chk (w h : Nat) : Bool :=
  decide ((ofL w h 0).length = 1) && decide ((ofL w h 1).length = w * h) && decide (((ofL w h 2).length : Int) = (w : Int) * ((w : Int) - 1) * h * ((h : Int) - 1) / 2) &&
  decide ((ofL w h (mostL w h + 1)).length = 0) && decide (mostL h w = mostL w h) && decide ((ofL h w (mostL w h)).length = (ofL w h (mostL w h)).length) &&
  (ofL w h (mostL w h)).all fun xs => unlB xs && decide (placesL h xs = []) && decide (mostL w h ≤ 4)
theorem chk_all : ∀ w < 4, ∀ h < 4, chk (w + 1) (h + 1) = true := by decide +kernel
end U.S
-- part Y2
set_option Elab.async false
set_option linter.all false
set_option maxRecDepth 100000
set_option maxHeartbeats 4000000
/-! k52: with_point, need_unlike, free_rows, places_left, is_stuck -/
namespace U.S
open PySem L2 PyProof.Rows
theorem sm_upd {H : Hp} {p : Addr} {o : HO} (h : H p = none) : Same H (upd H p o) := fun b u hb => by rw [upd_ne (ne_of_none hb h)]; exact hb
theorem rows_set {v : V} (hv : v ≠ .non) : ∀ {xs : List V} {i : Nat}, xs[i]? = some V.non → (rowsOf (xs.set i v)).Perm (v :: rowsOf xs)
  | [], _, h => by simp at h
  | x :: xs, 0, h => by
    have : x = .non := by simpa using h
    subst this
    rw [List.set_cons_zero]
    unfold rowsOf
    rw [List.filter_cons_of_pos (by simpa using hv), List.filter_cons_of_neg (by simp)]
  | x :: xs, i + 1, h => by
    have ih := rows_set hv (xs := xs) (i := i) (by simpa using h)
    rw [List.set_cons_succ]
    unfold rowsOf at ih ⊢
    by_cases z : (!decide (x = V.non)) = true
    · rw [List.filter_cons_of_pos (p := fun x => !decide (x = V.non)) z, List.filter_cons_of_pos (p := fun x => !decide (x = V.non)) z]
      exact (ih.cons x).trans (List.Perm.swap v x _)
    · rw [List.filter_cons_of_neg (p := fun x => !decide (x = V.non)) z, List.filter_cons_of_neg (p := fun x => !decide (x = V.non)) z]
      exact ih
theorem in_of_mem {r : Int} {xs : List V} (h : V.int r ∈ xs) : inV (.int r) xs = true := by
  unfold inV
  exact List.any_eq_true.mpr ⟨_, h, by simp [eqV]⟩
theorem lay_put {wd hg : Int} {xs : List V} {i : Nat} {r : Int} (h : IsLay wd hg xs) (hi : xs[i]? = some V.non) (h0 : 0 ≤ r) (h1 : r < hg) (hn : inV (.int r) xs = false) : IsLay wd hg (xs.set i (.int r)) := by
  have pm := rows_set (v := .int r) (by intro z; cases z) hi
  refine ⟨by rw [List.length_set]; exact h.len, fun x hx => ?_, pm.nodup_iff.mpr (List.nodup_cons.mpr ⟨fun m => ?_, h.nd⟩)⟩
  · rcases List.mem_cons.mp (pm.mem_iff.mp hx) with rfl | hx
    · show (decide (0 ≤ r) && decide (r ≤ hg - 1)) = true
      rw [decide_eq_true h0, decide_eq_true (by omega)]
      rfl
    · exact h.row x hx
  · have := in_of_mem (List.mem_filter.mp m).1
    rw [hn] at this
    cases this
theorem lay_flat {wd hg : Int} {xs : List V} (h : IsLay wd hg xs) : xs.all flatV = true := List.all_eq_true.mpr fun v hv => by
  rcases h.ok v hv with rfl | ⟨i, rfl⟩ <;> rfl
theorem catA_i {K : PySem.W.Frag} {H : Hp} {a b : Addr} {xs ys : List V} {Q : VK} (h1 : H a = some (.tup xs)) (h2 : H b = some (.tup ys)) (hl : xs.length + ys.length ≤ 1000) (q : ∀ t H', Same H H' → H' t = some (.tup (xs ++ ys)) → Q (.ref t) H') : rCatA K (.ref a) (.ref b) H Q := by
  cases xs with
  | nil => exact .inl ⟨a, b, ys, rfl, rfl, SqT.of h1, SqT.of h2, q b H (Same.refl _) h2⟩
  | cons x xs =>
    refine .inr ⟨a, b, _, _, rfl, rfl, SqT.of h1, SqT.of h2, by simp, by rw [sizeLine_eq]; omega, fun e => ?_, fun _ p hp => q p _ (sm_upd hp) upd_same⟩
    subst e
    exact q a H (Same.refl _) (by rw [List.append_nil]; exact h1)
theorem cut_to {xs : List V} {i : Nat} (h : i < xs.length) : cutV xs none (some (i : Int)) = xs.take i := by
  unfold cutV
  rw [HT.sIx_none, HT.sIx_nat, Nat.min_eq_left (by omega)]
  simp
theorem cut_from {xs : List V} {i : Nat} (h : i < xs.length) : cutV xs (some ((i : Int) + 1)) none = xs.drop (i + 1) := by
  unfold cutV
  rw [show (i : Int) + 1 = ((i + 1 : Nat) : Int) from rfl, HT.sIx_none, HT.sIx_nat, Nat.min_eq_left (by omega)]
  exact List.take_of_length_le (by simp)
section
variable {P : Program} {w : World} {K : PySem.W.Frag} {mg : Str → Option Value} {base : Heap}
abbrev sWP : Stmt := top 18
def spWP : Sp := fun vs H Q _ => ∃ (l : Addr) (xs : List V) (i : Nat) (v : V), vs = [.ref l, .int i, v] ∧ H l = some (.tup xs) ∧ i < xs.length ∧ xs.length ≤ 12 ∧ ∀ t H', Same H H' → H' t = some (.tup (xs.set i v)) → Q (.ref t) H'
theorem scWP : FnScope ["lay", "line", "row"] ["lay", "line", "row"] (defScope sWP) := ⟨rfl, rfl, rfl, by decide +kernel, rfl, by decide +kernel, by decide +kernel⟩
theorem ok_wp {f : Addr} {fd : FuncData} (F : Fun K "with_point" "with_point" sWP f fd) : FnOk P w K mg base CX0 1 f fd ["lay", "line", "row"] spWP := by
  refine F.ok scWP (fun vs H Q E h => ?_) (fun cdv A outer s H vs Q E hr h => ?_)
  · obtain ⟨l, xs, i, v, rfl, _⟩ := h
    rfl
  · obtain ⟨l, xs, i, v, rfl, hl, hi, h12, q⟩ := h
    refine ⟨_, pss_one (ps_ret (pe_op op_catA (pe_op op_catA (pe_slice sl_tup (pv 0) po_none (po_some (pv 1))) (pe_tup (pa_cons (pv 2) pa_nil))) (pe_slice sl_tup (pv 0) (po_some (pe_op op_add (pv 1) pe_int)) po_none))), ?_⟩
    refine ⟨_, rfl, _, rfl, _, rfl, l, xs, rfl, SqT.of hl, ?_, fun p hp => ?_⟩
    · rintro ⟨_, z⟩
      rw [HT.sIx_nat] at z
      omega
    have s1 := sm_upd (o := .tup (cutV xs none (some (i : Int)))) hp
    have e1 : upd H p (.tup (cutV xs none (some (i : Int)))) p = some (.tup (cutV xs none (some (i : Int)))) := upd_same
    generalize upd H p (HO.tup (cutV xs none (some (i : Int)))) = H1 at s1 e1
    rw [cut_to hi] at e1
    refine ⟨_, rfl, (by show 1 ≤ sizeLine; decide), fun p2 hp2 => ?_⟩
    have s2 := sm_upd (o := .tup [v]) hp2
    have e2 : upd H1 p2 (.tup [v]) p2 = some (.tup [v]) := upd_same
    generalize upd H1 p2 (HO.tup [v]) = H2 at s2 e2
    refine catA_i (s2 _ _ e1) e2 (by rw [List.length_take]; simp; omega) fun t3 H3 s3 e3 => ?_
    refine ⟨_, rfl, _, rfl, _, _, rfl, rfl, _, rfl, l, xs, rfl, SqT.of ((s1.trans (s2.trans s3)) _ _ hl), ?_, fun p4 hp4 => ?_⟩
    · rintro ⟨z, _⟩
      rw [show (i : Int) + 1 = ((i + 1 : Nat) : Int) from rfl, HT.sIx_nat] at z
      omega
    have s4 := sm_upd (o := .tup (cutV xs (some ((i : Int) + 1)) none)) hp4
    have e4 : upd H3 p4 (.tup (cutV xs (some ((i : Int) + 1)) none)) p4 = some (.tup (cutV xs (some ((i : Int) + 1)) none)) := upd_same
    generalize upd H3 p4 (HO.tup (cutV xs (some ((i : Int) + 1)) none)) = H4 at s4 e4
    rw [cut_from hi] at e4
    refine catA_i (s4 _ _ e3) e4 (by rw [List.length_append, List.length_take, List.length_drop]; simp; omega) fun t5 H5 s5 e5 => ?_
    refine q t5 H5 (s1.trans (s2.trans (s3.trans (s4.trans s5)))) ?_
    rw [e5, List.append_assoc, List.set_eq_take_append_cons_drop, if_pos hi]
    rfl
abbrev sNU : Stmt := top 25
def spNU : Sp := fun vs H Q _ => ∃ x y wd hg xs, vs = [x, y] ∧ LayAt H x y wd hg xs ∧ unlB xs = true ∧ ∀ (H' : Hp), Same H H' → Q .non H'
theorem scNU : FnScope ["board", "lay"] ["board", "lay"] (defScope sNU) := ⟨rfl, rfl, rfl, by decide +kernel, rfl, by decide +kernel, by decide +kernel⟩
theorem ok_nu {f : Addr} {fd : FuncData} (F : Fun K "need_unlike" "need_unlike" sNU f fd) (D1 : Def P w K mg base 11 "is_unlike" ["board", "lay"] spUnl) : FnOk P w K mg base CX0 12 f fd ["board", "lay"] spNU := by
  refine F.ok scNU (fun vs H Q E h => ?_) (fun cdv A outer s H vs Q E hr h => ?_)
  · obtain ⟨x, y, wd, hg, xs, rfl, _⟩ := h
    rfl
  · obtain ⟨x, y, wd, hg, xs, rfl, l, u, q⟩ := h
    refine ⟨_, pss_one (ps_if (pt_not (pt_val (pe_callD D1 hr (pa_cons (pv 0) (pa_cons (pv 1) pa_nil))))) pss_never pss_nil), ?_⟩
    refine ⟨x, rfl, y, rfl, x, y, wd, hg, xs, rfl, l, fun H' r sm fi => ⟨_, rfl, ?_⟩⟩
    rw [unl_bl fi, u]
    exact iteF (q H' sm)
def freeTo (xs : List V) (l : Nat) (i : Nat) : List Int := ((List.range i).map fun (k : Nat) => (k : Int)).filter fun r => !inV (.int r) xs && unlB (xs.set l (.int r))
theorem freeTo_succ (xs : List V) (l i : Nat) : freeTo xs l (i + 1) = freeTo xs l i ++ (if (!inV (.int (i : Int)) xs && unlB (xs.set l (.int (i : Int)))) = true then [(i : Int)] else []) := by
  unfold freeTo
  rw [List.range_succ, List.map_append, List.filter_append]
  cases h : (!inV (.int (i : Int)) xs && unlB (xs.set l (.int (i : Int)))) <;> simp_all
abbrev sFR : Stmt := top 27
def spFR : Sp := fun vs H Q _ => ∃ (b l : Addr) (i : Nat) (wd hg : Int) (xs : List V), vs = [.ref b, .ref l, .int i] ∧ BoardAt H (.ref b) wd hg ∧ H l = some (.tup xs) ∧ IsLay wd hg xs ∧ xs[i]? = some .non ∧ ∀ (q : Addr) (H' : Hp), Same H H' → H q = none → H' q = some (.lst ((freeL hg.toNat xs i).map V.int)) → Q (.ref q) H'
theorem scFR : FnScope ["board", "lay", "line"] ["board", "lay", "line"] (defScope sFR) := ⟨rfl, rfl, rfl, by decide +kernel, rfl, by decide +kernel, by decide +kernel⟩
theorem ok_fr {f : Addr} {fd : FuncData} (F : Fun K "free_rows" "free_rows" sFR f fd) (G : Gs mg) (Dun : Def P w K mg base 11 "is_unlike" ["board", "lay"] spUnl) (Dwp : Def P w K mg base 1 "with_point" ["lay", "line", "row"] spWP) : FnOk P w K mg base CX0 12 f fd ["board", "lay", "line"] spFR := by
  refine F.ok scFR (fun vs H Q E h => ?_) (fun cdv A outer s H vs Q E hr h => ?_)
  · obtain ⟨b, l, i, wd, hg, xs, rfl, _⟩ := h
    rfl
  · obtain ⟨b, l, i, wd, hg, xs, rfl, bd, hl, ly, hi, q⟩ := h
    refine ⟨_, pss_one (ps_ret (pe_comp ["row", "board", "lay", "line"] 1 [0, 1, 2] (pi_range1 rfl G.range (pa_cons (pe_ix ix_tup (pv 0) pe_int (fun _ _ => rfl)) pa_nil)) (fun C s H fp => pb 0)
      (fun C s H fp => pts_one (PW.pt (pw_and (pt_cmpR (show OpR (blk _ _ _ C s H fp) (compareOp .NotIn) (rIn K true) from op_notIn_seq) (pv 0) (pv 2) rfl) (pw_and1 (pt_val (pe_callD Dun hr (pa_cons (pv 1) (pa_cons (pe_callD Dwp (hr.mono (by decide)) (pa_cons (pv 2) (pa_cons (pv 3) (pa_cons (pv 0) pa_nil)))) pa_nil))))))))
      (fun C s H fp D => pin_emit rfl (pv 0)))), ?_⟩
    obtain ⟨b', eb, hb⟩ := tupOf_some bd.1
    cases eb
    have hi' : i < xs.length := (List.getElem?_eq_some_iff.mp hi).1
    have l12 : xs.length ≤ 12 := by
      have h1 := ly.len
      have h2 := bd.2.2.1
      omega
    have g1 := bd.2.2.2.1
    have g2 := bd.2.2.2.2
    refine ⟨_, rfl, b, _, 1, .int hg, rfl, rfl, SqT.of hb, rfl, _, rfl, by omega, by omega, ?_⟩
    refine nest_range (fun k ys σ H1 => ∃ v, σ = [v, some (.ref b), some (.ref l), some (.int i)] ∧ Same H H1 ∧ ys = (freeTo xs i k).map V.int ∧ ys.length ≤ k) ⟨_, rfl, Same.refl _, rfl, Nat.zero_le _⟩ ?_ ?_
    · rintro k ys σ H1 hk ⟨v, rfl, s1, rfl, hlen⟩
      have es := freeTo_succ xs i k
      rw [Int.zero_add]
      refine gName_i ?_
      dsimp only [List.set]
      refine ⟨_, rfl, _, rfl, l, xs, rfl, .inr (SqT.of (s1 _ _ hl)), rfl, lay_flat ly, _, rfl, ?_⟩
      cases hn : inV (.int (k : Int)) xs with
      | true =>
        rw [hn] at es
        refine iteF ?_
        refine iteF ⟨_, rfl, s1, ?_, by omega⟩
        rw [es]
        simp
      | false =>
        rw [hn] at es
        refine iteT ?_
        refine ⟨_, rfl, _, rfl, _, rfl, _, rfl, l, xs, i, .int (k : Int), rfl, s1 _ _ hl, hi', l12, fun t H2 s2 e2 => ?_⟩
        refine ⟨.ref b, .ref t, wd, hg, _, rfl, ⟨bd.same (s1.trans s2), tupOf_ref e2, lay_put ly hi (by omega) (by omega) hn⟩, fun H3 r s3 fi => ⟨_, rfl, ?_⟩⟩
        rw [unl_bl fi]
        have s13 := s1.trans (s2.trans s3)
        cases hu : unlB (xs.set i (.int (k : Int))) with
        | true =>
          rw [hu] at es
          refine iteT ⟨_, rfl, by rw [sizeLine_eq]; omega, ⟨_, rfl, s13, ?_, by rw [List.length_append]; simp at hlen ⊢; omega⟩⟩
          rw [es]
          simp
        | false =>
          rw [hu] at es
          refine iteF ⟨_, rfl, s13, ?_, by omega⟩
          rw [es]
          simp
    · rintro ys σ H1 ⟨v, rfl, s1, rfl, hlen⟩ p hp
      exact q p _ (s1.trans (sm_upd hp)) (s1.free hp) upd_same
end
end U.S
-- part Y3
set_option Elab.async false
set_option linter.all false
set_option maxRecDepth 100000
set_option maxHeartbeats 4000000
/-! k52: places_left, is_stuck, points_many, need_at_most -/
namespace U.S
open PySem L2 PyProof.Rows
theorem flat_len' {α β : Type} (f : α → List β) (n : Nat) : ∀ l : List α, (∀ a ∈ l, (f a).length ≤ n) → (l.flatMap f).length ≤ l.length * n
  | [], _ => by simp
  | a :: l, h => by
    have h1 := h a List.mem_cons_self
    have h2 := flat_len' f n l fun b hb => h b (List.mem_cons_of_mem _ hb)
    rw [List.flatMap_cons, List.length_append, List.length_cons, Nat.succ_mul]
    omega
def placesTo (hg : Nat) (xs : List V) (i : Nat) : List (List Int) := (List.range i).flatMap fun l => if xs[l]? = some V.non then (freeL hg xs l).map fun r => [(l : Int), r] else []
theorem placesTo_succ (hg : Nat) (xs : List V) (i : Nat) : placesTo hg xs (i + 1) = placesTo hg xs i ++ (if xs[i]? = some V.non then (freeL hg xs i).map fun r => [(i : Int), r] else []) := by
  unfold placesTo
  rw [List.range_succ, List.flatMap_append]
  simp
theorem freeL_len (hg : Nat) (xs : List V) (l : Nat) : (freeL hg xs l).length ≤ hg := by
  unfold freeL
  refine Nat.le_trans (List.length_filter_le _ _) ?_
  rw [List.length_map, List.length_range]
  exact Nat.le_refl _
section
variable {P : Program} {w : World} {K : PySem.W.Frag} {mg : Str → Option Value} {base : Heap}
abbrev sPL : Stmt := top 37
def spPL : Sp := fun vs H Q _ => ∃ (b l : Addr) (wd hg : Int) (xs : List V), vs = [.ref b, .ref l] ∧ BoardAt H (.ref b) wd hg ∧ H l = some (.tup xs) ∧ IsLay wd hg xs ∧ unlB xs = true ∧ ∀ (q : Addr) (H' : Hp) (ts : List V), Same H H' → H q = none → H' q = some (.lst ts) → Paired (TpAt H') ts (placesL hg.toNat xs) → Q (.ref q) H'
theorem scPL : FnScope ["board", "lay"] ["board", "lay"] (defScope sPL) := ⟨rfl, rfl, rfl, by decide +kernel, rfl, by decide +kernel, by decide +kernel⟩
theorem ok_pl {f : Addr} {fd : FuncData} (F : Fun K "places_left" "places_left" sPL f fd) (G : Gs mg) (Dnu : Def P w K mg base 12 "need_unlike" ["board", "lay"] spNU) (Dfr : Def P w K mg base 12 "free_rows" ["board", "lay", "line"] spFR) : FnOk P w K mg base CX0 13 f fd ["board", "lay"] spPL := by
  refine F.ok scPL (fun vs H Q E h => ?_) (fun cdv A outer s H vs Q E hr h => ?_)
  · obtain ⟨b, l, wd, hg, xs, rfl, _⟩ := h
    rfl
  · obtain ⟨b, l, wd, hg, xs, rfl, bd, hl, ly, un, q⟩ := h
    refine ⟨_, pss_cons (ps_expr (pe_callD Dnu hr (pa_cons (pv 0) (pa_cons (pv 1) pa_nil))))
      (pss_one (ps_ret (pe_comp ["line", "elder", "row", "board", "lay"] 3 [0, 1] (pi_enum rfl G.enumerate (pa_cons (pv 1) pa_nil))
        (fun C s H fp => show PG (blk _ _ _ C s H fp) _ (gTup K 2 (gCons (gName 0) (gCons (gName 1) gNil))) from pg_tup rfl (pgs_cons (pb 0) (pgs_cons (pb 1) pgs_nil)))
        (fun C s H fp => pts_one (pt_cmp (pc_isN (pv 1))))
        (fun C s H fp D => pin_nest rfl rfl rfl (show PI (blk _ _ _ C s H fp) _ _ (iList K _) from pi_list (pe_callD Dfr hr (pa_cons (pv 3) (pa_cons (pv 4) (pa_cons (pv 0) pa_nil)))))
          (show PG (blk _ _ _ C s H fp) _ (gName 2) from pb 2) pts_nil (pin_emit rfl (pe_tup (pa_cons (pv 0) (pa_cons (pv 2) pa_nil)))) (by intro _; rfl) (by intro g' h; cases h))))), ?_⟩
    have l12 : xs.length ≤ 12 := by
      have h1 := ly.len
      have h2 := bd.2.2.1
      omega
    have g2 := bd.2.2.2.2
    refine ⟨_, rfl, _, rfl, .ref b, .ref l, wd, hg, xs, rfl, ⟨bd, tupOf_ref hl, ly⟩, un, fun H1 s1 => ?_⟩
    refine ⟨_, rfl, l, rfl, ⟨xs, SqT.of (s1 _ _ hl)⟩, ?_⟩
    refine nest_enum (xs := xs) (fun i ys σ H2 => ∃ v0 v1 v2, σ = [v0, v1, v2, some (.ref b), some (.ref l)] ∧ Same H1 H2 ∧ Paired (TpAt H2) ys (placesTo hg.toNat xs i) ∧ ys.length ≤ i * 12) ⟨_, _, _, rfl, Same.refl _, .nil, Nat.zero_le _⟩ (fun i ys σ H2 _ ⟨_, _, _, _, s2, _⟩ => SqT.of ((s1.trans s2) _ _ hl)) ?_ ?_
    · rintro i v T ys σ H2 hv hT ⟨v0, v1, v2, rfl, s2, pr2, hl2⟩
      have hi : i < xs.length := (List.getElem?_eq_some_iff.mp hv).1
      have sT := sm_upd (o := .par [.int (i : Int), v]) hT
      refine ⟨T, _, rfl, SqT.ofP upd_same, rfl, _, _, rfl, _, _, rfl, rfl, ?_⟩
      refine ⟨_, rfl, _, rfl, ?_⟩
      generalize upd H2 T (HO.par [V.int (i : Int), v]) = H3 at sT
      have es := placesTo_succ hg.toNat xs i
      rw [hv] at es
      rcases ly.ok v (List.mem_of_getElem? hv) with rfl | ⟨r, rfl⟩
      · refine iteT ?_
        rw [if_pos rfl] at es
        refine ⟨_, rfl, _, rfl, _, rfl, b, l, i, wd, hg, xs, rfl, bd.same (s1.trans (s2.trans sT)), (s1.trans (s2.trans sT)) _ _ hl, ly, hv, fun fa H4 s4 nf ef => ?_⟩
        have fl := freeL_len hg.toNat xs i
        generalize freeL hg.toNat xs i = fs at ef es fl
        refine ⟨fa, rfl, ⟨_, SqL.of ef⟩, ?_⟩
        refine nest_list (xs := fs.map V.int) (fun j ys σ H5 => ∃ v2, σ = [some (.int (i : Int)), some .non, v2, some (.ref b), some (.ref l)] ∧ Same H4 H5 ∧ Paired (TpAt H5) ys (placesTo hg.toNat xs i ++ (fs.take j).map fun r => [(i : Int), r]) ∧ ys.length ≤ i * 12 + j) ⟨_, rfl, Same.refl _, by simpa using Paired.mapP pr2 fun v q' hq => hq.same (sT.trans s4), hl2⟩ (fun i ys σ H2 _ ⟨_, _, s2, _⟩ => SqL.of (s2 _ _ ef)) ?_ ?_
        · rintro j v ys σ H5 hv' ⟨v2, rfl, s5, pr5, hl5⟩
          rw [List.getElem?_map] at hv'
          obtain ⟨r, hr', rfl⟩ := Option.map_eq_some_iff.mp hv'
          have hj : j < fs.length := (List.getElem?_eq_some_iff.mp hr').1
          refine gName_i ?_
          dsimp only [List.set]
          unfold tTrue
          refine iteT (?_ : tEmit _ _ _ _ _)
          refine ⟨_, rfl, _, rfl, (by show 2 ≤ sizeLine; decide), fun t6 ht6 => ⟨by rw [sizeLine_eq]; omega, ?_⟩⟩
          have s6 := sm_upd (o := .tup [.int (i : Int), .int r]) ht6
          refine ⟨_, rfl, s5.trans s6, ?_, by rw [List.length_append]; simp; omega⟩
          rw [List.take_add_one, hr', List.map_append, ← List.append_assoc]
          exact Paired.snoc (Paired.mapP pr5 fun v q' hq => hq.same s6) ⟨t6, rfl, upd_same⟩
        · rintro ys σ H5 ⟨v2, rfl, s5, pr5, hl5⟩
          rw [List.length_map] at pr5 hl5
          refine ⟨_, _, _, rfl, s2.trans (sT.trans (s4.trans s5)), ?_, by omega⟩
          rw [es]
          rw [List.take_length] at pr5
          exact pr5
      · refine iteF ?_
        refine ⟨_, _, _, rfl, s2.trans sT, ?_, by omega⟩
        rw [es, if_neg (by intro z; cases z), List.append_nil]
        exact Paired.mapP pr2 fun v q' hq => hq.same sT
    · rintro ys σ H2 ⟨v0, v1, v2, rfl, s2, pr2, hl2⟩ p hp
      have s4 := sm_upd (o := .lst ys) hp
      exact q p _ ys (s1.trans (s2.trans s4)) ((s1.trans s2).free hp) upd_same (Paired.mapP pr2 fun v q' hq => hq.same s4)
abbrev sSK : Stmt := top 38
def spSK : Sp := fun vs H Q _ => ∃ (b l : Addr) (wd hg : Int) (xs : List V), vs = [.ref b, .ref l] ∧ BoardAt H (.ref b) wd hg ∧ H l = some (.tup xs) ∧ IsLay wd hg xs ∧ unlB xs = true ∧ ∀ (H' : Hp), Same H H' → Q (.bl (placesL hg.toNat xs).isEmpty) H'
theorem scSK : FnScope ["board", "lay"] ["board", "lay"] (defScope sSK) := ⟨rfl, rfl, rfl, by decide +kernel, rfl, by decide +kernel, by decide +kernel⟩
theorem paired_empty {α β : Type} {R : α → β → Prop} {xs : List α} {ys : List β} (h : Paired R xs ys) : xs.isEmpty = ys.isEmpty := by
  cases h <;> rfl
theorem ok_sk {f : Addr} {fd : FuncData} (F : Fun K "is_stuck" "is_stuck" sSK f fd) (Dpl : Def P w K mg base 13 "places_left" ["board", "lay"] spPL) : FnOk P w K mg base CX0 14 f fd ["board", "lay"] spSK := by
  refine F.ok scSK (fun vs H Q E h => ?_) (fun cdv A outer s H vs Q E hr h => ?_)
  · obtain ⟨b, l, wd, hg, xs, rfl, _⟩ := h
    rfl
  · obtain ⟨b, l, wd, hg, xs, rfl, bd, hl, ly, un, q⟩ := h
    refine ⟨_, pss_one (ps_ret (pe_cmpR (op_eqE (Nat.lt_of_succ_lt (hu_of hr))) (pe_callD Dpl hr (pa_cons (pv 0) (pa_cons (pv 1) pa_nil))) (pe_lst pa_nil) (nomark _))), ?_⟩
    refine ⟨_, rfl, _, rfl, b, l, wd, hg, xs, rfl, bd, hl, ly, un, fun p H1 ts s1 np ep pr => ?_⟩
    refine ⟨by show 0 ≤ sizeLine; decide, fun c hc => ⟨p, c, ts, rfl, rfl, SqL.of (sm_upd hc _ _ ep), SqL.of upd_same, ?_⟩⟩
    rw [paired_empty pr]
    exact q _ (s1.trans (sm_upd hc))
abbrev sPM : Stmt := top 31
def spPM : Sp := fun vs H Q _ => ∃ (l : Addr) (xs : List V), vs = [.ref l] ∧ H l = some (.tup xs) ∧ xs.all flatV = true ∧ Q (.int (manyL xs)) H
theorem scPM : FnScope ["lay"] ["lay"] (defScope sPM) := ⟨rfl, rfl, rfl, by decide +kernel, rfl, by decide +kernel, by decide +kernel⟩
theorem many_count (xs : List V) : (xs.length : Int) - ((xs.countP fun y => eqV y .non : Nat) : Int) = (manyL xs : Int) := by
  unfold manyL
  induction xs with
  | nil => rfl
  | cons x xs ih =>
    rw [List.countP_cons, List.filter_cons, List.length_cons]
    have e : eqV x .non = decide (x = V.non) := by cases x <;> rfl
    rw [e]
    cases hd : decide (x = V.non)
    · rw [if_neg Bool.false_ne_true, show (!false) = true from rfl, if_pos rfl, List.length_cons]
      omega
    · rw [if_pos rfl, show (!true) = false from rfl, if_neg Bool.false_ne_true]
      omega
theorem ok_pm {f : Addr} {fd : FuncData} (F : Fun K "points_many" "points_many" sPM f fd) (G : Gs mg) : FnOk P w K mg base CX0 1 f fd ["lay"] spPM := by
  refine F.ok scPM (fun vs H Q E h => ?_) (fun cdv A outer s H vs Q E hr h => ?_)
  · obtain ⟨l, xs, rfl, _⟩ := h
    rfl
  · obtain ⟨l, xs, rfl, hl, fl, q⟩ := h
    refine ⟨_, pss_one (ps_ret (pe_op op_sub (pe_callB call_len_seq rfl G.len boot_len (pa_cons (pv 0) pa_nil)) (pe_bm PySem.F.plainAttrs_tuple PySem.F.slot_tuple_count PySem.F.type_tuple_count mt_tcount (pv 0) (pa_cons pe_non pa_nil)))), ?_⟩
    refine ⟨_, rfl, l, xs, rfl, .inr (SqT.of hl), _, rfl, ?ty, l, xs, .non, rfl, rfl, SqT.of hl, rfl, fl, _, _, rfl, rfl, ?_⟩
    case ty => exact .inr (.inl ⟨rfl, .inr ⟨_, hl⟩⟩)
    have e := many_count xs
    show Q (.int ((xs.length : Int) - ((xs.countP fun y => eqV y .non : Nat) : Int))) H
    rw [e]
    exact q
abbrev sNA : Stmt := top 15
def spNA : Sp := fun vs H Q _ => ∃ (b : Addr) (wd hg W T : Int), vs = [.ref b, .int W, .int T] ∧ H b = some (.tup [.int wd, .int hg]) ∧ wd ≤ W ∧ hg ≤ T ∧ Q .non H
theorem scNA : FnScope ["board", "wide", "high"] ["board", "wide", "high"] (defScope sNA) := ⟨rfl, rfl, rfl, by decide +kernel, rfl, by decide +kernel, by decide +kernel⟩
theorem ok_na {f : Addr} {fd : FuncData} (F : Fun K "need_at_most" "need_at_most" sNA f fd) : FnOk P w K mg base CX0 1 f fd ["board", "wide", "high"] spNA := by
  refine F.ok scNA (fun vs H Q E h => ?_) (fun cdv A outer s H vs Q E hr h => ?_)
  · obtain ⟨b, wd, hg, W, T, rfl, _⟩ := h
    rfl
  · obtain ⟨b, wd, hg, W, T, rfl, hb, h1, h2, q⟩ := h
    refine ⟨_, pss_one (ps_if (PW.pt (pw_or (pt_cmpR op_gt (pe_ix ix_tup (pv 0) pe_int (fun _ _ => rfl)) (pv 1) (nomark _)) (pw_or1 (pt_cmpR op_gt (pe_ix ix_tup (pv 0) pe_int (fun _ _ => rfl)) (pv 2) (nomark _))))) pss_never pss_nil), ?_⟩
    refine ⟨_, rfl, b, _, 0, .int wd, rfl, rfl, SqT.of hb, rfl, _, rfl, _, _, rfl, rfl, _, rfl, ?_⟩
    rw [decide_eq_false (by omega)]
    refine iteF ?_
    refine ⟨_, rfl, b, _, 1, .int hg, rfl, rfl, SqT.of hb, rfl, _, rfl, _, _, rfl, rfl, _, rfl, ?_⟩
    rw [decide_eq_false (by omega)]
    exact iteF q
end
end U.S
-- part Y4
set_option Elab.async false
set_option linter.all false
set_option maxRecDepth 100000
set_option maxHeartbeats 4000000
/-! k52: unlike_lays, unlike_of, most, most_lays, many_of -/
namespace U.S
open PySem L2 PyProof.Rows
theorem rep_one' (n : Nat) (v : V) : (List.replicate n [v]).flatten = List.replicate n v := by
  induction n with
  | zero => rfl
  | succ n ih => rw [List.replicate_succ, List.flatten_cons, ih, List.replicate_succ]; rfl
/-! ### what the lays that are found are -/
theorem rows_rep (n : Nat) : rowsOf (List.replicate n V.non) = [] := by
  unfold rowsOf
  exact List.filter_eq_nil_iff.mpr fun x hx => by rw [List.eq_of_mem_replicate hx]; simp
theorem pts_rep (n : Nat) : pointsL (List.replicate n V.non) = [] := by
  unfold pointsL
  rw [List.filterMap_eq_nil_iff]
  intro l hl
  unfold rowAt
  rw [List.getElem?_replicate]
  split <;> rfl
theorem found_ok (w h : Nat) : ∀ i, ∀ xs ∈ foundL w h i, IsLay w h xs ∧ unlB xs = true ∧ ∀ j, i ≤ j → j < w → xs[j]? = some V.non
  | 0, xs, hx => by
    have e : xs = List.replicate w V.non := by simpa [foundL] using hx
    subst e
    refine ⟨⟨by rw [List.length_replicate], fun r hr => ?_, by rw [rows_rep]; exact List.nodup_nil⟩, ?_, fun j _ hj => by rw [List.getElem?_replicate, if_pos hj]⟩
    · rw [rows_rep] at hr
      cases hr
    · unfold unlB
      rw [pts_rep]
      rfl
  | i + 1, xs, hx => by
    unfold foundL at hx
    obtain ⟨ys, hy, hm⟩ := List.mem_flatMap.mp hx
    obtain ⟨h1, h2, h3⟩ := found_ok w h i ys hy
    obtain ⟨v, hv, rfl⟩ := List.mem_map.mp hm
    have hlen : ys.length = w := by have := h1.len; omega
    have later : ∀ v j, i + 1 ≤ j → j < w → (ys.set i v)[j]? = some V.non := fun v j hj hjw => by
      rw [List.getElem?_set_ne (by omega)]
      exact h3 j (by omega) hjw
    by_cases hi : i < w
    · have hn := h3 i (Nat.le_refl _) hi
      rcases List.mem_cons.mp hv with rfl | hv
      · have e : ys.set i V.non = ys := by
          refine List.ext_getElem? fun j => ?_
          by_cases hj : i = j
          · subst hj
            rw [List.getElem?_set_self (by omega), hn]
          · rw [List.getElem?_set_ne hj]
        rw [e]
        exact ⟨h1, h2, fun j hj hjw => h3 j (by omega) hjw⟩
      · obtain ⟨r, hr, rfl⟩ := List.mem_map.mp hv
        unfold freeL at hr
        obtain ⟨hr1, hr2⟩ := List.mem_filter.mp hr
        obtain ⟨k, hk, rfl⟩ := List.mem_map.mp hr1
        rw [List.mem_range] at hk
        rw [Bool.and_eq_true, Bool.not_eq_true'] at hr2
        exact ⟨lay_put h1 hn (by omega) (by omega) hr2.1, hr2.2, later _⟩
    · have e : ∀ v, ys.set i v = ys := fun v => List.set_eq_of_length_le (by omega)
      rw [e]
      exact ⟨h1, h2, fun j hj hjw => by omega⟩
theorem found_len (w h : Nat) : ∀ i, (foundL w h i).length ≤ (h + 1) ^ i
  | 0 => by simp [foundL]
  | i + 1 => by
    have ih := found_len w h i
    unfold foundL
    refine Nat.le_trans (flat_len' _ (h + 1) _ fun a _ => ?_) ?_
    · have := freeL_len h a i
      simp
      exact this
    · rw [Nat.pow_succ]
      exact Nat.mul_le_mul_right _ ih
theorem pow_small {h i : Nat} (hh : h ≤ 5) (hi : i ≤ 5) : (h + 1) ^ i ≤ 7776 :=
  Nat.le_trans (Nat.pow_le_pow_left (by omega : h + 1 ≤ 6) i) (Nat.pow_le_pow_right (by decide) hi)
def LtAt (H : Hp) (v : V) (xs : List V) : Prop := ∃ t : Addr, v = .ref t ∧ H t = some (.tup xs)
theorem LtAt.same {H H' : Hp} {v : V} {xs : List V} (h : LtAt H v xs) (s : Same H H') : LtAt H' v xs := let ⟨t, e, h1⟩ := h; ⟨t, e, s _ _ h1⟩
def putAll (hg : Nat) (i : Nat) (xs : List V) : List (List V) := (V.non :: (freeL hg xs i).map V.int).map fun v => xs.set i v
def foundTo (w h i : Nat) (j : Nat) : List (List V) := ((foundL w h i).take j).flatMap (putAll h i)
theorem foundTo_succ {w h i j : Nat} {xs : List V} (e : (foundL w h i)[j]? = some xs) : foundTo w h i (j + 1) = foundTo w h i j ++ putAll h i xs := by
  unfold foundTo
  rw [List.take_add_one, e, List.flatMap_append]
  simp
section
variable {P : Program} {w : World} {K : PySem.W.Frag} {mg : Str → Option Value} {base : Heap}
abbrev sUL : Stmt := top 32
def spUL : Sp := fun vs H Q _ => ∃ (b : Addr) (wd hg : Int), vs = [.ref b] ∧ BoardAt H (.ref b) wd hg ∧ wd ≤ 5 ∧ hg ≤ 5 ∧ ∀ (q : Addr) (H' : Hp) (ts : List V), Same H H' → H q = none → H' q = some (.lst ts) → Paired (LtAt H') ts (foundL wd.toNat hg.toNat wd.toNat) → Q (.ref q) H'
theorem scUL : FnScope ["board", "found", "line"] ["board"] (defScope sUL) := ⟨rfl, rfl, rfl, by decide +kernel, rfl, by decide +kernel, by decide +kernel⟩
theorem ok_ul {f : Addr} {fd : FuncData} (F : Fun K "unlike_lays" "unlike_lays" sUL f fd) (G : Gs mg) (Dna : Def P w K mg base 1 "need_at_most" ["board", "wide", "high"] spNA) (Dwp : Def P w K mg base 1 "with_point" ["lay", "line", "row"] spWP) (Dfr : Def P w K mg base 12 "free_rows" ["board", "lay", "line"] spFR) : FnOk P w K mg base CX0 13 f fd ["board"] spUL := by
  obtain ⟨tk1, hL1⟩ := G.mwide
  obtain ⟨tk2, hL2⟩ := G.mhigh
  refine F.ok scUL (fun vs H Q E h => ?_) (fun cdv A outer s H vs Q E hr h => ?_)
  · obtain ⟨b, wd, hg, rfl, _⟩ := h
    rfl
  · obtain ⟨b, wd, hg, rfl, bd, w5, h5, q⟩ := h
    refine ⟨_, pss_cons (ps_expr (pe_callD Dna (hr.mono (by decide)) (pa_cons (pv 0) (pa_cons (pe_glob (v := .int 5) rfl hL1 ⟨_, rfl⟩) (pa_cons (pe_glob (v := .int 5) rfl hL2 ⟨_, rfl⟩) pa_nil)))))
      (pss_cons (ps_set (i := 1) scUL.nd rfl (Or.inl rfl) (pe_lst (pa_cons (pe_op op_repT (pe_tup (pa_cons pe_non pa_nil)) (pe_ix ix_tup (pv 0) pe_int (fun _ _ => rfl))) pa_nil)))
      (pss_cons (ps_for PassesOwn.never rfl (pi_range1 rfl G.range (pa_cons (pe_ix ix_tup (pv 0) pe_int (fun _ _ => rfl)) pa_nil)) (pg_name (i := 2) scUL.nd rfl (Or.inr rfl))
        (pss_one (ps_setC ["lay", "row", "board", "line"] 2 [0, 2] (i := 1) scUL.nd rfl (Or.inl rfl) (pi_list (pv 1)) (fun C s H fp => pb 0) (fun C s H fp => pts_nil)
          (fun C s H fp D => pin_nest rfl rfl rfl (show PI (blk _ _ _ C s H fp) _ _ (iList K _) from pi_list (pe_op op_cat (pe_lst (pa_cons pe_non pa_nil)) (pe_callD Dfr hr (pa_cons (pv 2) (pa_cons (pv 0) (pa_cons (pv 3) pa_nil))))))
            (show PG (blk _ _ _ C s H fp) _ (gName 1) from pb 1) pts_nil (pin_emit rfl (pe_callD Dwp (hr.mono (by decide)) (pa_cons (pv 0) (pa_cons (pv 3) (pa_cons (pv 1) pa_nil))))) (by intro _; rfl) (by intro g' h; cases h)))))
      (pss_one (ps_ret (pv 1))))), ?_⟩
    obtain ⟨b', eb, hb⟩ := tupOf_some bd.1
    cases eb
    have g0 := bd.2.1
    have g1 := bd.2.2.2.1
    have eW : (wd.toNat : Int) = wd := by omega
    have eH : (hg.toNat : Int) = hg := by omega
    refine ⟨_, rfl, b, wd, hg, 5, 5, rfl, hb, w5, h5, ?_⟩
    dsimp only
    refine tSeq_i (tAsg_i ⟨(by show 1 ≤ sizeLine; decide), fun p hp => ⟨_, rfl, b, _, 0, .int wd, rfl, rfl, SqT.of (sm_upd hp _ _ hb), rfl, p, wd, [.non], rfl, rfl, upd_same, by simp, g0, by omega, by simp; omega, fun c H1 s1 e1 => ⟨(by show 1 ≤ sizeLine; decide), fun p2 hp2 => gName_i ?_⟩⟩⟩)
    dsimp only [List.set]
    have s01 := (sm_upd hp).trans s1
    have s2 := sm_upd (o := .lst [.ref c]) hp2
    have e2 : upd H1 p2 (.lst [.ref c]) p2 = some (.lst [.ref c]) := upd_same
    generalize upd H1 p2 (HO.lst [V.ref c]) = H2 at s2 e2
    have n2 := s01.free hp2
    have s02 := s01.trans s2
    refine tSeq_i ⟨_, rfl, b, _, 0, .int wd, rfl, rfl, SqT.of (s02 _ _ hb), rfl, _, rfl, by omega, by omega, ?_⟩
    refine for_range (fun i σ H' => ∃ fa ts v, σ = [some (.ref b), some (.ref fa), v] ∧ Same H H' ∧ H fa = none ∧ H' fa = some (.lst ts) ∧ Paired (LtAt H') ts (foundL wd.toNat hg.toNat i)) ⟨p2, _, _, rfl, s02, n2, e2, ?_⟩ ?_ ?_
    · rw [rep_one' wd.toNat V.non] at e1
      exact .cons ⟨c, rfl, s2 _ _ e1⟩ .nil
    · rintro i σ H3 hi ⟨fa, ts, v, rfl, s3, nfa, efa, pr3⟩
      rw [Int.zero_add]
      refine gName_i ?_
      dsimp only [List.set]
      have lts := Paired.length pr3
      have lfo := Nat.le_trans (found_len wd.toNat hg.toNat i) (pow_small (by omega) (by omega))
      refine ⟨_, rfl, fa, rfl, ⟨ts, SqL.of efa⟩, ?_⟩
      refine nest_list (xs := ts) (fun j ys σ H4 => ∃ v0 v1, σ = [v0, v1, some (.ref b), some (.int (i : Int))] ∧ Same H3 H4 ∧ Paired (LtAt H4) ys (foundTo wd.toNat hg.toNat i j) ∧ ys.length ≤ j * 6) ⟨_, _, rfl, Same.refl _, .nil, Nat.zero_le _⟩ (fun i ys σ H2 _ ⟨_, _, _, s2, _⟩ => SqL.of (s2 _ _ efa)) ?_ ?_
      · rintro j v ys σ H4 hv ⟨v0, v1, rfl, s4, pr4, hl4⟩
        obtain ⟨xs, hxs, t, rfl, ht⟩ := Paired.at pr3 hv
        have hj : j < ts.length := (List.getElem?_eq_some_iff.mp hv).1
        obtain ⟨ly, un, lat⟩ := found_ok wd.toNat hg.toNat i xs (List.mem_of_getElem? hxs)
        rw [eW, eH] at ly
        have hx := lat i (Nat.le_refl _) (by omega)
        have ht4 := s4 _ _ ht
        refine gName_i ?_
        dsimp only [List.set]
        unfold tTrue
        refine iteT ?_
        refine ⟨(by show 1 ≤ sizeLine; decide), fun p5 hp5 => ?_⟩
        have s5 := sm_upd (o := .lst [.non]) hp5
        have e5 : upd H4 p5 (.lst [.non]) p5 = some (.lst [.non]) := upd_same
        generalize upd H4 p5 (HO.lst [V.non]) = H5 at s5 e5
        refine ⟨_, rfl, _, rfl, _, rfl, b, t, i, wd, hg, xs, rfl, bd.same (s3.trans (s4.trans s5)), s5 _ _ ht4, ly, hx, fun fb H6 s6 nf ef => ?_⟩
        have fl := freeL_len hg.toNat xs i
        have es := foundTo_succ (w := wd.toNat) (h := hg.toNat) (i := i) hxs
        unfold putAll at es
        generalize freeL hg.toNat xs i = fs at ef es fl
        refine ⟨p5, fb, _, _, rfl, rfl, s6 _ _ e5, ef, by rw [sizeLine_eq]; simp; omega, fun p7 hp7 => ?_⟩
        have s7 := sm_upd (o := .lst ([.non] ++ fs.map V.int)) hp7
        have e7 : upd H6 p7 (.lst ([.non] ++ fs.map V.int)) p7 = some (.lst ([.non] ++ fs.map V.int)) := upd_same
        generalize upd H6 p7 (HO.lst ([.non] ++ fs.map V.int)) = H7 at s7 e7
        refine ⟨p7, rfl, ⟨_, SqL.of e7⟩, ?_⟩
        have s47 := s5.trans (s6.trans s7)
        generalize hvs : ([V.non] ++ fs.map V.int) = vs at e7
        have lvs : vs.length ≤ 6 := by
          rw [← hvs]
          simp
          omega
        have es' : foundTo wd.toNat hg.toNat i (j + 1) = foundTo wd.toNat hg.toNat i j ++ vs.map fun v => xs.set i v := by
          rw [es, ← hvs]
          rfl
        refine nest_list (xs := vs) (fun k ys σ H8 => ∃ v1, σ = [some (.ref t), v1, some (.ref b), some (.int (i : Int))] ∧ Same H7 H8 ∧ Paired (LtAt H8) ys (foundTo wd.toNat hg.toNat i j ++ (vs.take k).map fun v => xs.set i v) ∧ ys.length ≤ j * 6 + k) ⟨_, rfl, Same.refl _, by simpa using Paired.mapP pr4 fun v q' hq => hq.same s47, hl4⟩ (fun i ys σ H2 _ ⟨_, _, s2, _⟩ => SqL.of (s2 _ _ e7)) ?_ ?_
        · rintro k v ys σ H8 hv' ⟨v1, rfl, s8, pr8, hl8⟩
          have hk : k < vs.length := (List.getElem?_eq_some_iff.mp hv').1
          refine gName_i ?_
          dsimp only [List.set]
          try unfold tTrue
          refine iteT ?_
          refine ⟨_, rfl, _, rfl, _, rfl, t, xs, i, v, rfl, (s47.trans s8) _ _ ht4, by have := ly.len; omega, by have := ly.len; omega, fun t9 H9 s9 e9 => ⟨by rw [sizeLine_eq]; omega, ?_⟩⟩
          refine ⟨_, rfl, s8.trans s9, ?_, by rw [List.length_append]; simp; omega⟩
          rw [List.take_add_one, hv', List.map_append, ← List.append_assoc]
          exact Paired.snoc (Paired.mapP pr8 fun v q' hq => hq.same s9) ⟨t9, rfl, e9⟩
        · rintro ys σ H8 ⟨v1, rfl, s8, pr8, hl8⟩
          rw [List.take_length] at pr8
          refine ⟨_, _, rfl, s4.trans (s47.trans s8), ?_, by omega⟩
          rw [es']
          exact pr8
      · rintro ys σ H4 ⟨v0, v1, rfl, s4, pr4, hl4⟩ p5 hp5
        have s5 := sm_upd (o := .lst ys) hp5
        refine ⟨p5, ys, _, rfl, s3.trans (s4.trans s5), (s3.trans s4).free hp5, upd_same, ?_⟩
        have e : foundTo wd.toNat hg.toNat i ts.length = foundL wd.toNat hg.toNat (i + 1) := by
          unfold foundTo
          rw [lts, List.take_length]
          rfl
        rw [e] at pr4
        exact Paired.mapP pr4 fun v q' hq => hq.same s5
    · rintro σ H3 ⟨fa, ts, v, rfl, s3, nfa, efa, pr3⟩
      exact ⟨_, rfl, q fa H3 ts s3 nfa efa pr3⟩
end
end U.S
-- part Y5
set_option Elab.async false
set_option linter.all false
set_option maxRecDepth 100000
set_option maxHeartbeats 4000000
/-! k52: unlike_of, most, most_lays, many_of -/
namespace U.S
open PySem L2 PyProof.Rows
def ofTo (w h : Nat) (n : Int) (i : Nat) : List (List V) := ((foundL w h w).take i).filter fun xs => decide ((manyL xs : Int) = n)
theorem ofTo_succ {w h i : Nat} {n : Int} {xs : List V} (e : (foundL w h w)[i]? = some xs) : ofTo w h n (i + 1) = ofTo w h n i ++ (if decide ((manyL xs : Int) = n) = true then [xs] else []) := by
  unfold ofTo
  rw [List.take_add_one, e, List.filter_append]
  cases hh : decide ((manyL xs : Int) = n) <;> simp_all
theorem maxN_mem : ∀ {l : List Nat}, l ≠ [] → maxN l ∈ l
  | [], h => absurd rfl h
  | [a], _ => by simp [maxN]
  | a :: b :: l, _ => by
    have ih := maxN_mem (l := b :: l) (by simp)
    show max a (maxN (b :: l)) ∈ _
    rcases Nat.le_total a (maxN (b :: l)) with z | z
    · rw [Nat.max_eq_right z]; exact List.mem_cons_of_mem _ ih
    · rw [Nat.max_eq_left z]; exact List.mem_cons_self
theorem max_is {l : List Nat} {M : Int} (h : M ∈ l.map fun (n : Nat) => (n : Int)) (hm : ∀ a ∈ l.map fun (n : Nat) => (n : Int), a ≤ M) : M = (maxN l : Int) := by
  obtain ⟨n, hn, rfl⟩ := List.mem_map.mp h
  have h1 := maxN_le hn
  have h2 := hm _ (List.mem_map.mpr ⟨_, maxN_mem (fun z => by rw [z] at hn; cases hn), rfl⟩)
  omega
theorem rep_set (w i : Nat) : (List.replicate w V.non).set i V.non = List.replicate w V.non := by
  refine List.ext_getElem? fun j => ?_
  rw [List.getElem?_set]
  split
  · next e =>
    subst e
    rw [List.length_replicate, List.getElem?_replicate]
  · rfl
theorem found_rep (w h : Nat) : ∀ i, List.replicate w V.non ∈ foundL w h i
  | 0 => by simp [foundL]
  | i + 1 => by
    unfold foundL
    exact List.mem_flatMap.mpr ⟨_, found_rep w h i, List.mem_map.mpr ⟨V.non, List.mem_cons_self, rep_set w i⟩⟩
section
variable {P : Program} {w : World} {K : PySem.W.Frag} {mg : Str → Option Value} {base : Heap}
abbrev sUO : Stmt := top 33
def spUO : Sp := fun vs H Q _ => ∃ (b : Addr) (wd hg n : Int), vs = [.ref b, .int n] ∧ BoardAt H (.ref b) wd hg ∧ wd ≤ 5 ∧ hg ≤ 5 ∧ ∀ (q : Addr) (H' : Hp) (ts : List V), Same H H' → H q = none → H' q = some (.lst ts) → Paired (LtAt H') ts (ofL wd.toNat hg.toNat n) → Q (.ref q) H'
theorem scUO : FnScope ["board", "number"] ["board", "number"] (defScope sUO) := ⟨rfl, rfl, rfl, by decide +kernel, rfl, by decide +kernel, by decide +kernel⟩
theorem ok_uo {f : Addr} {fd : FuncData} (F : Fun K "unlike_of" "unlike_of" sUO f fd) (Dpm : Def P w K mg base 1 "points_many" ["lay"] spPM) (Dul : Def P w K mg base 13 "unlike_lays" ["board"] spUL) : FnOk P w K mg base CX0 14 f fd ["board", "number"] spUO := by
  refine F.ok scUO (fun vs H Q E h => ?_) (fun cdv A outer s H vs Q E hr h => ?_)
  · obtain ⟨b, wd, hg, n, rfl, _⟩ := h
    rfl
  · obtain ⟨b, wd, hg, n, rfl, bd, w5, h5, q⟩ := h
    refine ⟨_, pss_one (ps_ret (pe_comp ["lay", "number"] 1 [1] (pi_list (pe_callD Dul hr (pa_cons (pv 0) pa_nil))) (fun C s H fp => pb 0)
      (fun C s H fp => pts_one (pt_cmpR op_eq (pe_callD Dpm (hr.mono (by decide)) (pa_cons (pv 0) pa_nil)) (pv 1) (nomark _))) (fun C s H fp D => pin_emit rfl (pv 0)))), ?_⟩
    refine ⟨_, rfl, b, wd, hg, rfl, bd, w5, h5, fun fa H1 ts s1 nf ef pr => ?_⟩
    have lfo := Nat.le_trans (found_len wd.toNat hg.toNat wd.toNat) (pow_small (by omega) (by omega))
    have lts := Paired.length pr
    refine ⟨fa, rfl, ⟨ts, SqL.of ef⟩, ?_⟩
    refine nest_list (xs := ts) (fun i ys σ H2 => ∃ v, σ = [v, some (.int n)] ∧ Same H1 H2 ∧ Paired (LtAt H1) ys (ofTo wd.toNat hg.toNat n i) ∧ ys.length ≤ i) ⟨_, rfl, Same.refl _, .nil, Nat.zero_le _⟩ (fun i ys σ H2 _ ⟨_, _, s2, _⟩ => SqL.of (s2 _ _ ef)) ?_ ?_
    · rintro i v ys σ H2 hv ⟨v0, rfl, s2, pr2, hl2⟩
      obtain ⟨xs, hxs, t, rfl, ht⟩ := Paired.at pr hv
      have hi : i < ts.length := (List.getElem?_eq_some_iff.mp hv).1
      have ly := (found_ok wd.toNat hg.toNat wd.toNat xs (List.mem_of_getElem? hxs)).1
      have es := ofTo_succ (n := n) hxs
      refine gName_i ?_
      dsimp only [List.set]
      refine ⟨_, rfl, t, xs, rfl, s2 _ _ ht, lay_flat ly, _, rfl, rfl, _, rfl, ?_⟩
      have z : decide (V.int (manyL xs : Int) = V.int n) = decide ((manyL xs : Int) = n) := by
        rw [decide_eq_decide]
        exact ⟨fun h => by injection h, fun h => by rw [h]⟩
      rw [z]
      cases hh : decide ((manyL xs : Int) = n) with
      | true =>
        rw [hh, if_pos rfl] at es
        refine iteT ⟨_, rfl, by rw [sizeLine_eq]; omega, ⟨_, rfl, s2, ?_, by rw [List.length_append]; simp; omega⟩⟩
        rw [es]
        exact Paired.snoc pr2 ⟨t, rfl, ht⟩
      | false =>
        rw [hh, if_neg Bool.false_ne_true, List.append_nil] at es
        refine iteF ⟨_, rfl, s2, ?_, by omega⟩
        rw [es]
        exact pr2
    · rintro ys σ H2 ⟨v, rfl, s2, pr2, hl2⟩ p hp
      have s4 := sm_upd (o := .lst ys) hp
      refine q p _ ys (s1.trans (s2.trans s4)) ((s1.trans s2).free hp) upd_same ?_
      have e : ofTo wd.toNat hg.toNat n ts.length = ofL wd.toNat hg.toNat n := by
        unfold ofTo ofL
        rw [lts, List.take_length]
      rw [e] at pr2
      exact Paired.mapP pr2 fun v q' hq => hq.same (s2.trans s4)
abbrev sMO : Stmt := top 34
def spMO : Sp := fun vs H Q _ => ∃ (b : Addr) (wd hg : Int), vs = [.ref b] ∧ BoardAt H (.ref b) wd hg ∧ wd ≤ 5 ∧ hg ≤ 5 ∧ ∀ (H' : Hp), Same H H' → Q (.int (mostL wd.toNat hg.toNat)) H'
theorem scMO : FnScope ["board"] ["board"] (defScope sMO) := ⟨rfl, rfl, rfl, by decide +kernel, rfl, by decide +kernel, by decide +kernel⟩
theorem ok_mo {f : Addr} {fd : FuncData} (F : Fun K "most" "most" sMO f fd) (G : Gs mg) (Dnb : Def P w K mg base 4 "need_board" ["board"] (spNeedBoard K)) (Dpm : Def P w K mg base 1 "points_many" ["lay"] spPM) (Dul : Def P w K mg base 13 "unlike_lays" ["board"] spUL) : FnOk P w K mg base CX0 14 f fd ["board"] spMO := by
  refine F.ok scMO (fun vs H Q E h => ?_) (fun cdv A outer s H vs Q E hr h => ?_)
  · obtain ⟨b, wd, hg, rfl, _⟩ := h
    rfl
  · obtain ⟨b, wd, hg, rfl, bd, w5, h5, q⟩ := h
    refine ⟨_, pss_cons (ps_expr (pe_callD Dnb (hr.mono (by decide)) (pa_cons (pv 0) pa_nil)))
      (pss_one (ps_ret (pe_callB call_maxL rfl G.max boot_max (pa_cons (pe_comp ["lay"] 1 [] (pi_list (pe_callD Dul hr (pa_cons (pv 0) pa_nil))) (fun C s H fp => pb 0)
      (fun C s H fp => pts_nil) (fun C s H fp D => pin_emit rfl (pe_callD Dpm (hr.mono (by decide)) (pa_cons (pv 0) pa_nil)))) pa_nil)))), ?_⟩
    refine ⟨_, rfl, .ref b, wd, hg, rfl, bd, fun H0 s0 => ?_⟩
    refine ⟨_, rfl, b, wd, hg, rfl, bd.same s0, w5, h5, fun fa H1 ts s1 nf ef pr => ?_⟩
    have lfo := Nat.le_trans (found_len wd.toNat hg.toNat wd.toNat) (pow_small (by omega) (by omega))
    have lts := Paired.length pr
    refine ⟨fa, rfl, ⟨ts, SqL.of ef⟩, ?_⟩
    refine nest_list (xs := ts) (fun i ys σ H2 => ∃ v, σ = [v] ∧ Same H1 H2 ∧ ys = ((((foundL wd.toNat hg.toNat wd.toNat).take i).map manyL).map fun (n : Nat) => (n : Int)).map V.int ∧ ys.length ≤ i) ⟨_, rfl, Same.refl _, by simp, Nat.zero_le _⟩ (fun i ys σ H2 _ ⟨_, _, s2, _⟩ => SqL.of (s2 _ _ ef)) ?_ ?_
    · rintro i v ys σ H2 hv ⟨v0, rfl, s2, rfl, hl2⟩
      obtain ⟨xs, hxs, t, rfl, ht⟩ := Paired.at pr hv
      have hi : i < ts.length := (List.getElem?_eq_some_iff.mp hv).1
      have ly := (found_ok wd.toNat hg.toNat wd.toNat xs (List.mem_of_getElem? hxs)).1
      refine gName_i ?_
      dsimp only [List.set]
      try unfold tTrue
      refine iteT ?_
      refine ⟨_, rfl, t, xs, rfl, s2 _ _ ht, lay_flat ly, by rw [sizeLine_eq]; omega, ⟨_, rfl, s2, ?_, by rw [List.length_append]; simp at hl2 ⊢; omega⟩⟩
      rw [List.take_add_one, hxs]
      simp
    · rintro ys σ H2 ⟨v, rfl, s2, rfl, hl2⟩ p hp
      rw [lts, List.take_length]
      refine ⟨p, _, rfl, SqL.of upd_same, ?_, fun M hM hle => ?_⟩
      · intro z
        have := found_rep wd.toNat hg.toNat wd.toNat
        rw [List.map_eq_nil_iff, List.map_eq_nil_iff] at z
        rw [z] at this
        cases this
      · rw [max_is hM hle]
        exact q _ (s0.trans (s1.trans (s2.trans (sm_upd hp))))
abbrev sML : Stmt := top 35
def spML : Sp := fun vs H Q _ => ∃ (b : Addr) (wd hg : Int), vs = [.ref b] ∧ BoardAt H (.ref b) wd hg ∧ wd ≤ 5 ∧ hg ≤ 5 ∧ ∀ (q : Addr) (H' : Hp) (ts : List V), Same H H' → H q = none → H' q = some (.lst ts) → Paired (LtAt H') ts (ofL wd.toNat hg.toNat (mostL wd.toNat hg.toNat)) → Q (.ref q) H'
theorem scML : FnScope ["board"] ["board"] (defScope sML) := ⟨rfl, rfl, rfl, by decide +kernel, rfl, by decide +kernel, by decide +kernel⟩
theorem ok_ml {f : Addr} {fd : FuncData} (F : Fun K "most_lays" "most_lays" sML f fd) (Dmo : Def P w K mg base 14 "most" ["board"] spMO) (Duo : Def P w K mg base 14 "unlike_of" ["board", "number"] spUO) : FnOk P w K mg base CX0 15 f fd ["board"] spML := by
  refine F.ok scML (fun vs H Q E h => ?_) (fun cdv A outer s H vs Q E hr h => ?_)
  · obtain ⟨b, wd, hg, rfl, _⟩ := h
    rfl
  · obtain ⟨b, wd, hg, rfl, bd, w5, h5, q⟩ := h
    refine ⟨_, pss_one (ps_ret (pe_callD Duo hr (pa_cons (pv 0) (pa_cons (pe_callD Dmo hr (pa_cons (pv 0) pa_nil)) pa_nil)))), ?_⟩
    refine ⟨_, rfl, _, rfl, b, wd, hg, rfl, bd, w5, h5, fun H1 s1 => ⟨b, wd, hg, _, rfl, bd.same s1, w5, h5, fun fa H2 ts s2 nf ef pr => ?_⟩⟩
    exact q fa H2 ts (s1.trans s2) (s1.free nf) ef pr
abbrev sMY : Stmt := top 36
def spMY : Sp := fun vs H Q _ => ∃ (b : Addr) (wd hg n : Int), vs = [.ref b, .int n] ∧ BoardAt H (.ref b) wd hg ∧ wd ≤ 5 ∧ hg ≤ 5 ∧ 0 ≤ n ∧ n ≤ 12 ∧ ∀ (H' : Hp), Same H H' → Q (.int (ofL wd.toNat hg.toNat n).length) H'
theorem scMY : FnScope ["board", "number"] ["board", "number"] (defScope sMY) := ⟨rfl, rfl, rfl, by decide +kernel, rfl, by decide +kernel, by decide +kernel⟩
theorem ok_my {f : Addr} {fd : FuncData} (F : Fun K "many_of" "many_of" sMY f fd) (G : Gs mg) (Dnb : Def P w K mg base 4 "need_board" ["board"] (spNeedBoard K)) (Dnw : Def P w K mg base 3 "need_whole_within" ["number", "least", "most"] (spNWW K)) (Duo : Def P w K mg base 14 "unlike_of" ["board", "number"] spUO) : FnOk P w K mg base CX0 15 f fd ["board", "number"] spMY := by
  obtain ⟨tk, hL⟩ := G.longest
  refine F.ok scMY (fun vs H Q E h => ?_) (fun cdv A outer s H vs Q E hr h => ?_)
  · obtain ⟨b, wd, hg, n, rfl, _⟩ := h
    rfl
  · obtain ⟨b, wd, hg, n, rfl, bd, w5, h5, n0, n1, q⟩ := h
    refine ⟨_, pss_cons (ps_expr (pe_callD Dnb (hr.mono (by decide)) (pa_cons (pv 0) pa_nil)))
      (pss_cons (ps_expr (pe_callD Dnw (hr.mono (by decide)) (pa_cons (pv 1) (pa_cons pe_int (pa_cons (pe_glob (v := .int 12) rfl hL ⟨_, rfl⟩) pa_nil)))))
      (pss_one (ps_ret (pe_callB call_len_seq rfl G.len boot_len (pa_cons (pe_callD Duo hr (pa_cons (pv 0) (pa_cons (pv 1) pa_nil))) pa_nil))))), ?_⟩
    refine ⟨_, rfl, .ref b, wd, hg, rfl, bd, fun H0 s0 => ?_⟩
    refine ⟨_, rfl, .int n, 0, 12, rfl, ⟨_, .int n⟩, ?_, ?_⟩
    · show (decide (0 ≤ n) && decide (n ≤ 12)) = true
      rw [decide_eq_true n0, decide_eq_true n1]
      rfl
    · refine ⟨_, rfl, _, rfl, b, wd, hg, n, rfl, bd.same s0, w5, h5, fun fa H2 ts s2 nf ef pr => ⟨fa, ts, rfl, .inl (SqL.of ef), ?_⟩⟩
      rw [Paired.length pr]
      exact q H2 (s0.trans s2)
end
end U.S
-- part Y6
set_option Elab.async false
set_option linter.all false
set_option maxRecDepth 100000
set_option maxHeartbeats 4000000
/-! k52: the law's steps and unlike -/
namespace U.S
open PySem L2 PyProof.Rows
def pkTo (ps : List (Int × Int)) (i : Nat) : List (List Int) := (List.range i).flatMap fun k => match ps[k]? with
  | some a => (ps.drop (k + 1)).map (sk a)
  | none => []
theorem pkTo_succ {ps : List (Int × Int)} {i : Nat} {a : Int × Int} (h : ps[i]? = some a) : pkTo ps (i + 1) = pkTo ps i ++ (ps.drop (i + 1)).map (sk a) := by
  unfold pkTo
  rw [List.range_succ, List.flatMap_append]
  simp [h]
theorem pk_to : ∀ ps : List (Int × Int), pkTo ps ps.length = pk ps
  | [] => rfl
  | a :: r => by
    have ih := pk_to r
    unfold pkTo at ih ⊢
    rw [List.length_cons, List.range_succ_eq_map, List.flatMap_cons, List.flatMap_map]
    unfold pk
    rw [← ih]
    rfl
theorem row_int {xs : List V} {i : Nat} {r : Int} (h : rowAt xs i = some r) : atI xs (i : Int) = some (.int r) := by
  refine atI_nat ?_
  unfold rowAt at h
  cases e : xs[i]? with
  | none => rw [e] at h; cases h
  | some v =>
    rw [e] at h
    cases v with
    | int y => have : y = r := Option.some.inj h; rw [this]
    | _ => cases h
theorem pt_at {xs : List V} {q : Int × Int} (h : q ∈ pointsL xs) : atI xs q.1 = some (.int q.2) := by
  obtain ⟨l, hl, hr, e⟩ := mem_pts.mp h
  rw [e]
  exact row_int hr
theorem upd_list {H : Hp} {L : Addr} {zs : List V} {o : HO} (e : H L = some (.lst zs)) {v : V} {k : List Int} (h : TpAt H v k) : TpAt (upd H L o) v k := by
  obtain ⟨t, rfl, ht⟩ := h
  refine ⟨t, rfl, ?_⟩
  rw [upd_ne (fun z => ?_)]
  · exact ht
  · subst z
    rw [e] at ht
    cases ht
theorem same_updN {H H1 : Hp} {L : Addr} {o : HO} (s : Same H H1) (n : H L = none) : Same H (upd H1 L o) := fun b u h => by
  rw [upd_ne (ne_of_none h n)]
  exact s b u h
theorem paired_app {α β : Type} {F : α → β → Prop} : ∀ {a c : List α} {b d : List β}, Paired F a b → Paired F c d → Paired F (a ++ c) (b ++ d)
  | _, _, _, _, .nil, h => h
  | _, _, _, _, .cons x y, h => .cons x (paired_app y h)
theorem pts_len' (xs : List V) : (pointsL xs).length ≤ xs.length := by
  unfold pointsL
  refine Nat.le_trans (List.length_filterMap_le _ _) ?_
  rw [List.length_range]
  exact Nat.le_refl _
section
variable {P : Program} {w : World} {K : PySem.W.Frag} {mg : Str → Option Value} {base : Heap}
abbrev sLS : Stmt := top 43
def spLS : Sp := fun vs H Q _ => ∃ (a : Addr) (xs : List V), vs = [.ref a] ∧ H a = some (.tup xs) ∧ RowsOk xs ∧ xs.length ≤ 12 ∧ ∀ (q : Addr) (H' : Hp) (ts : List V), Same H H' → H q = none → H' q = some (.lst ts) → Paired (TpAt H') ts (pk (pointsL xs)) → ts.length ≤ 144 → Q (.ref q) H'
abbrev nLS : List Str := ["_law_lay", "_law_some", "_law_found", "_law_at", "_law_line"]
theorem scLS : FnScope nLS ["_law_lay"] (defScope sLS) := ⟨rfl, rfl, rfl, by decide +kernel, rfl, by decide +kernel, by decide +kernel⟩
theorem ok_ls {f : Addr} {fd : FuncData} (F : Fun K "_law_steps" "_law_steps" sLS f fd) (G : Gs mg) : FnOk P w K mg base CX0 1 f fd ["_law_lay"] spLS := by
  refine F.ok scLS (fun vs H Q E h => ?_) (fun cdv A outer s H vs Q E hr h => ?_)
  · obtain ⟨a, xs, rfl, _⟩ := h
    rfl
  · obtain ⟨a, xs, rfl, ha, ok, l12, q⟩ := h
    refine ⟨_, pss_cons (ps_setC ["_law_line", "_law_lay"] 1 [0] (i := 1) scLS.nd rfl (Or.inl rfl) (pi_range1 rfl G.range (pa_cons (pe_callB call_len_seq rfl G.len boot_len (pa_cons (pv 0) pa_nil)) pa_nil)) (fun C s H fp => pb 0)
        (fun C s H fp => pts_one (pt_cmp (pc_notN (pe_ix (show IxR (blk _ _ _ C s H fp) (rIxT K) from ix_tup) (pv 1) (pv 0) (fun _ _ => rfl))))) (fun C s H fp D => pin_emit rfl (pv 0)))
      (pss_cons (ps_set (i := 2) scLS.nd rfl (Or.inl rfl) (pe_lst pa_nil))
      (pss_cons (ps_for PassesOwn.never rfl (pi_enumL rfl G.enumerate (pa_cons (pv 1) pa_nil)) (pg_tup rfl (pgs_cons (pg_name (i := 3) scLS.nd rfl (Or.inl rfl)) (pgs_cons (pg_name (i := 4) scLS.nd rfl (Or.inr rfl)) pgs_nil)))
        (pss_one (ps_expr (pe_bm PySem.F.plainAttrs_list PySem.F.slot_list_extend PySem.F.type_list_extend mt_extend (pv 2) (pa_cons
          (pe_comp ["_law_other", "_law_lay", "_law_line"] 1 [0, 4] (pi_list (pe_slice sl_list (pv 1) (po_some (pe_op op_add (pv 3) pe_int)) po_none)) (fun C s H fp => pb 0) (fun C s H fp => pts_nil)
            (fun C s H fp D => pin_emit rfl (pe_tup (pa_cons (pe_op op_sub (pv 0) (pv 2)) (pa_cons (pe_op op_sub (pe_ix (show IxR (blk _ _ _ C s H fp) (rIxT K) from ix_tup) (pv 1) (pv 0) (fun _ _ => rfl)) (pe_ix (show IxR (blk _ _ _ C s H fp) (rIxT K) from ix_tup) (pv 1) (pv 2) (fun _ _ => rfl))) pa_nil))))) pa_nil)))))
      (pss_one (ps_ret (pv 2))))), ?_⟩
    have lpt := pts_len' xs
    refine tSeq_i ⟨_, rfl, a, xs, rfl, .inr (SqT.of ha), _, rfl, by omega, by omega, ?_⟩
    refine nest_range (fun k ys σ H1 => ∃ v, σ = [v, some (.ref a)] ∧ Same H H1 ∧ ys = ((ptsTo xs k).map (·.1)).map V.int ∧ ys.length ≤ k) ⟨_, rfl, Same.refl _, rfl, Nat.zero_le _⟩ ?_ ?_
    · rintro k ys σ H1 hk ⟨v, rfl, s1, rfl, hlen⟩
      have hk' : k < xs.length := by omega
      rw [Int.zero_add]
      refine gName_i ?_
      dsimp only [List.set]
      obtain ⟨v, hv⟩ : ∃ v, xs[k]? = some v := ⟨_, List.getElem?_eq_getElem hk'⟩
      have hat : atI xs (k : Int) = some v := atI_nat hv
      refine ⟨_, rfl, _, rfl, a, xs, (k : Int), v, rfl, rfl, SqT.of (s1 _ _ ha), hat, _, rfl, ?_⟩
      have er : rowAt xs k = rowV v := by unfold rowAt; rw [hv]; rfl
      have es := ptsTo_succ xs k
      rw [er] at es
      rcases ok v (List.mem_of_getElem? hv) with rfl | ⟨r, rfl⟩
      · refine iteF ⟨_, rfl, s1, ?_, by omega⟩
        rw [es]
        simp [rowV]
      · refine iteT ⟨_, rfl, by rw [sizeLine_eq]; omega, ⟨_, rfl, s1, ?_, by rw [List.length_append]; simp at hlen ⊢; omega⟩⟩
        rw [es]
        simp [rowV]
    · rintro ys σ H1 ⟨v, rfl, s1, rfl, hlen⟩ m hm
      have e0 : ptsTo xs (Int.toNat (xs.length : Int)) = pointsL xs := by rw [Int.toNat_natCast]; rfl
      have sm := sm_upd (o := .lst (((ptsTo xs (Int.toNat (xs.length : Int))).map (·.1)).map V.int)) hm
      have em : upd H1 m (.lst (((ptsTo xs (Int.toNat (xs.length : Int))).map (·.1)).map V.int)) m = some (.lst (((ptsTo xs (Int.toNat (xs.length : Int))).map (·.1)).map V.int)) := upd_same
      generalize upd H1 m (HO.lst (((ptsTo xs (Int.toNat (xs.length : Int))).map (·.1)).map V.int)) = H2 at sm em
      rw [e0] at em
      have hmem : ∀ q' ∈ pointsL xs, atI xs q'.1 = some (.int q'.2) := fun q' h => pt_at h
      generalize pointsL xs = ps at em lpt q hmem
      have nm : H m = none := s1.free hm
      have s02 := s1.trans sm
      dsimp only [List.set]
      refine tSeq_i (tAsg_i ⟨by show 0 ≤ sizeLine; decide, fun L hL => gName_i ?_⟩)
      dsimp only [List.set]
      have nL : H L = none := s02.free hL
      have hmL : m ≠ L := ne_of_none em hL
      have sL := sm_upd (o := .lst []) hL
      have eL : upd H2 L (.lst []) L = some (.lst []) := upd_same
      generalize upd H2 L (HO.lst []) = H3 at sL eL
      have s03 := s02.trans sL
      refine tSeq_i ⟨_, rfl, m, rfl, ⟨_, SqL.of (sL _ _ em)⟩, ?_⟩
      refine for_enumL (xs := (ps.map (·.1)).map V.int) (fun i σ H4 => ∃ zs v3 v4, σ = [some (.ref a), some (.ref m), some (.ref L), v3, v4] ∧ Same H H4 ∧ H4 m = some (.lst ((ps.map (·.1)).map V.int)) ∧ H4 L = some (.lst zs) ∧ Paired (TpAt H4) zs (pkTo ps i) ∧ zs.length ≤ i * 12) ⟨_, _, _, rfl, s03, sL _ _ em, eL, .nil, Nat.zero_le _⟩ (fun i σ H4 _ ⟨_, _, _, _, _, e, _⟩ => SqL.of e) ?_ ?_
      · rintro i v T σ H4 hv hT ⟨zs, v3, v4, rfl, s4, em4, eL4, pr4, hl4⟩
        rw [List.getElem?_map, List.getElem?_map] at hv
        obtain ⟨z, hz, rfl⟩ := Option.map_eq_some_iff.mp hv
        obtain ⟨p0, hp0, rfl⟩ := Option.map_eq_some_iff.mp hz
        have hi : i < ps.length := (List.getElem?_eq_some_iff.mp hp0).1
        have sT := sm_upd (o := .par [.int (i : Int), .int p0.1]) hT
        refine ⟨T, _, rfl, SqT.ofP upd_same, rfl, _, _, rfl, _, _, rfl, rfl, ?_⟩
        generalize upd H4 T (HO.par [V.int (i : Int), V.int p0.1]) = H5 at sT
        have eL5 := sT _ _ eL4
        have em5 := sT _ _ em4
        refine ⟨_, rfl, .inl ⟨rfl, _, SqL.of eL5⟩, ?_⟩
        refine ⟨_, rfl, _, rfl, _, _, rfl, rfl, _, rfl, m, _, rfl, SqL.of em5, fun p6 hp6 => ?_⟩
        have hcut : cutV ((ps.map (·.1)).map V.int) (some ((i : Int) + 1)) none = ((ps.drop (i + 1)).map (·.1)).map V.int := by
          rw [cut_from (by simpa using hi), ← List.map_drop, ← List.map_drop]
        rw [hcut]
        have s6 := sm_upd (o := .lst (((ps.drop (i + 1)).map (·.1)).map V.int)) hp6
        have e6 : upd H5 p6 (.lst (((ps.drop (i + 1)).map (·.1)).map V.int)) p6 = some (.lst (((ps.drop (i + 1)).map (·.1)).map V.int)) := upd_same
        generalize upd H5 p6 (HO.lst (((ps.drop (i + 1)).map (·.1)).map V.int)) = H6 at s6 e6
        refine ⟨p6, rfl, ⟨_, SqL.of e6⟩, ?_⟩
        have es := pkTo_succ hp0
        have hsub : ∀ q' ∈ ps.drop (i + 1), atI xs q'.1 = some (.int q'.2) := fun q' h => hmem q' (List.mem_of_mem_drop h)
        have ldr : (ps.drop (i + 1)).length ≤ 12 := by rw [List.length_drop]; omega
        generalize ps.drop (i + 1) = rs at e6 es hsub ldr
        have ha6 := (s4.trans (sT.trans s6)) _ _ ha
        have h0 := hmem p0 (List.mem_of_getElem? hp0)
        refine nest_list (xs := (rs.map (·.1)).map V.int) (fun j ys σ H7 => ∃ v, σ = [v, some (.ref a), some (.int p0.1)] ∧ Same H6 H7 ∧ Paired (TpAt H7) ys ((rs.take j).map (sk p0)) ∧ ys.length ≤ j) ⟨_, rfl, Same.refl _, .nil, Nat.zero_le _⟩ (fun i ys σ H2 _ ⟨_, _, s2, _⟩ => SqL.of (s2 _ _ e6)) ?_ ?_
        · rintro j v ys σ H7 hv' ⟨v0, rfl, s7, pr7, hl7⟩
          rw [List.getElem?_map, List.getElem?_map] at hv'
          obtain ⟨z, hz', rfl⟩ := Option.map_eq_some_iff.mp hv'
          obtain ⟨p1, hp1, rfl⟩ := Option.map_eq_some_iff.mp hz'
          have hj : j < rs.length := (List.getElem?_eq_some_iff.mp hp1).1
          have h1 := hsub p1 (List.mem_of_getElem? hp1)
          have ha7 := SqT.of (K := K) (s7 _ _ ha6)
          refine gName_i ?_
          dsimp only [List.set]
          try unfold tTrue
          refine iteT ?_
          refine ⟨_, rfl, _, rfl, _, _, rfl, rfl, _, rfl, _, rfl, a, xs, p1.1, _, rfl, rfl, ha7, h1, _, rfl, _, rfl, a, xs, p0.1, _, rfl, rfl, ha7, h0, _, _, rfl, rfl, (by show 2 ≤ sizeLine; decide), fun t8 ht8 => ⟨by rw [sizeLine_eq]; omega, ?_⟩⟩
          have s8 := sm_upd (o := .tup [.int (p1.1 - p0.1), .int (p1.2 - p0.2)]) ht8
          refine ⟨_, rfl, s7.trans s8, ?_, by rw [List.length_append]; simp; omega⟩
          rw [List.take_add_one, hp1, List.map_append]
          exact Paired.snoc (Paired.mapP pr7 fun v q' hq => hq.same s8) ⟨t8, rfl, upd_same⟩
        · rintro ys σ H7 ⟨v0, rfl, s7, pr7, hl7⟩ p8 hp8
          rw [List.length_map, List.length_map] at pr7 hl7
          rw [List.take_length] at pr7
          have s8 := sm_upd (o := .lst ys) hp8
          have e8 : upd H7 p8 (.lst ys) p8 = some (.lst ys) := upd_same
          generalize upd H7 p8 (HO.lst ys) = H8 at s8 e8
          have s48 := sT.trans (s6.trans (s7.trans s8))
          have eL8 := s48 _ _ eL4
          have em8 := s48 _ _ em4
          refine ⟨L, p8, zs, ys, rfl, rfl, eL8, e8, by rw [sizeLine_eq]; omega, ?_⟩
          refine ⟨_, _, _, rfl, same_updN (s4.trans s48) nL, ?_, upd_same, ?_, by rw [List.length_append]; omega⟩
          · rw [upd_ne hmL]
            exact em8
          · rw [es]
            exact paired_app (Paired.mapP pr4 fun v q' hq => upd_list eL8 (hq.same s48)) (Paired.mapP pr7 fun v q' hq => upd_list eL8 (hq.same s8))
      · rintro σ H4 ⟨zs, v3, v4, rfl, s4, em4, eL4, pr4, hl4⟩
        rw [List.length_map, List.length_map] at pr4 hl4
        rw [pk_to] at pr4
        exact ⟨_, rfl, q L H4 zs s4 nL eL4 pr4 (by omega)⟩
abbrev sLU : Stmt := top 44
def spLU : Sp := fun vs H Q _ => ∃ (a : Addr) (xs : List V), vs = [.ref a] ∧ H a = some (.tup xs) ∧ RowsOk xs ∧ xs.length ≤ 12 ∧ ∀ (H' : Hp), Same H H' → Q (.bl (unlB xs)) H'
theorem scLU : FnScope ["_law_lay", "_law_some"] ["_law_lay"] (defScope sLU) := ⟨rfl, rfl, rfl, by decide +kernel, rfl, by decide +kernel, by decide +kernel⟩
theorem ok_lu {f : Addr} {fd : FuncData} (F : Fun K "_law_unlike" "_law_unlike" sLU f fd) (G : Gs mg) (Dls : Def P w K mg base 1 "_law_steps" ["_law_lay"] spLS) : FnOk P w K mg base CX0 2 f fd ["_law_lay"] spLU := by
  refine F.ok scLU (fun vs H Q E h => ?_) (fun cdv A outer s H vs Q E hr h => ?_)
  · obtain ⟨a, xs, rfl, _⟩ := h
    rfl
  · obtain ⟨a, xs, rfl, ha, ok, l12, q⟩ := h
    have hu : (cxOf CX0 P w K mg base ["_law_lay", "_law_some"] "_law_unlike" (defScope sLU) f cdv A outer s H E).nox.A.units + 4 < cLine := Nat.lt_of_le_of_lt (Nat.add_le_add_left (by decide : 4 ≤ 64) _) hr.units
    refine ⟨_, pss_cons (ps_set (i := 1) scLU.nd rfl (Or.inl rfl) (pe_callD Dls hr (pa_cons (pv 0) pa_nil)))
      (pss_one (ps_ret (pe_cmpR op_eq (pe_lenSet rfl hu rfl G.len rfl G.set (pv 1)) (pe_callB call_len_seq rfl G.len boot_len (pa_cons (pv 1) pa_nil)) (nomark _)))), ?_⟩
    refine tSeq_i (tAsg_i ⟨_, rfl, a, xs, rfl, ha, ok, l12, fun t H1 ts s1 nt e1 pr l144 => gName_i ?_⟩)
    dsimp only [List.set]
    have lk := Paired.length pr
    refine ⟨_, rfl, t, ts, _, rfl, SqL.of e1, pr, by omega, _, rfl, t, ts, rfl, .inl (SqL.of e1), rfl, ?_⟩
    have z : decide (V.int (lenS (pk (pointsL xs)) : Int) = V.int (ts.length : Int)) = unlB xs := by
      unfold unlB
      rw [decide_eq_decide, lk, ← lenS_eq]
      constructor
      · intro h
        injection h with h
        omega
      · intro h
        rw [h]
    rw [z]
    exact q H1 s1
end
end U.S
-- part Y7
set_option Elab.async false
set_option linter.all false
set_option maxRecDepth 100000
set_option maxHeartbeats 4000000
/-! k52: the law's grown lays are among those found -/
namespace U.S
open PySem L2 PyProof.Rows
theorem fm_congr {α β : Type} {f g : α → Option β} : ∀ {l : List α}, (∀ x ∈ l, f x = g x) → l.filterMap f = l.filterMap g
  | [], _ => rfl
  | a :: l, h => by
    rw [List.filterMap_cons, List.filterMap_cons, h a List.mem_cons_self, fm_congr fun x hx => h x (List.mem_cons_of_mem _ hx)]
theorem pts_pad (xs : List V) (n : Nat) : pointsL (xs ++ List.replicate n V.non) = pointsL xs := by
  unfold pointsL
  rw [List.length_append, List.length_replicate, List.range_add, List.filterMap_append]
  have e2 : (((List.range n).map fun x => xs.length + x).filterMap fun l => (rowAt (xs ++ List.replicate n V.non) l).map fun r => ((l : Int), r)) = [] := by
    rw [List.filterMap_eq_nil_iff]
    intro l hl
    obtain ⟨k, hk, rfl⟩ := List.mem_map.mp hl
    unfold rowAt
    rw [List.getElem?_append_right (by omega), List.getElem?_replicate]
    split <;> rfl
  rw [e2, List.append_nil]
  refine fm_congr fun l hl => ?_
  rw [List.mem_range] at hl
  unfold rowAt
  rw [List.getElem?_append_left hl]
theorem set_mid {x v : V} {t : List V} : ∀ {fs : List V}, (fs ++ x :: t).set fs.length v = fs ++ v :: t
  | [] => rfl
  | a :: fs => by
    show a :: (fs ++ x :: t).set fs.length v = _
    rw [set_mid]
    rfl
abbrev padL (w : Nat) (fs : List V) : List V := fs ++ List.replicate (w - fs.length) V.non
theorem pad_cons {w : Nat} {fs : List V} (h : fs.length < w) : padL w fs = fs ++ V.non :: List.replicate (w - (fs.length + 1)) V.non := by
  unfold padL
  rw [show w - fs.length = (w - (fs.length + 1)) + 1 by omega, List.replicate_succ]
theorem pad_snoc {w : Nat} {fs : List V} {v : V} (h : fs.length < w) : padL w (fs ++ [v]) = (padL w fs).set fs.length v := by
  rw [pad_cons h, set_mid]
  unfold padL
  rw [List.length_append, List.append_assoc]
  rfl
theorem in_pad {w : Nat} {fs : List V} {r : Int} : inV (.int r) (padL w fs) = inV (.int r) fs := by
  unfold inV padL
  rw [List.any_append]
  have : ((List.replicate (w - fs.length) V.non).any fun y => eqV y (.int r)) = false := by
    rw [List.any_eq_false]
    intro x hx
    rw [List.eq_of_mem_replicate hx]
    simp [eqV]
  rw [this, Bool.or_false]
theorem step_non {w h : Nat} {fs : List V} (hm : padL w fs ∈ foundL w h fs.length) (hi : fs.length < w) : padL w (fs ++ [V.non]) ∈ foundL w h (fs.length + 1) := by
  rw [pad_snoc hi]
  exact List.mem_flatMap.mpr ⟨_, hm, List.mem_map.mpr ⟨_, List.mem_cons_self, rfl⟩⟩
theorem step_int {w h : Nat} {fs : List V} {r : Int} (hm : padL w fs ∈ foundL w h fs.length) (hi : fs.length < w) (h0 : 0 ≤ r) (h1 : r < h) (hn : inV (.int r) fs = false) (hu : unlB (fs ++ [.int r]) = true) : padL w (fs ++ [V.int r]) ∈ foundL w h (fs.length + 1) := by
  rw [pad_snoc hi]
  refine List.mem_flatMap.mpr ⟨_, hm, List.mem_map.mpr ⟨_, List.mem_cons_of_mem _ (List.mem_map_of_mem ?_), rfl⟩⟩
  unfold freeL
  refine List.mem_filter.mpr ⟨List.mem_map.mpr ⟨r.toNat, List.mem_range.mpr (by omega), by omega⟩, ?_⟩
  rw [in_pad, hn, ← pad_snoc hi]
  have : unlB (padL w (fs ++ [V.int r])) = unlB (fs ++ [V.int r]) := by
    unfold unlB padL
    rw [pts_pad]
  rw [this, hu]
  rfl
theorem pad_ok {w h : Nat} {fs : List V} {i : Nat} (hm : padL w fs ∈ foundL w h i) : RowsOk fs := fun x hx => (found_ok w h i _ hm).1.ok x (List.mem_append_left _ hx)
section
variable {P : Program} {w : World} {K : PySem.W.Frag} {mg : Str → Option Value} {base : Heap}
abbrev sGR : Stmt := top 45
def spGR : Sp := fun vs H Q _ => ∃ (p b : Addr) (wd hg n : Int), vs = [.ref p, .ref b, .int n] ∧ StAt H p ∧ BoardAt H (.ref b) wd hg ∧ ∀ (l : Addr) (H' : Hp) (xs : List V), SameX p H H' → StAt H' p → H' l = some (.tup xs) → l ≠ p → xs ∈ foundL wd.toNat hg.toNat wd.toNat → Q (.ref l) H'
abbrev nGR : List Str := ["_law_state_here", "_law_board", "_law_bare", "_law_found", "_law_line", "_law_first", "_law_none", "_law_rows", "_law_good"]
theorem scGR : FnScope nGR ["_law_state_here", "_law_board", "_law_bare"] (defScope sGR) := ⟨rfl, rfl, rfl, by decide +kernel, rfl, by decide +kernel, by decide +kernel⟩
theorem ok_gr {f : Addr} {fd : FuncData} (F : Fun K "_law_grown" "_law_grown" sGR f fd) (G : Gs mg) (Dtk : Def P w K mg base 1 "_law_take" ["_law_state_here", "_law_many"] spTake) (Dlu : Def P w K mg base 2 "_law_unlike" ["_law_lay"] spLU) : FnOk P w K mg base CX0 3 f fd ["_law_state_here", "_law_board", "_law_bare"] spGR := by
  refine F.ok scGR (fun vs H Q E h => ?_) (fun cdv A outer s H vs Q E hr h => ?_)
  · obtain ⟨p, b, wd, hg, n, rfl, _⟩ := h
    rfl
  · obtain ⟨p, b, wd, hg, n, rfl, st, bd, q⟩ := h
    have hr1 := hr.mono (show 1 ≤ 2 by decide)
    refine ⟨_, pss_cons (ps_set (i := 3) scGR.nd rfl (Or.inr rfl) (pe_tup pa_nil))
      (pss_cons (ps_for PassesOwn.never rfl (pi_range1 rfl G.range (pa_cons (pe_ix ix_tup (pv 1) pe_int (fun _ _ => rfl)) pa_nil)) (pg_name (i := 4) scGR.nd rfl (Or.inl rfl))
        (pss_cons (ps_asg (pe_tup (pa_cons (pe_callD Dtk hr1 (pa_cons (pv 0) (pa_cons (pe_ix ix_tup (pv 1) pe_int (fun _ _ => rfl)) pa_nil))) (pa_cons (pe_callD Dtk hr1 (pa_cons (pv 0) (pa_cons pe_int pa_nil))) pa_nil))) (pg_tup rfl (pgs_cons (pg_name (i := 5) scGR.nd rfl (Or.inr rfl)) (pgs_cons (pg_name (i := 6) scGR.nd rfl (Or.inl rfl)) pgs_nil))))
        (pss_cons (ps_setC ["_law_k", "_law_board", "_law_first"] 1 [1, 5] (i := 7) scGR.nd rfl (Or.inl rfl) (pi_range1 rfl G.range (pa_cons (pe_ix ix_tup (pv 1) pe_int (fun _ _ => rfl)) pa_nil)) (fun C s H fp => pb 0) (fun C s H fp => pts_nil)
          (fun C s H fp D => pin_emit rfl (pe_op op_mod (pe_op op_add (pv 2) (pv 0)) (pe_ix (show IxR (blk _ _ _ C s H fp) (rIxT K) from ix_tup) (pv 1) pe_int (fun _ _ => rfl)))))
        (pss_cons (ps_setC ["_law_row", "_law_found"] 1 [3] (i := 8) scGR.nd rfl (Or.inl rfl) (pi_list (pv 7)) (fun C s H fp => pb 0)
          (fun C s H fp => pts_one (PW.pt (pw_and (pt_cmpR (show OpR (blk _ _ _ C s H fp) (compareOp .NotIn) (rIn K true) from op_notIn_seq) (pv 0) (pv 1) rfl) (pw_and1 (pt_val (pe_callD Dlu hr (pa_cons (pe_op (show OpR (blk _ _ _ C s H fp) (binaryOp .Add) (rCatA K) from op_catA) (pv 1) (pe_tup (pa_cons (pv 0) pa_nil))) pa_nil))))))) (fun C s H fp D => pin_emit rfl (pv 0)))
        (pss_one (ps_set (i := 3) scGR.nd rfl (Or.inr rfl) (pe_op op_catA (pv 3) (pe_ifExp (PW.pt (pw_or (pt_cmpR (op_eqE hr.units0) (pv 8) (pe_lst pa_nil) (nomark _)) (pw_or1 (pt_cmpR op_lt (pv 6) (pv 2) (nomark _))))) (pe_tup (pa_cons pe_non pa_nil)) (pe_tup (pa_cons (pe_ix ix_list (pv 8) pe_int (fun _ _ => rfl)) pa_nil))))))))))
      (pss_one (ps_ret (pv 3)))), ?_⟩
    obtain ⟨a, e, hb⟩ := tupOf_some bd.1
    cases e
    obtain ⟨_, w1, w2, g1, g2⟩ := id bd
    obtain ⟨u0, v0, e0, _⟩ := id st
    have hbp : b ≠ p := ne_of hb e0 (by intro z; cases z)
    have eH : (hg.toNat : Int) = hg := by omega
    refine tSeq_i (tAsg_i ⟨Nat.zero_le _, fun f0 hf0 => gName_i ?_⟩)
    dsimp only [List.set]
    have s0 := sm_upd (o := .tup []) hf0
    have ef0 : upd H f0 (.tup []) f0 = some (.tup []) := upd_same
    generalize upd H f0 (HO.tup []) = H0 at s0 ef0
    have st0 := st.same s0
    refine tSeq_i ⟨_, rfl, b, _, _, _, rfl, rfl, SqT.of (s0 _ _ hb), at0, wd, rfl, by omega, by omega, ?_⟩
    refine for_range (n := wd.toNat) (fun i σ H2 => ∃ (fa : Addr) (fs : List V) (x4 x5 x6 x7 x8 : Option V), σ = [some (.ref p), some (.ref b), some (.int n), some (.ref fa), x4, x5, x6, x7, x8] ∧ SameX p H H2 ∧ StAt H2 p ∧ H2 fa = some (.tup fs) ∧ fs.length = i ∧ padL wd.toNat fs ∈ foundL wd.toNat hg.toNat i)
      ⟨f0, [], none, none, none, none, none, rfl, s0.x, st0, ef0, rfl, by simp [padL, foundL]⟩ ?_ ?_
    · rintro i σ H2 hi ⟨fa, fs, x4, x5, x6, x7, x8, rfl, k2, st2, hf2, rfl, hm⟩
      rw [Int.zero_add]
      refine gName_i ?_
      dsimp only [List.set]
      have hi' : fs.length < wd.toNat := hi
      have rok := pad_ok hm
      have flat : fs.all flatV = true := List.all_eq_true.mpr fun x hx => by
        rcases rok x hx with z | ⟨j, z⟩ <;> rw [z] <;> rfl
      have hb2 := k2 _ _ hb hbp
      refine tSeq_i (tAsg_i ⟨_, rfl, _, rfl, b, _, _, _, rfl, rfl, SqT.of hb2, at1, p, hg, rfl, st2, by omega, by omega, fun c1 o3 _ _ st3 => ⟨_, rfl, p, 6, rfl, st3, by decide, by decide, fun c2 o4 _ _ st4 => ⟨(by show 2 ≤ sizeLine; decide), fun tt htt => ⟨tt, _, rfl, SqT.of upd_same, rfl, _, _, rfl, _, _, rfl, rfl, ?_⟩⟩⟩⟩)
      have x42 : SameX p H2 (upd (upd H2 p o3) p o4) := SameX.upd.trans SameX.upd
      generalize upd (upd H2 p o3) p o4 = H4 at st4 x42 htt
      have s5 := sm_upd (o := .tup [.int c1, .int c2]) htt
      generalize upd H4 tt (HO.tup [V.int c1, V.int c2]) = H5 at s5
      have st5 := st4.same s5
      have k5 : SameX p H H5 := k2.trans (x42.trans s5.x)
      obtain ⟨uz, vz, ez, _⟩ := id st2
      have hfap : fa ≠ p := ne_of hf2 ez (by intro z; cases z)
      have hf5 := s5 _ _ (x42 _ _ hf2 hfap)
      have hb5 := k5 _ _ hb hbp
      dsimp only [List.set]
      refine tSeq_i ⟨_, rfl, b, _, _, _, rfl, rfl, SqT.of hb5, at1, hg, rfl, by omega, by omega, ?_⟩
      refine nest_range (fun k ys σ' H' => ∃ v rs, σ' = [v, some (.ref b), some (.int c1)] ∧ H' = H5 ∧ ys = rs.map V.int ∧ (∀ r ∈ rs, 0 ≤ r ∧ r < hg) ∧ rs.length ≤ k) ⟨_, [], rfl, rfl, rfl, (fun r h => by cases h), Nat.zero_le _⟩ ?_ ?_
      · rintro k ys σ' H' hk ⟨v, rs, rfl, rfl, rfl, hrs, hlr⟩
        refine gName_i ?_
        dsimp only [List.set]
        try unfold tTrue
        refine iteT ?_
        refine ⟨_, rfl, _, rfl, _, _, rfl, rfl, _, rfl, b, _, _, _, rfl, rfl, SqT.of hb5, at1, _, _, rfl, rfl, by omega, by rw [sizeLine_eq, List.length_map]; omega, ?_⟩
        refine ⟨_, rs ++ [_], rfl, rfl, by rw [List.map_append]; rfl, fun r hr' => ?_, by rw [List.length_append]; simp; omega⟩
        rcases List.mem_append.mp hr' with z | z
        · exact hrs r z
        · rw [List.mem_singleton.mp z]
          exact ⟨Int.emod_nonneg _ (by omega), Int.emod_lt_of_pos _ (by omega)⟩
      · rintro ys σ' H' ⟨v, rs, rfl, rfl, rfl, hrs, hlr⟩ L hL
        have s6 := sm_upd (o := .lst (rs.map V.int)) hL
        have eL : upd H' L (.lst (rs.map V.int)) L = some (.lst (rs.map V.int)) := upd_same
        generalize upd H' L (HO.lst (rs.map V.int)) = H6 at s6 eL
        dsimp only [List.set]
        refine tSeq_i ⟨_, rfl, L, rfl, ⟨_, SqL.of eL⟩, ?_⟩
        refine nest_list (xs := rs.map V.int) (fun j ys σ' H'' => ∃ v gs, σ' = [v, some (.ref fa)] ∧ Same H6 H'' ∧ ys = gs.map V.int ∧ (∀ r ∈ gs, 0 ≤ r ∧ r < hg ∧ inV (.int r) fs = false ∧ unlB (fs ++ [.int r]) = true) ∧ gs.length ≤ j) ⟨_, [], rfl, Same.refl _, rfl, (fun r h => by cases h), Nat.zero_le _⟩ (fun j ys σ' H'' _ ⟨_, _, _, s', _⟩ => SqL.of (s' _ _ eL)) ?_ ?_
        · rintro j y ys σ' H7 hy ⟨v, gs, rfl, s7, rfl, hgs, hlg⟩
          rw [List.getElem?_map] at hy
          obtain ⟨r, hr0, rfl⟩ := Option.map_eq_some_iff.mp hy
          have hj : j < rs.length := (List.getElem?_eq_some_iff.mp hr0).1
          obtain ⟨r0, r1⟩ := hrs r (List.mem_of_getElem? hr0)
          have hf7 := s7 _ _ (s6 _ _ hf5)
          refine gName_i ?_
          dsimp only [List.set]
          refine ⟨_, rfl, _, rfl, fa, fs, rfl, .inr (SqT.of hf7), rfl, flat, _, rfl, ?_⟩
          cases hn : inV (.int r) fs with
          | true => exact iteF (iteF ⟨_, gs, rfl, s7, rfl, hgs, by omega⟩)
          | false =>
            refine iteT ?_
            refine ⟨_, rfl, _, rfl, (by show 1 ≤ sizeLine; decide), fun t8 ht8 => ?_⟩
            have s8 := sm_upd (o := .tup [.int r]) ht8
            have e8 : upd H7 t8 (.tup [.int r]) t8 = some (.tup [.int r]) := upd_same
            generalize upd H7 t8 (HO.tup [V.int r]) = H8 at s8 e8
            refine catA_i (s8 _ _ hf7) e8 (by simp; omega) fun t9 H9 s9 e9 => ?_
            refine ⟨t9, _, rfl, e9, fun x hx => ?_, by rw [List.length_append]; simp; omega, fun H10 s10 => ⟨_, rfl, ?_⟩⟩
            · rcases List.mem_append.mp hx with z | z
              · exact rok x z
              · exact .inr ⟨r, List.mem_singleton.mp z⟩
            have s7' := s7.trans (s8.trans (s9.trans s10))
            cases hu : unlB (fs ++ [.int r]) with
            | true =>
              refine iteT ⟨_, rfl, by rw [sizeLine_eq, List.length_map]; omega, ⟨_, gs ++ [r], rfl, s7', by rw [List.map_append]; rfl, fun r' hr' => ?_, by rw [List.length_append]; simp; omega⟩⟩
              rcases List.mem_append.mp hr' with z | z
              · exact hgs r' z
              · rw [List.mem_singleton.mp z]
                exact ⟨r0, r1, hn, hu⟩
            | false => exact iteF ⟨_, gs, rfl, s7', rfl, hgs, by omega⟩
        · rintro ys σ' H7 ⟨v, gs, rfl, s7, rfl, hgs, hlg⟩ M hM
          have s8 := sm_upd (o := .lst (gs.map V.int)) hM
          have eM : upd H7 M (.lst (gs.map V.int)) M = some (.lst (gs.map V.int)) := upd_same
          generalize upd H7 M (HO.lst (gs.map V.int)) = H8 at s8 eM
          dsimp only [List.set]
          have s58 := s6.trans (s7.trans s8)
          have hf8 := s58 _ _ hf5
          refine tAsg_i ⟨_, rfl, _, rfl, by show 0 ≤ sizeLine; decide, fun c hc => ⟨M, c, _, rfl, rfl, SqL.of (sm_upd hc _ _ eM), SqL.of upd_same, _, rfl, ?_⟩⟩
          have s9 := sm_upd (o := .lst []) hc
          generalize upd H8 c (HO.lst []) = H9 at s9
          have nonT : ∀ {H10 : Hp}, Same H9 H10 → ∀ t, H10 t = none → rCatA K (.ref fa) (.ref t) (upd H10 t (.tup [.non])) fun v H' => gName 3 v [some (.ref p), some (.ref b), some (.int n), some (.ref fa), some (.int (fs.length : Int)), some (.int c1), some (.int c2), some (.ref L), some (.ref M)] H' fun σ2 H2 => ∃ (fa : Addr) (fs' : List V) (x4 x5 x6 x7 x8 : Option V), σ2 = [some (.ref p), some (.ref b), some (.int n), some (.ref fa), x4, x5, x6, x7, x8] ∧ SameX p H H2 ∧ StAt H2 p ∧ H2 fa = some (.tup fs') ∧ fs'.length = fs.length + 1 ∧ padL wd.toNat fs' ∈ foundL wd.toNat hg.toNat (fs.length + 1) := by
            intro H10 s10 t ht
            have s11 := sm_upd (o := .tup [.non]) ht
            have s511 := s58.trans (s9.trans (s10.trans s11))
            refine catA_i (s511 _ _ hf5) upd_same (by simp; omega) fun t9 H12 s12 e12 => gName_i ?_
            exact ⟨t9, _, _, _, _, _, _, rfl, k5.trans (s511.trans s12).x, st5.same (s511.trans s12), e12, by simp, step_non hm hi'⟩
          cases gs with
          | nil => exact iteT ⟨by show 1 ≤ sizeLine; decide, nonT (Same.refl _)⟩
          | cons g gs =>
            refine iteF ⟨_, rfl, _, rfl, _, _, rfl, rfl, _, rfl, ?_⟩
            cases decide (c2 < n) with
            | true => exact iteT ⟨by show 1 ≤ sizeLine; decide, nonT (Same.refl _)⟩
            | false =>
              refine iteF ⟨_, rfl, M, _, 0, .int g, rfl, rfl, SqL.of (s9 _ _ eM), (atI_nat (j := 0) rfl : atI (List.map V.int (g :: gs)) ((0 : Nat) : Int) = some (.int g)), by show 1 ≤ sizeLine; decide, fun t ht => ?_⟩
              have s11 := sm_upd (o := .tup [.int g]) ht
              have s511 := s58.trans (s9.trans s11)
              obtain ⟨m0, m1, m2, m3⟩ := hgs g List.mem_cons_self
              refine catA_i (s511 _ _ hf5) upd_same (by simp; omega) fun t9 H12 s12 e12 => gName_i ?_
              exact ⟨t9, _, _, _, _, _, _, rfl, k5.trans (s511.trans s12).x, st5.same (s511.trans s12), e12, by simp, step_int hm hi' m0 (by omega) m2 m3⟩
    · rintro σ H2 ⟨fa, fs, x4, x5, x6, x7, x8, rfl, k2, st2, hf2, hfl, hm⟩
      obtain ⟨uz, vz, ez, _⟩ := id st2
      have hfap : fa ≠ p := ne_of hf2 ez (by intro z; cases z)
      have e : padL wd.toNat fs = fs := by
        unfold padL
        rw [hfl, Nat.sub_self]
        exact List.append_nil _
      rw [e] at hm
      exact ⟨_, rfl, q fa H2 fs k2 st2 hf2 hfap hm⟩
end
end U.S
-- part Y8
set_option Elab.async false
set_option linter.all false
set_option maxRecDepth 100000
set_option maxHeartbeats 4000000
/-! k52: the law's look at the places -/
namespace U.S
open PySem L2 PyProof.Rows
theorem mem_free {hg : Nat} {xs : List V} {l : Nat} {r : Int} : r ∈ freeL hg xs l ↔ (0 ≤ r ∧ r < hg) ∧ inV (.int r) xs = false ∧ unlB (xs.set l (.int r)) = true := by
  unfold freeL
  rw [List.mem_filter, List.mem_map, Bool.and_eq_true, Bool.not_eq_true']
  constructor
  · rintro ⟨⟨k, hk, rfl⟩, h⟩
    rw [List.mem_range] at hk
    exact ⟨by omega, h⟩
  · rintro ⟨h, h'⟩
    exact ⟨⟨r.toNat, List.mem_range.mpr (by omega), by omega⟩, h'⟩
theorem mem_places {hg : Nat} {xs : List V} {k : List Int} : k ∈ placesL hg xs ↔ ∃ (l : Nat) (r : Int), k = [(l : Int), r] ∧ xs[l]? = some V.non ∧ r ∈ freeL hg xs l := by
  unfold placesL
  rw [List.mem_flatMap]
  constructor
  · rintro ⟨l, hl, h⟩
    by_cases e : xs[l]? = some V.non
    · rw [if_pos e] at h
      obtain ⟨r, hr, rfl⟩ := List.mem_map.mp h
      exact ⟨l, r, rfl, e, hr⟩
    · rw [if_neg e] at h
      cases h
  · rintro ⟨l, r, rfl, e, hr⟩
    refine ⟨l, List.mem_range.mpr (List.getElem?_eq_some_iff.mp e).1, ?_⟩
    rw [if_pos e]
    exact List.mem_map.mpr ⟨r, hr, rfl⟩
theorem paired_mem {α β : Type} {R : α → β → Prop} : ∀ {xs : List α} {ys : List β}, Paired R xs ys → ∀ v ∈ xs, ∃ y ∈ ys, R v y
  | _, _, .nil, v, h => by cases h
  | _, _, .cons a b, v, h => by
    rcases List.mem_cons.mp h with rfl | h
    · exact ⟨_, List.mem_cons_self, a⟩
    · obtain ⟨y, hy, r⟩ := paired_mem b v h
      exact ⟨y, List.mem_cons_of_mem _ hy, r⟩
section
variable {P : Program} {w : World} {K : PySem.W.Frag} {mg : Str → Option Value} {base : Heap}
abbrev sPR : Stmt := top 47
def spPR : Sp := fun vs H Q _ => ∃ (b l : Addr) (wd hg : Int) (xs : List V), vs = [.ref b, .ref l] ∧ BoardAt H (.ref b) wd hg ∧ H l = some (.tup xs) ∧ IsLay wd hg xs ∧ unlB xs = true ∧ ∀ (H' : Hp), Same H H' → Q (.bl true) H'
abbrev nPR : List Str := ["_law_board", "_law_lay", "_law_left", "_law_line", "_law_row", "_law_there"]
theorem scPR : FnScope nPR ["_law_board", "_law_lay"] (defScope sPR) := ⟨rfl, rfl, rfl, by decide +kernel, rfl, by decide +kernel, by decide +kernel⟩
theorem ok_pr {f : Addr} {fd : FuncData} (F : Fun K "_law_places_right" "_law_places_right" sPR f fd) (G : Gs mg) (Dpl : Def P w K mg base 13 "places_left" ["board", "lay"] spPL) (Dsk : Def P w K mg base 14 "is_stuck" ["board", "lay"] spSK) (Dun : Def P w K mg base 11 "is_unlike" ["board", "lay"] spUnl) : FnOk P w K mg base CX0 15 f fd ["_law_board", "_law_lay"] spPR := by
  refine F.ok scPR (fun vs H Q E h => ?_) (fun cdv A outer s H vs Q E hr h => ?_)
  · obtain ⟨b, l, wd, hg, xs, rfl, _⟩ := h
    rfl
  · obtain ⟨b, l, wd, hg, xs, rfl, bd, hl, ly, un, q⟩ := h
    have hu1 := hu_of hr
    have hu := Nat.lt_of_succ_lt hu1
    refine ⟨_, pss_cons (ps_set (i := 2) scPR.nd rfl (Or.inl rfl) (pe_callD Dpl (hr.mono (by decide)) (pa_cons (pv 0) (pa_cons (pv 1) pa_nil))))
      (pss_cons (ps_if (pt_cmpR op_ne (pe_callD Dsk hr (pa_cons (pv 0) (pa_cons (pv 1) pa_nil))) (pe_cmpR (op_eqE hu) (pv 2) (pe_lst pa_nil) (nomark _)) (nomark _)) pss_never pss_nil)
      (pss_cons (ps_for PassesOwn.never rfl (pi_range1 rfl G.range (pa_cons (pe_ix ix_tup (pv 0) pe_int (fun _ _ => rfl)) pa_nil)) (pg_name (i := 3) scPR.nd rfl (Or.inl rfl))
        (pss_one (ps_for PassesOwn.never rfl (pi_range1 rfl G.range (pa_cons (pe_ix ix_tup (pv 0) pe_int (fun _ _ => rfl)) pa_nil)) (pg_name (i := 4) scPR.nd rfl (Or.inl rfl))
          (pss_one (ps_if (PW.pt (pw_and (pt_cmp (pc_isN (pe_ix ix_tup (pv 1) (pv 3) (fun _ _ => rfl)))) (pw_and1 (pt_cmpR op_notIn_seq (pv 4) (pv 1) rfl))))
            (pss_cons (ps_set (i := 5) scPR.nd rfl (Or.inl rfl) (pe_op op_catA (pe_op op_catA (pe_slice sl_tup (pv 1) po_none (po_some (pv 3))) (pe_tup (pa_cons (pv 4) pa_nil))) (pe_slice sl_tup (pv 1) (po_some (pe_op op_add (pv 3) pe_int)) po_none)))
            (pss_one (ps_if (pt_cmpR op_ne (pe_callD Dun (hr.mono (by decide)) (pa_cons (pv 0) (pa_cons (pv 5) pa_nil))) (pe_cmpR (op_inTL hu1) (pe_tup (pa_cons (pv 3) (pa_cons (pv 4) pa_nil))) (pv 2) rfl) (nomark _)) pss_never pss_nil))) pss_nil)))))
      (pss_one (ps_ret (pe_cmpR (op_eqE hu) (pe_comp ["_law_place", "_law_lay"] 1 [1] (pi_list (pv 2)) (fun C s H fp => pb 0)
        (fun C s H fp => pts_one (PW.pt (pw_or (pt_cmp (pc_notN (pe_ix (show IxR (blk _ _ _ C s H fp) (rIxT K) from ix_tup) (pv 1) (pe_ix (show IxR (blk _ _ _ C s H fp) (rIxT K) from ix_tup) (pv 0) pe_int (fun _ _ => rfl)) (fun _ _ => rfl))))
          (pw_or1 (pt_cmpR (show OpR (blk _ _ _ C s H fp) (compareOp .In) (rIn K false) from op_in_seq) (pe_ix (show IxR (blk _ _ _ C s H fp) (rIxT K) from ix_tup) (pv 0) pe_int (fun _ _ => rfl)) (pv 1) rfl)))))
        (fun C s H fp D => pin_emit rfl (pv 0))) (pe_lst pa_nil) (nomark _)))))), ?_⟩
    obtain ⟨b', eb, hb⟩ := tupOf_some bd.1
    cases eb
    obtain ⟨_, w1, w2, g1, g2⟩ := id bd
    have len := ly.len
    have eH : (hg.toNat : Int) = hg := by omega
    refine tSeq_i (tAsg_i ⟨_, rfl, _, rfl, b, l, wd, hg, xs, rfl, bd, hl, ly, un, fun L H1 ts s1 nL eL pr => gName_i ?_⟩)
    dsimp only [List.set]
    refine tSeq_i ⟨_, rfl, _, rfl, b, l, wd, hg, xs, rfl, bd.same s1, s1 _ _ hl, ly, un, fun H2 s2 => ⟨_, rfl, by show 0 ≤ sizeLine; decide, fun c hc => ⟨L, c, ts, rfl, rfl, SqL.of (sm_upd hc _ _ (s2 _ _ eL)), SqL.of upd_same, rfl, ?_⟩⟩⟩
    rw [paired_empty pr, decide_eq_true rfl]
    have s3 := sm_upd (o := .lst []) hc
    generalize upd H2 c (HO.lst []) = H3 at s3
    refine ⟨_, rfl, iteF (tNext_i ?_)⟩
    dsimp only
    have s13 := s2.trans s3
    have s03 := s1.trans s13
    have pr3 := Paired.mapP pr fun v q' hq => TpAt.same hq s13
    have eL3 := s13 _ _ eL
    refine tSeq_i ⟨_, rfl, b, _, _, _, rfl, rfl, SqT.of (s03 _ _ hb), at0, wd, rfl, by omega, by omega, ?_⟩
    refine for_range (n := wd.toNat) (fun i σ H4 => ∃ x3 x4 x5, σ = [some (.ref b), some (.ref l), some (.ref L), x3, x4, x5] ∧ Same H3 H4) ⟨_, _, _, rfl, Same.refl _⟩ ?_ ?_
    · rintro i σ H4 hi ⟨x3, x4, x5, rfl, s4⟩
      rw [Int.zero_add]
      refine gName_i ?_
      dsimp only [List.set]
      refine ⟨_, rfl, b, _, _, _, rfl, rfl, SqT.of ((s03.trans s4) _ _ hb), at1, hg, rfl, by omega, by omega, ?_⟩
      refine for_range (n := hg.toNat) (fun j σ H5 => ∃ x4 x5, σ = [some (.ref b), some (.ref l), some (.ref L), some (.int (i : Int)), x4, x5] ∧ Same H3 H5) ⟨_, _, rfl, s4⟩ ?_ ?_
      · rintro j σ H5 hj ⟨x4, x5, rfl, s5⟩
        rw [Int.zero_add]
        refine gName_i ?_
        dsimp only [List.set]
        have hix : i < xs.length := by omega
        obtain ⟨v, hv⟩ : ∃ v, xs[i]? = some v := ⟨_, List.getElem?_eq_getElem hix⟩
        have hl5 := (s03.trans s5) _ _ hl
        refine ⟨_, rfl, _, rfl, l, xs, (i : Int), v, rfl, rfl, SqT.of hl5, atI_nat hv, _, rfl, ?_⟩
        rcases ly.ok v (List.mem_of_getElem? hv) with rfl | ⟨r, rfl⟩
        · refine iteT ⟨_, rfl, _, rfl, l, xs, rfl, .inr (SqT.of hl5), rfl, lay_flat ly, _, rfl, ?_⟩
          cases hn : inV (.int (j : Int)) xs with
          | true => exact iteF (tNext_i ⟨_, _, rfl, s5⟩)
          | false =>
            refine iteT ?_
            refine tSeq_i (tAsg_i ⟨_, rfl, _, rfl, _, rfl, l, xs, rfl, SqT.of hl5, ?_, fun p hp => ?_⟩)
            · rintro ⟨_, z⟩
              rw [HT.sIx_nat] at z
              omega
            have s6 := sm_upd (o := .tup (cutV xs none (some (i : Int)))) hp
            have e6 : upd H5 p (.tup (cutV xs none (some (i : Int)))) p = some (.tup (cutV xs none (some (i : Int)))) := upd_same
            generalize upd H5 p (HO.tup (cutV xs none (some (i : Int)))) = H6 at s6 e6
            rw [cut_to hix] at e6
            refine ⟨_, rfl, (by show 1 ≤ sizeLine; decide), fun p2 hp2 => ?_⟩
            have s7 := sm_upd (o := .tup [.int (j : Int)]) hp2
            have e7 : upd H6 p2 (.tup [.int (j : Int)]) p2 = some (.tup [.int (j : Int)]) := upd_same
            generalize upd H6 p2 (HO.tup [.int (j : Int)]) = H7 at s7 e7
            refine catA_i (s7 _ _ e6) e7 (by rw [List.length_take]; simp; omega) fun t8 H8 s8 e8 => ?_
            refine ⟨_, rfl, _, rfl, _, _, rfl, rfl, _, rfl, l, xs, rfl, SqT.of ((s6.trans (s7.trans s8)) _ _ hl5), ?_, fun p9 hp9 => ?_⟩
            · rintro ⟨z, _⟩
              rw [show (i : Int) + 1 = ((i + 1 : Nat) : Int) from rfl, HT.sIx_nat] at z
              omega
            have s9 := sm_upd (o := .tup (cutV xs (some ((i : Int) + 1)) none)) hp9
            have e9 : upd H8 p9 (.tup (cutV xs (some ((i : Int) + 1)) none)) p9 = some (.tup (cutV xs (some ((i : Int) + 1)) none)) := upd_same
            generalize upd H8 p9 (HO.tup (cutV xs (some ((i : Int) + 1)) none)) = H9 at s9 e9
            rw [cut_from hix] at e9
            refine catA_i (s9 _ _ e8) e9 (by rw [List.length_append, List.length_take, List.length_drop]; simp; omega) fun t10 H10 s10 e10 => gName_i ?_
            dsimp only [List.set]
            have es : xs.take i ++ [V.int (j : Int)] ++ xs.drop (i + 1) = xs.set i (.int (j : Int)) := by
              rw [List.append_assoc, List.set_eq_take_append_cons_drop, if_pos hix]
              rfl
            rw [es] at e10
            have s510 := s6.trans (s7.trans (s8.trans (s9.trans s10)))
            have s310 := s5.trans s510
            refine ⟨_, rfl, _, rfl, .ref b, .ref t10, wd, hg, _, rfl, ⟨bd.same (s03.trans s310), tupOf_ref e10, lay_put ly hv (by omega) (by omega) hn⟩, fun H11 r s11 fi => ?_⟩
            rw [unl_bl fi]
            refine ⟨_, rfl, _, rfl, (by show 2 ≤ sizeLine; decide), fun t12 ht12 => ?_⟩
            have s12 := sm_upd (o := .tup [.int (i : Int), .int (j : Int)]) ht12
            have e12 : upd H11 t12 (.tup [.int (i : Int), .int (j : Int)]) t12 = some (.tup [.int (i : Int), .int (j : Int)]) := upd_same
            generalize upd H11 t12 (HO.tup [.int (i : Int), .int (j : Int)]) = H12 at s12 e12
            have s312 := s310.trans (s11.trans s12)
            refine ⟨_, rfl, L, ts, [(i : Int), (j : Int)], _, ⟨t12, rfl, e12⟩, rfl, SqL.of (s312 _ _ eL3), Paired.mapP pr3 fun v q' hq => TpAt.same hq s312, rfl, ?_⟩
            have z : unlB (xs.set i (.int (j : Int))) = decide ([(i : Int), (j : Int)] ∈ placesL hg.toNat xs) := by
              rw [Bool.eq_iff_iff, decide_eq_true_iff, mem_places]
              constructor
              · intro h
                exact ⟨i, j, rfl, hv, mem_free.mpr ⟨⟨by omega, by omega⟩, hn, h⟩⟩
              · rintro ⟨l', r', e, _, hf⟩
                injection e with e1 e2
                injection e2 with e2 _
                have e1' : i = l' := by omega
                subst e1' e2
                exact (mem_free.mp hf).2.2
            rw [z, decide_eq_true rfl]
            exact ⟨_, rfl, iteF (tNext_i ⟨_, _, rfl, s312⟩)⟩
        · exact iteF (iteF (tNext_i ⟨_, _, rfl, s5⟩))
      · rintro σ H5 ⟨x4, x5, rfl, s5⟩
        exact ⟨_, _, _, rfl, s5⟩
    · rintro σ H4 ⟨x3, x4, x5, rfl, s4⟩
      have eL4 := s4 _ _ eL3
      refine ⟨_, rfl, L, rfl, ⟨ts, SqL.of eL4⟩, ?_⟩
      refine nest_list (xs := ts) (fun i ys σ H5 => ys = [] ∧ Same H4 H5 ∧ ∃ v, σ = [v, some (.ref l)]) ⟨rfl, Same.refl _, none, rfl⟩ (fun i ys σ H5 _ ⟨_, s5, _⟩ => SqL.of (s5 _ _ eL4)) ?_ ?_
      · rintro i v ys σ H5 hv ⟨rfl, s5, v0, rfl⟩
        have hv2 := List.mem_of_getElem? hv
        obtain ⟨k, hk, t, rfl, ht⟩ := paired_mem pr3 v hv2
        obtain ⟨l', r', rfl, hx, hf⟩ := mem_places.mp hk
        have hn := (mem_free.mp hf).2.1
        have ht5 := (s4.trans s5) _ _ ht
        have hl5 := (s03.trans (s4.trans s5)) _ _ hl
        refine gName_i ?_
        dsimp only [List.set]
        refine ⟨_, rfl, _, rfl, t, _, 0, _, rfl, rfl, SqT.of ht5, at0, l, xs, (l' : Int), _, rfl, rfl, SqT.of hl5, atI_nat hx, _, rfl, ?_⟩
        refine iteF ⟨_, rfl, t, _, 1, _, rfl, rfl, SqT.of ht5, at1, _, rfl, l, xs, rfl, .inr (SqT.of hl5), rfl, lay_flat ly, _, rfl, ?_⟩
        rw [if_neg Bool.false_ne_true, hn]
        exact iteF ⟨rfl, s5, _, rfl⟩
      · rintro ys σ H5 ⟨rfl, s5, v0, rfl⟩ p hp
        refine ⟨by show 0 ≤ sizeLine; decide, fun c hc => ⟨p, c, [], rfl, rfl, SqL.of (sm_upd hc _ _ upd_same), SqL.of upd_same, ?_⟩⟩
        exact q _ (s03.trans (s4.trans (s5.trans ((sm_upd hp).trans (sm_upd hc)))))
end
end U.S
-- part Y9
set_option Elab.async false
set_option linter.all false
set_option maxRecDepth 100000
set_option maxHeartbeats 4000000
/-! k52: the law's look at the counts -/
namespace U.S
open PySem L2 PyProof.Rows
theorem pts_many_all : ∀ w < 4, ∀ h < 4, ((foundL (w + 1) (h + 1) (w + 1)).all fun xs => decide ((pointsL xs).length = manyL xs)) = true := by decide +kernel
structure Chk (wd hg : Int) : Prop where
  c0 : ((ofL wd.toNat hg.toNat 0).length : Int) = 1
  c1 : ((ofL wd.toNat hg.toNat 1).length : Int) = wd * hg
  c2 : ((ofL wd.toNat hg.toNat 2).length : Int) = wd * (wd - 1) * hg * (hg - 1) / 2
  c3 : ((ofL wd.toNat hg.toNat (mostL wd.toNat hg.toNat + 1)).length : Int) = 0
  c4 : mostL hg.toNat wd.toNat = mostL wd.toNat hg.toNat
  c5 : (ofL hg.toNat wd.toNat (mostL wd.toNat hg.toNat)).length = (ofL wd.toNat hg.toNat (mostL wd.toNat hg.toNat)).length
  c6 : ∀ xs ∈ ofL wd.toNat hg.toNat (mostL wd.toNat hg.toNat), unlB xs = true ∧ placesL hg.toNat xs = [] ∧ (pointsL xs).length = mostL wd.toNat hg.toNat
  c7 : ∀ xs ∈ foundL wd.toNat hg.toNat wd.toNat, (pointsL xs).length ≤ mostL wd.toNat hg.toNat
  c8 : mostL wd.toNat hg.toNat ≤ 4
theorem most_le (w h : Nat) (hp : ∀ xs ∈ foundL w h w, (pointsL xs).length = manyL xs) : mostL w h ≤ w := by
  unfold mostL
  have hm := maxN_mem (l := (foundL w h w).map manyL) (fun z => by
    have := found_rep w h w
    rw [List.map_eq_nil_iff] at z
    rw [z] at this
    cases this)
  obtain ⟨xs, hx, e⟩ := List.mem_map.mp hm
  rw [← e, ← hp xs hx]
  have := pts_len' xs
  have l := (found_ok w h w xs hx).1.len
  omega
theorem chk_of {wd hg : Int} (w1 : 1 ≤ wd) (w4 : wd ≤ 4) (h1 : 1 ≤ hg) (h4 : hg ≤ 4) : Chk wd hg := by
  have e := chk_all (wd.toNat - 1) (by omega) (hg.toNat - 1) (by omega)
  have e2 := pts_many_all (wd.toNat - 1) (by omega) (hg.toNat - 1) (by omega)
  rw [show wd.toNat - 1 + 1 = wd.toNat by omega, show hg.toNat - 1 + 1 = hg.toNat by omega] at e e2
  have hp : ∀ xs ∈ foundL wd.toNat hg.toNat wd.toNat, (pointsL xs).length = manyL xs := fun xs hx => of_decide_eq_true (List.all_eq_true.mp e2 xs hx)
  unfold chk at e
  simp only [Bool.and_eq_true, decide_eq_true_eq, List.all_eq_true] at e
  obtain ⟨⟨⟨⟨⟨⟨a0, a1⟩, a2⟩, a3⟩, a4⟩, a5⟩, a6⟩ := e
  have eW : (wd.toNat : Int) = wd := by omega
  have eH : (hg.toNat : Int) = hg := by omega
  refine ⟨by omega, ?_, ?_, by omega, a4, a5, fun xs hx => ?_, fun xs hx => ?_, ?_⟩
  · rw [a1, Int.natCast_mul, eW, eH]
  · rw [a2, eW, eH]
  · obtain ⟨⟨b1, b2⟩, _⟩ := a6 xs hx
    refine ⟨b1, b2, ?_⟩
    obtain ⟨m1, m2⟩ := List.mem_filter.mp hx
    have := of_decide_eq_true m2
    rw [hp xs m1]
    omega
  · rw [hp xs hx]
    exact maxN_le (List.mem_map_of_mem hx)
  · have := most_le wd.toNat hg.toNat hp
    omega
theorem cut_mem {xs : List V} {v : V} {i : Nat} (h : (cutV xs none (some 20))[i]? = some v) : v ∈ xs := by
  have := List.mem_of_getElem? h
  unfold cutV at this
  exact List.mem_of_mem_drop (List.mem_of_mem_take this)
section
variable {P : Program} {w : World} {K : PySem.W.Frag} {mg : Str → Option Value} {base : Heap}
abbrev sCR : Stmt := top 46
def spCR : Sp := fun vs H Q _ => ∃ (b : Addr) (wd hg : Int), vs = [.ref b] ∧ BoardAt H (.ref b) wd hg ∧ wd ≤ 4 ∧ hg ≤ 4 ∧ ∀ (H' : Hp), Same H H' → Q (.bl true) H'
abbrev nCR : List Str := ["_law_board", "_law_wide", "_law_high", "_law_top", "_law_lays_there", "_law_lay"]
theorem scCR : FnScope nCR ["_law_board"] (defScope sCR) := ⟨rfl, rfl, rfl, by decide +kernel, rfl, by decide +kernel, by decide +kernel⟩
theorem ok_cr {f : Addr} {fd : FuncData} (F : Fun K "_law_counts_right" "_law_counts_right" sCR f fd) (G : Gs mg) (Dmo : Def P w K mg base 14 "most" ["board"] spMO) (Dml : Def P w K mg base 15 "most_lays" ["board"] spML) (Dmy : Def P w K mg base 15 "many_of" ["board", "number"] spMY)
    (Dun : Def P w K mg base 11 "is_unlike" ["board", "lay"] spUnl) (Dsk : Def P w K mg base 14 "is_stuck" ["board", "lay"] spSK) (Dpt : Def P w K mg base 7 "points" ["board", "lay"] spPoints) : FnOk P w K mg base CX0 16 f fd ["_law_board"] spCR := by
  refine F.ok scCR (fun vs H Q E h => ?_) (fun cdv A outer s H vs Q E hr h => ?_)
  · obtain ⟨b, wd, hg, rfl, _⟩ := h
    rfl
  · obtain ⟨b, wd, hg, rfl, bd, w4, h4, q⟩ := h
    refine ⟨_, pss_cons (ps_asg (pv 0) (pg_tup rfl (pgs_cons (pg_name (i := 1) scCR.nd rfl (Or.inl rfl)) (pgs_cons (pg_name (i := 2) scCR.nd rfl (Or.inl rfl)) pgs_nil))))
      (pss_cons (ps_par (i := 3) (j := 4) rfl scCR.nd rfl rfl (by decide) rfl rfl (pa_cons (pe_callD Dmo (hr.mono (by decide)) (pa_cons (pv 0) pa_nil)) (pa_cons (pe_callD Dml hr (pa_cons (pv 0) pa_nil)) pa_nil)) rfl)
      (pss_cons (ps_if (PW.pt (pw_or (pt_cmpR op_ne (pe_callB call_len_seq rfl G.len boot_len (pa_cons (pv 4) pa_nil)) (pe_callD Dmy hr (pa_cons (pv 0) (pa_cons (pv 3) pa_nil))) (nomark _))
        (pw_or (pt_cmpR op_ne (pe_callD Dmy hr (pa_cons (pv 0) (pa_cons (pe_op op_add (pv 3) pe_int) pa_nil))) pe_int (nomark _)) (pw_or1 (pt_cmpR op_ne (pe_callD Dmy hr (pa_cons (pv 0) (pa_cons pe_int pa_nil))) pe_int (nomark _)))))) pss_never pss_nil)
      (pss_cons (ps_if (PW.pt (pw_or (pt_cmpR op_ne (pe_callD Dmy hr (pa_cons (pv 0) (pa_cons pe_int pa_nil))) (pe_op op_mul (pv 1) (pv 2)) (nomark _))
        (pw_or1 (pt_cmpR op_ne (pe_callD Dmy hr (pa_cons (pv 0) (pa_cons pe_int pa_nil))) (pe_op op_fdiv (pe_op op_mul (pe_op op_mul (pe_op op_mul (pv 1) (pe_op op_sub (pv 1) pe_int)) (pv 2)) (pe_op op_sub (pv 2) pe_int)) pe_int) (nomark _))))) pss_never pss_nil)
      (pss_cons (ps_for PassesOwn.never rfl (pi_list (pe_slice sl_list (pv 4) po_none (po_some pe_int))) (pg_name (i := 5) scCR.nd rfl (Or.inl rfl))
        (pss_cons (ps_if (PW.pt (pw_or (pt_cmpR op_notB (pe_callD Dun (hr.mono (by decide)) (pa_cons (pv 0) (pa_cons (pv 5) pa_nil))) pe_bl (nomark _)) (pw_or1 (pt_cmpR op_notB (pe_callD Dsk (hr.mono (by decide)) (pa_cons (pv 0) (pa_cons (pv 5) pa_nil))) pe_bl (nomark _))))) pss_never pss_nil)
        (pss_one (ps_if (pt_cmpR op_ne (pe_callB call_len_seq rfl G.len boot_len (pa_cons (pe_callD Dpt (hr.mono (by decide)) (pa_cons (pv 0) (pa_cons (pv 5) pa_nil))) pa_nil)) (pv 3) (nomark _)) pss_never pss_nil))))
      (pss_one (ps_ret (pe_and (pe_cmpR op_eq (pe_callD Dmo (hr.mono (by decide)) (pa_cons (pe_tup (pa_cons (pv 2) (pa_cons (pv 1) pa_nil))) pa_nil)) (pv 3) (nomark _))
        (pe_one (pe_cmpR op_eq (pe_callD Dmy hr (pa_cons (pe_tup (pa_cons (pv 2) (pa_cons (pv 1) pa_nil))) (pa_cons (pv 3) pa_nil))) (pe_callB call_len_seq rfl G.len boot_len (pa_cons (pv 4) pa_nil)) (nomark _)))))))))), ?_⟩
    obtain ⟨b', eb, hb⟩ := tupOf_some bd.1
    cases eb
    obtain ⟨_, w1, w2, g1, g2⟩ := id bd
    have ck := chk_of w1 w4 g1 h4
    have eW : (wd.toNat : Int) = wd := by omega
    have eH : (hg.toNat : Int) = hg := by omega
    have c8 := ck.c8
    refine tSeq_i ⟨_, rfl, b, _, rfl, SqT.of hb, rfl, _, _, rfl, _, _, rfl, rfl, ?_⟩
    dsimp only [List.set]
    refine tSeq_i ⟨_, rfl, b, wd, hg, rfl, bd, by omega, by omega, fun H1 s1 => ⟨_, rfl, b, wd, hg, rfl, bd.same s1, by omega, by omega, fun L H2 ts s2 nL eL pr => ⟨_, _, rfl, ?_⟩⟩⟩
    dsimp only [List.set]
    have s02 := s1.trans s2
    have lts := Paired.length pr
    refine tSeq_i ⟨_, rfl, L, ts, rfl, .inl (SqL.of eL), _, rfl, _, rfl, b, wd, hg, _, rfl, bd.same s02, by omega, by omega, by omega, by omega, fun H3 s3 => ⟨rfl, ?_⟩⟩
    rw [lts, decide_eq_true rfl]
    have s03 := s02.trans s3
    refine ⟨_, rfl, iteF ⟨_, rfl, _, rfl, _, _, rfl, rfl, b, wd, hg, _, rfl, bd.same s03, by omega, by omega, by omega, by omega, fun H4 s4 => ⟨rfl, ?_⟩⟩⟩
    rw [ck.c3, decide_eq_true rfl]
    have s04 := s03.trans s4
    refine ⟨_, rfl, iteF ⟨_, rfl, b, wd, hg, 0, rfl, bd.same s04, by omega, by omega, by omega, by omega, fun H5 s5 => ⟨rfl, ?_⟩⟩⟩
    rw [ck.c0, decide_eq_true rfl]
    have s05 := s04.trans s5
    refine ⟨_, rfl, iteF (tNext_i ?_)⟩
    dsimp only
    refine tSeq_i ⟨_, rfl, b, wd, hg, 1, rfl, bd.same s05, by omega, by omega, by omega, by omega, fun H6 s6 => ⟨_, rfl, _, rfl, _, _, rfl, rfl, .inl ⟨by omega, by omega⟩, rfl, ?_⟩⟩
    rw [ck.c1, decide_eq_true rfl]
    have s06 := s05.trans s6
    refine ⟨_, rfl, iteF ⟨_, rfl, b, wd, hg, 2, rfl, bd.same s06, by omega, by omega, by omega, by omega, fun H7 s7 => ⟨_, rfl, _, rfl, _, _, rfl, rfl, _, _, rfl, rfl, .inl ⟨by omega, by omega⟩, _, rfl, _, _, rfl, rfl, .inr ⟨by omega, by omega⟩, _, rfl, _, _, rfl, rfl, _, _, rfl, rfl, .inr ⟨by omega, by omega⟩, _, _, rfl, rfl, ⟨by decide, by decide⟩, rfl, ?_⟩⟩⟩
    rw [ck.c2, decide_eq_true rfl]
    have s07 := s06.trans s7
    have s27 := s3.trans (s4.trans (s5.trans (s6.trans s7)))
    refine ⟨_, rfl, iteF (tNext_i ?_)⟩
    dsimp only
    have eL7 := s27 _ _ eL
    refine tSeq_i ⟨_, rfl, _, rfl, L, ts, rfl, SqL.of eL7, fun p8 hp8 => ⟨p8, rfl, ⟨_, SqL.of upd_same⟩, ?_⟩⟩
    have s8 := sm_upd (o := .lst (cutV ts none (some 20))) hp8
    have e8 : upd H7 p8 (.lst (cutV ts none (some 20))) p8 = some (.lst (cutV ts none (some 20))) := upd_same
    generalize upd H7 p8 (HO.lst (cutV ts none (some 20))) = H8 at s8 e8
    have s08 := s07.trans s8
    have s28 := s27.trans s8
    refine for_list (xs := cutV ts none (some 20)) (fun i σ H9 => ∃ v, σ = [some (.ref b), some (.int wd), some (.int hg), some (.int (mostL wd.toNat hg.toNat)), some (.ref L), v] ∧ Same H8 H9) ⟨_, rfl, Same.refl _⟩ (fun i σ H9 _ ⟨_, _, s9⟩ => SqL.of (s9 _ _ e8)) ?_ ?_
    · rintro i v σ H9 hv ⟨v5, rfl, s9⟩
      obtain ⟨xs, hxs, t, rfl, ht⟩ := paired_mem pr v (cut_mem hv)
      obtain ⟨k1, k2, k3⟩ := ck.c6 xs hxs
      have ly := (found_ok wd.toNat hg.toNat wd.toNat xs (List.mem_filter.mp hxs).1).1
      rw [eW, eH] at ly
      refine gName_i ?_
      dsimp only [List.set]
      have s09 := s08.trans s9
      have ht9 := (s28.trans s9) _ _ ht
      refine tSeq_i ⟨_, rfl, _, rfl, .ref b, .ref t, wd, hg, xs, rfl, ⟨bd.same s09, tupOf_ref ht9, ly⟩, fun H10 r s10 fi => ⟨_, _, rfl, rfl, ?_⟩⟩
      rw [unl_bl fi, k1]
      refine ⟨_, rfl, iteF ⟨_, rfl, _, rfl, b, t, wd, hg, xs, rfl, bd.same (s09.trans s10), s10 _ _ ht9, ly, k1, fun H11 s11 => ⟨_, _, rfl, rfl, ?_⟩⟩⟩
      rw [k2]
      refine ⟨_, rfl, iteF (tNext_i ?_)⟩
      dsimp only
      have s911 := s10.trans s11
      refine ⟨_, rfl, _, rfl, .ref b, .ref t, wd, hg, xs, rfl, ⟨bd.same (s09.trans s911), tupOf_ref (s911 _ _ ht9), ly⟩, fun lp H12 ps s12 n12 e12 pr12 => ⟨lp, ps, rfl, .inl (SqL.of e12), _, rfl, rfl, ?_⟩⟩
      rw [Paired.length pr12, k3, decide_eq_true rfl]
      exact ⟨_, rfl, iteF (tNext_i ⟨_, rfl, s9.trans (s911.trans s12)⟩)⟩
    · rintro σ H9 ⟨v5, rfl, s9⟩
      have s09 := s08.trans s9
      refine ⟨_, rfl, _, rfl, (by show 2 ≤ sizeLine; decide), fun t10 ht10 => ?_⟩
      have s10 := sm_upd (o := .tup [.int hg, .int wd]) ht10
      have e10 : upd H9 t10 (.tup [.int hg, .int wd]) t10 = some (.tup [.int hg, .int wd]) := upd_same
      generalize upd H9 t10 (HO.tup [.int hg, .int wd]) = H10 at s10 e10
      refine ⟨t10, hg, wd, rfl, ⟨tupOf_ref e10, g1, g2, w1, w2⟩, by omega, by omega, fun H11 s11 => ⟨_, rfl, rfl, ?_⟩⟩
      rw [ck.c4, decide_eq_true rfl]
      refine ⟨_, rfl, iteT ?_⟩
      refine ⟨_, rfl, _, rfl, (by show 2 ≤ sizeLine; decide), fun t12 ht12 => ?_⟩
      have s12 := sm_upd (o := .tup [.int hg, .int wd]) ht12
      have e12 : upd H11 t12 (.tup [.int hg, .int wd]) t12 = some (.tup [.int hg, .int wd]) := upd_same
      generalize upd H11 t12 (HO.tup [.int hg, .int wd]) = H12 at s12 e12
      refine ⟨_, rfl, t12, hg, wd, _, rfl, ⟨tupOf_ref e12, g1, g2, w1, w2⟩, by omega, by omega, by omega, by omega, fun H13 s13 => ?_⟩
      have s913 := s10.trans (s11.trans (s12.trans s13))
      refine ⟨_, rfl, L, ts, rfl, .inl (SqL.of ((s28.trans (s9.trans s913)) _ _ eL)), rfl, ?_⟩
      rw [ck.c5, lts, decide_eq_true rfl]
      exact q _ (s09.trans s913)
end
end U.S
-- part Y10
set_option Elab.async false
set_option linter.all false
set_option maxRecDepth 100000
set_option maxHeartbeats 4000000
/-! k52: the law -/
namespace U.S
open PySem L2 PyProof.Rows
section
variable {P : Program} {w : World} {K : PySem.W.Frag} {mg : Str → Option Value} {base : Heap}
abbrev sLaw : Stmt := top 48
def spLaw (K : PySem.W.Frag) : Sp := fun vs H Q _ => ∃ (a : Addr) (ns : List Int), vs = [.ref a] ∧ ScrAt K H a ns ∧ ns.length ≤ 63 ∧ ∀ H', Q (.bl true) H'
abbrev nLaw : List Str := ["_law_script", "_law_k", "_law_state_here", "_law_board", "_law_lay", "_law_wide"]
theorem scLaw : FnScope nLaw ["_law_script"] (defScope sLaw) := ⟨rfl, rfl, rfl, by decide +kernel, rfl, by decide +kernel, by decide +kernel⟩
theorem ok_law {f : Addr} {fd : FuncData} (F : Fun K "law" "law" sLaw f fd) (G : Gs mg) (Dst : Def P w K mg base 2 "_law_state" ["_law_script", "_law_k"] (spState K)) (Dtk : Def P w K mg base 1 "_law_take" ["_law_state_here", "_law_many"] spTake)
    (Dgr : Def P w K mg base 3 "_law_grown" ["_law_state_here", "_law_board", "_law_bare"] spGR) (Dcr : Def P w K mg base 16 "_law_counts_right" ["_law_board"] spCR) (Dpr : Def P w K mg base 15 "_law_places_right" ["_law_board", "_law_lay"] spPR)
    (Dpt : Def P w K mg base 7 "points" ["board", "lay"] spPoints) (Dmo : Def P w K mg base 14 "most" ["board"] spMO) :
    FnOk P w K mg base CX0 17 f fd ["_law_script"] (spLaw K) := by
  refine F.ok scLaw (fun vs H Q E h => ?_) (fun cdv A outer s H vs Q E hr h => ?_)
  · obtain ⟨a, ns, rfl, _⟩ := h
    rfl
  · obtain ⟨a, ns, rfl, scr, hns, q⟩ := h
    have hr1 := hr.mono (show 1 ≤ 16 by decide)
    have hr3 := hr.mono (show 3 ≤ 16 by decide)
    refine ⟨_, pss_cons (ps_for PassesOwn.never rfl (pi_range1 rfl G.range (pa_cons (pe_callB (call_max2 rfl) rfl G.max boot_max (pa_cons pe_int (pa_cons (pe_callB (call_min2 rfl) rfl G.min boot_min (pa_cons (pe_callB call_len_seq rfl G.len boot_len (pa_cons (pv 0) pa_nil)) (pa_cons pe_int pa_nil))) pa_nil))) pa_nil)) (pg_name (i := 1) scLaw.nd rfl (Or.inl rfl))
        (pss_cons (ps_set (i := 2) scLaw.nd rfl (Or.inl rfl) (pe_callD Dst (hr.mono (by decide)) (pa_cons (pv 0) (pa_cons (pv 1) pa_nil))))
        (pss_cons (ps_set (i := 3) scLaw.nd rfl (Or.inl rfl) (pe_tup (pa_cons (pe_op op_add pe_int (pe_callD Dtk hr1 (pa_cons (pv 2) (pa_cons pe_int pa_nil)))) (pa_cons (pe_op op_add pe_int (pe_callD Dtk hr1 (pa_cons (pv 2) (pa_cons pe_int pa_nil)))) pa_nil))))
        (pss_cons (ps_set (i := 4) scLaw.nd rfl (Or.inl rfl) (pe_callD Dgr hr3 (pa_cons (pv 2) (pa_cons (pv 3) (pa_cons (pe_op op_add pe_int (pe_callD Dtk hr1 (pa_cons (pv 2) (pa_cons pe_int pa_nil)))) pa_nil)))))
        (pss_cons (ps_if (PW.pt (pw_or (pt_not (pt_val (pe_callD Dcr hr (pa_cons (pv 3) pa_nil)))) (pw_or1 (pt_not (pt_val (pe_callD Dpr (hr.mono (by decide)) (pa_cons (pv 3) (pa_cons (pv 4) pa_nil)))))))) pss_never pss_nil)
        (pss_cons (ps_if (pt_cmpR op_gt (pe_callB call_len_seq rfl G.len boot_len (pa_cons (pe_callD Dpt (hr.mono (by decide)) (pa_cons (pv 3) (pa_cons (pv 4) pa_nil))) pa_nil)) (pe_callD Dmo (hr.mono (by decide)) (pa_cons (pv 3) pa_nil)) (nomark _)) pss_never pss_nil)
        (pss_cons (ps_set (i := 5) scLaw.nd rfl (Or.inl rfl) (pe_tup (pa_cons (pe_op op_add pe_int (pe_callD Dtk hr1 (pa_cons (pv 2) (pa_cons pe_int pa_nil)))) (pa_cons (pe_op op_add pe_int (pe_callD Dtk hr1 (pa_cons (pv 2) (pa_cons pe_int pa_nil)))) pa_nil))))
        (pss_one (ps_if (pt_not (pt_val (pe_callD Dpr (hr.mono (by decide)) (pa_cons (pv 5) (pa_cons (pe_callD Dgr hr3 (pa_cons (pv 2) (pa_cons (pv 5) (pa_cons (pe_op op_add pe_int (pe_callD Dtk hr1 (pa_cons (pv 2) (pa_cons pe_int pa_nil)))) pa_nil)))) pa_nil))))) pss_never pss_nil)))))))))
      (pss_one (ps_ret pe_bl)), ?_⟩
    refine tSeq_i ?_
    refine ⟨_, rfl, a, _, rfl, .inl scr.sq, _, _, rfl, _, _, rfl, _, rfl, (by rw [List.length_map]; split <;> split <;> omega), (by rw [List.length_map]; split <;> split <;> omega), ?_⟩
    refine for_range (fun i σ H' => ∃ s1 s2 s3 s4 s5, σ = [some (.ref a), s1, s2, s3, s4, s5] ∧ ScrAt K H' a ns) ⟨_, _, _, _, _, rfl, scr⟩ ?_ ?_
    · rintro i σ H0 hi ⟨s1, s2, s3, s4, s5, rfl, sc⟩
      rw [Int.zero_add]
      refine gName_i ?_
      dsimp only [List.set]
      refine tSeq_i (tAsg_i ⟨_, rfl, _, rfl, a, ns, i, rfl, sc.sq, fun p H1 np q1 st1 => gName_i ?_⟩)
      dsimp only [List.set]
      have step : ∀ {H H' : Hp}, SameX p H H' → StAt H p → ScrAt K H a ns → ScrAt K H' a ns := fun x ⟨u, v, e, _⟩ s => s.x x e (fun _ _ z => by cases z)
      have nep : ∀ {H : Hp} {l : Addr}, StAt H p → H l = none → l ≠ p := fun ⟨_, _, e, _⟩ h z => by rw [z, e] at h; cases h
      have sc1 := sc.same q1
      -- the board
      refine tSeq_i (tAsg_i ⟨_, rfl, p, 4, rfl, st1, by decide, by decide, fun r o r0 r4 st2 => ⟨_, _, rfl, rfl, _, rfl, p, 4, rfl, st2, by decide, by decide, fun r' o' r0' r4' st3 => ⟨_, _, rfl, rfl, (by show 2 ≤ sizeLine; decide), fun b hb => gName_i ?_⟩⟩⟩)
      dsimp only [List.set]
      have x3 : SameX p H1 (upd (upd H1 p o) p o') := SameX.upd.trans SameX.upd
      generalize upd (upd H1 p o) p o' = H3 at st3 x3 hb
      have nb := nep st3 hb
      have q4 := sm_upd (o := .tup [.int (1 + r), .int (1 + r')]) hb
      have eb : upd H3 b (.tup [.int (1 + r), .int (1 + r')]) b = some (.tup [.int (1 + r), .int (1 + r')]) := upd_same
      generalize upd H3 b (HO.tup [.int (1 + r), .int (1 + r')]) = H4 at q4 eb
      have st4 := st3.same q4
      have sc4 := (step x3 st1 sc1).same q4
      have bd : ∀ {H' : Hp}, H' b = some (.tup [.int (1 + r), .int (1 + r')]) → BoardAt H' (.ref b) (1 + r) (1 + r') := fun e => ⟨tupOf_ref e, by omega, by omega, by omega, by omega⟩
      -- its lay
      refine tSeq_i (tAsg_i ⟨_, rfl, _, rfl, _, rfl, p, 5, rfl, st4, by decide, by decide, fun k o5 _ _ st5 => ⟨_, _, rfl, rfl, p, b, 1 + r, 1 + r', _, rfl, st5, ?bd5, fun l H6 xs x6 st6 el nl hm => gName_i ?_⟩⟩)
      case bd5 => exact bd (by rw [upd_ne nb]; exact eb)
      dsimp only [List.set]
      have x5 : SameX p H4 (upd H4 p o5) := SameX.upd
      generalize upd H4 p o5 = H5 at st5 x5 x6
      have sc6 := step x6 st5 (step x5 st4 sc4)
      have eb6 := x6 _ _ (x5 _ _ eb nb) nb
      obtain ⟨ly, un, _⟩ := found_ok _ _ _ xs hm
      have ck := chk_of (wd := 1 + r) (hg := 1 + r') (by omega) (by omega) (by omega) (by omega)
      rw [show ((1 + r).toNat : Int) = 1 + r by omega, show ((1 + r').toNat : Int) = 1 + r' by omega] at ly
      refine tSeq_i ⟨_, rfl, b, 1 + r, 1 + r', rfl, bd eb6, by omega, by omega, fun H7 s7 => ⟨true, rfl, iteF ?_⟩⟩
      refine ⟨_, rfl, _, rfl, b, l, 1 + r, 1 + r', xs, rfl, bd (s7 _ _ eb6), s7 _ _ el, ly, un, fun H8 s8 => ⟨true, rfl, iteF (tNext_i ?_)⟩⟩
      dsimp only
      have s68 := s7.trans s8
      refine tSeq_i ⟨_, rfl, _, rfl, .ref b, .ref l, 1 + r, 1 + r', xs, rfl, ⟨bd (s68 _ _ eb6), tupOf_ref (s68 _ _ el), ly⟩, fun lp H9 ps s9 n9 e9 pr9 => ⟨lp, ps, rfl, .inl (SqL.of e9), _, rfl, b, 1 + r, 1 + r', rfl, bd ((s68.trans s9) _ _ eb6), by omega, by omega, fun H10 s10 => ⟨_, _, rfl, rfl, _, rfl, ?_⟩⟩⟩
      have c7 := ck.c7 xs hm
      have lps := Paired.length pr9
      rw [decide_eq_false (by omega)]
      refine iteF (tNext_i ?_)
      dsimp only
      have s610 := s68.trans (s9.trans s10)
      have st10 := st6.same s610
      have sc10 := sc6.same s610
      -- a wider board
      refine tSeq_i (tAsg_i ⟨_, rfl, p, 9, rfl, st10, by decide, by decide, fun c o11 c0 c9 st11 => ⟨_, _, rfl, rfl, _, rfl, p, 9, rfl, st11, by decide, by decide, fun c' o12 c0' c9' st12 => ⟨_, _, rfl, rfl, (by show 2 ≤ sizeLine; decide), fun d hd => gName_i ?_⟩⟩⟩)
      dsimp only [List.set]
      have x12 : SameX p H10 (upd (upd H10 p o11) p o12) := SameX.upd.trans SameX.upd
      generalize upd (upd H10 p o11) p o12 = H12 at st12 x12 hd
      have nd := nep st12 hd
      have q13 := sm_upd (o := .tup [.int (1 + c), .int (1 + c')]) hd
      have ed : upd H12 d (.tup [.int (1 + c), .int (1 + c')]) d = some (.tup [.int (1 + c), .int (1 + c')]) := upd_same
      generalize upd H12 d (HO.tup [.int (1 + c), .int (1 + c')]) = H13 at q13 ed
      have st13 := st12.same q13
      have sc13 := (step x12 st10 sc10).same q13
      have bd' : ∀ {H' : Hp}, H' d = some (.tup [.int (1 + c), .int (1 + c')]) → BoardAt H' (.ref d) (1 + c) (1 + c') := fun e => ⟨tupOf_ref e, by omega, by omega, by omega, by omega⟩
      refine ⟨_, rfl, _, rfl, _, rfl, _, rfl, p, 5, rfl, st13, by decide, by decide, fun k' o14 _ _ st14 => ⟨_, _, rfl, rfl, p, d, 1 + c, 1 + c', _, rfl, st14, ?bd14, fun l' H15 ys x15 st15 el' nl' hm' => ?_⟩⟩
      case bd14 => exact bd' (by rw [upd_ne nd]; exact ed)
      have x14 : SameX p H13 (upd H13 p o14) := SameX.upd
      generalize upd H13 p o14 = H14 at st14 x14 x15
      have sc15 := step x15 st14 (step x14 st13 sc13)
      have ed15 := x15 _ _ (x14 _ _ ed nd) nd
      obtain ⟨ly', un', _⟩ := found_ok _ _ _ ys hm'
      rw [show ((1 + c).toNat : Int) = 1 + c by omega, show ((1 + c').toNat : Int) = 1 + c' by omega] at ly'
      refine ⟨d, l', 1 + c, 1 + c', ys, rfl, bd' ed15, el', ly', un', fun H16 s16 => ⟨true, rfl, iteF (tNext_i ?_)⟩⟩
      exact ⟨_, _, _, _, _, rfl, sc15.same s16⟩
    · rintro σ H1 _
      exact q H1
end
end U.S
-- part Y10x
set_option Elab.async false
set_option linter.all false
set_option maxRecDepth 100000
namespace U
open PySem L2 PyProof.Rows PySem.Spec
abbrev gsNames : List Str := ["isinstance", "int", "bool", "tuple", "list", "len", "all", "set", "range", "max", "min", "enumerate", "zip", "sorted"]
section
variable {P : Program} {w : World} {K : PySem.W.Frag} {mg : Str → Option Value} {base : Heap}
theorem gs_of {h : Heap} {t0 : Tok} {t1 : Tok} {t2 : Tok} (KX : K.In h) (G : h.Ns mainGlobals mg) (e : gsNames.all (noneAt K) = true) (c0 : PySem.W.nsIn K mainGlobals "LONGEST_SIDE" = some (some (.int 12 t0))) (c1 : PySem.W.nsIn K mainGlobals "MOST_WIDE" = some (some (.int 5 t1))) (c2 : PySem.W.nsIn K mainGlobals "MOST_HIGH" = some (some (.int 5 t2))) : Gs mg := by
  have k : ∀ x ∈ gsNames, mg x = none := fun x hx => noneAt_of KX G (List.all_eq_true.mp e x hx)
  exact ⟨k _ (by simp), k _ (by simp), k _ (by simp), k _ (by simp), k _ (by simp), k _ (by simp), k _ (by simp), k _ (by simp), k _ (by simp), k _ (by simp), k _ (by simp), k _ (by simp), k _ (by simp), k _ (by simp), ⟨_, PySem.W.mg_of KX G c0⟩, ⟨_, PySem.W.mg_of KX G c1⟩, ⟨_, PySem.W.mg_of KX G c2⟩⟩
set_option maxHeartbeats 4000000 in
theorem law_all {h : Heap} {fa : Addr} {t0 : Tok} {t1 : Tok} {t2 : Tok} (KX : K.In h) (G : h.Ns mainGlobals mg) (hmg : mg "law" = some (.ref fa))
    (d0 : DefAt K "is_whole" sWhole) (d1 : DefAt K "is_whole_within" sWithin) (d2 : DefAt K "need_whole_within" sNWW) (d3 : DefAt K "is_tuple_of" sTupOf) (d4 : DefAt K "is_board" sBoard) (d5 : DefAt K "need_board" sNeedBoard) (d6 : DefAt K "need_at_most" S.sNA) (d7 : DefAt K "is_lay" sLay) (d8 : DefAt K "need_lay" S.sNeedLay) (d9 : DefAt K "with_point" S.sWP) (d10 : DefAt K "points" S.sPoints) (d11 : DefAt K "point_pairs" S.sPairs) (d12 : DefAt K "steps" S.sSteps) (d13 : DefAt K "first_like" S.sFirst) (d14 : DefAt K "is_unlike" S.sUnl) (d15 : DefAt K "need_unlike" S.sNU) (d16 : DefAt K "free_rows" S.sFR) (d17 : DefAt K "points_many" S.sPM) (d18 : DefAt K "unlike_lays" S.sUL) (d19 : DefAt K "unlike_of" S.sUO) (d20 : DefAt K "most" S.sMO) (d21 : DefAt K "most_lays" S.sML) (d22 : DefAt K "many_of" S.sMY) (d23 : DefAt K "places_left" S.sPL) (d24 : DefAt K "is_stuck" S.sSK) (d25 : DefAt K "_law_cell_at" sCell) (d26 : DefAt K "_law_state" sState) (d27 : DefAt K "_law_take" sTake) (d28 : DefAt K "_law_steps" S.sLS) (d29 : DefAt K "_law_unlike" S.sLU) (d30 : DefAt K "_law_grown" S.sGR) (d31 : DefAt K "_law_counts_right" S.sCR) (d32 : DefAt K "_law_places_right" S.sPR) (dl : DefAt K "law" S.sLaw)
    (g1 : gsNames.all (noneAt K) = true) (c0 : PySem.W.nsIn K mainGlobals "LONGEST_SIDE" = some (some (.int 12 t0))) (c1 : PySem.W.nsIn K mainGlobals "MOST_WIDE" = some (some (.int 5 t1))) (c2 : PySem.W.nsIn K mainGlobals "MOST_HIGH" = some (some (.int 5 t2))) :
    ∃ fd : FuncData, (∀ (s : Shared) (u : Value), BindsTo s fd ⟨[u], []⟩ [("_law_script", u)]) ∧ ∀ base : Heap, K.In base → base.Ns mainGlobals mg → BmAt mg base → FnOk P w K mg base CX0 17 fa fd ["_law_script"] (S.spLaw K) := by
  have gs := gs_of KX G g1 c0 c1 c2
  refine law_end dl KX G hmg (fun _ _ _ _ _ _ _ => rfl) fun base f fd FL => ?_
  have D_is_whole : Def P w K mg base 1 "is_whole" ["thing"] (spWhole K) := d0.to KX G (b1 fun _ _ _ _ _ _ _ => rfl) fun f fd F => ok_whole F gs
  have D_is_whole_within : Def P w K mg base 2 "is_whole_within" ["thing", "least", "most"] (spWithin K) := d1.to KX G (b3 fun _ _ _ _ _ _ _ _ _ => rfl) fun f fd F => ok_within F D_is_whole
  have D_need_whole_within : Def P w K mg base 3 "need_whole_within" ["number", "least", "most"] (spNWW K) := d2.to KX G (b3 fun _ _ _ _ _ _ _ _ _ => rfl) fun f fd F => ok_nww F D_is_whole_within
  have D_is_tuple_of : Def P w K mg base 1 "is_tuple_of" ["thing", "many"] (spTupOf K) := d3.to KX G (b2 fun _ _ _ _ _ _ _ _ => rfl) fun f fd F => ok_tupOf F gs
  have D_is_board : Def P w K mg base 3 "is_board" ["thing"] (spBoard K) := d4.to KX G (b1 fun _ _ _ _ _ _ _ => rfl) fun f fd F => ok_board F gs D_is_tuple_of D_is_whole_within
  have D_need_board : Def P w K mg base 4 "need_board" ["board"] (spNeedBoard K) := d5.to KX G (b1 fun _ _ _ _ _ _ _ => rfl) fun f fd F => ok_needBoard F D_is_board
  have D_need_at_most : Def P w K mg base 1 "need_at_most" ["board", "wide", "high"] S.spNA := d6.to KX G (b3 fun _ _ _ _ _ _ _ _ _ => rfl) fun f fd F => S.ok_na F
  have D_is_lay : Def P w K mg base 5 "is_lay" ["board", "thing"] (spLay K) := d7.to KX G (b2 fun _ _ _ _ _ _ _ _ => rfl) fun f fd F => ok_lay F gs D_need_board D_is_tuple_of D_is_whole_within
  have D_need_lay : Def P w K mg base 6 "need_lay" ["board", "lay"] S.spNeedLay := d8.to KX G (b2 fun _ _ _ _ _ _ _ _ => rfl) fun f fd F => S.ok_needLay F D_is_lay
  have D_with_point : Def P w K mg base 1 "with_point" ["lay", "line", "row"] S.spWP := d9.to KX G (b3 fun _ _ _ _ _ _ _ _ _ => rfl) fun f fd F => S.ok_wp F
  have D_points : Def P w K mg base 7 "points" ["board", "lay"] S.spPoints := d10.to KX G (b2 fun _ _ _ _ _ _ _ _ => rfl) fun f fd F => S.ok_points F gs D_need_lay
  have D_point_pairs : Def P w K mg base 8 "point_pairs" ["board", "lay"] S.spPairs := d11.to KX G (b2 fun _ _ _ _ _ _ _ _ => rfl) fun f fd F => S.ok_pairs F D_points
  have D_steps : Def P w K mg base 9 "steps" ["board", "lay"] S.spSteps := d12.to KX G (b2 fun _ _ _ _ _ _ _ _ => rfl) fun f fd F => S.ok_steps F gs D_point_pairs
  have D_first_like : Def P w K mg base 10 "first_like" ["board", "lay"] S.spFirst := d13.to KX G (b2 fun _ _ _ _ _ _ _ _ => rfl) fun f fd F => S.ok_first F gs D_steps
  have D_is_unlike : Def P w K mg base 11 "is_unlike" ["board", "lay"] S.spUnl := d14.to KX G (b2 fun _ _ _ _ _ _ _ _ => rfl) fun f fd F => S.ok_unl F D_first_like
  have D_need_unlike : Def P w K mg base 12 "need_unlike" ["board", "lay"] S.spNU := d15.to KX G (b2 fun _ _ _ _ _ _ _ _ => rfl) fun f fd F => S.ok_nu F D_is_unlike
  have D_free_rows : Def P w K mg base 12 "free_rows" ["board", "lay", "line"] S.spFR := d16.to KX G (b3 fun _ _ _ _ _ _ _ _ _ => rfl) fun f fd F => S.ok_fr F gs D_is_unlike D_with_point
  have D_points_many : Def P w K mg base 1 "points_many" ["lay"] S.spPM := d17.to KX G (b1 fun _ _ _ _ _ _ _ => rfl) fun f fd F => S.ok_pm F gs
  have D_unlike_lays : Def P w K mg base 13 "unlike_lays" ["board"] S.spUL := d18.to KX G (b1 fun _ _ _ _ _ _ _ => rfl) fun f fd F => S.ok_ul F gs D_need_at_most D_with_point D_free_rows
  have D_unlike_of : Def P w K mg base 14 "unlike_of" ["board", "number"] S.spUO := d19.to KX G (b2 fun _ _ _ _ _ _ _ _ => rfl) fun f fd F => S.ok_uo F D_points_many D_unlike_lays
  have D_most : Def P w K mg base 14 "most" ["board"] S.spMO := d20.to KX G (b1 fun _ _ _ _ _ _ _ => rfl) fun f fd F => S.ok_mo F gs D_need_board D_points_many D_unlike_lays
  have D_most_lays : Def P w K mg base 15 "most_lays" ["board"] S.spML := d21.to KX G (b1 fun _ _ _ _ _ _ _ => rfl) fun f fd F => S.ok_ml F D_most D_unlike_of
  have D_many_of : Def P w K mg base 15 "many_of" ["board", "number"] S.spMY := d22.to KX G (b2 fun _ _ _ _ _ _ _ _ => rfl) fun f fd F => S.ok_my F gs D_need_board D_need_whole_within D_unlike_of
  have D_places_left : Def P w K mg base 13 "places_left" ["board", "lay"] S.spPL := d23.to KX G (b2 fun _ _ _ _ _ _ _ _ => rfl) fun f fd F => S.ok_pl F gs D_need_unlike D_free_rows
  have D_is_stuck : Def P w K mg base 14 "is_stuck" ["board", "lay"] S.spSK := d24.to KX G (b2 fun _ _ _ _ _ _ _ _ => rfl) fun f fd F => S.ok_sk F D_places_left
  have D__law_cell_at : Def P w K mg base 1 "_law_cell_at" ["_law_script", "_law_k"] (spCell K) := d25.to KX G (b2 fun _ _ _ _ _ _ _ _ => rfl) fun f fd F => ok_cell F gs
  have D__law_state : Def P w K mg base 2 "_law_state" ["_law_script", "_law_k"] (spState K) := d26.to KX G (b2 fun _ _ _ _ _ _ _ _ => rfl) fun f fd F => ok_state F gs D__law_cell_at
  have D__law_take : Def P w K mg base 1 "_law_take" ["_law_state_here", "_law_many"] spTake := d27.to KX G (b2 fun _ _ _ _ _ _ _ _ => rfl) fun f fd F => ok_take F
  have D__law_steps : Def P w K mg base 1 "_law_steps" ["_law_lay"] S.spLS := d28.to KX G (b1 fun _ _ _ _ _ _ _ => rfl) fun f fd F => S.ok_ls F gs
  have D__law_unlike : Def P w K mg base 2 "_law_unlike" ["_law_lay"] S.spLU := d29.to KX G (b1 fun _ _ _ _ _ _ _ => rfl) fun f fd F => S.ok_lu F gs D__law_steps
  have D__law_grown : Def P w K mg base 3 "_law_grown" ["_law_state_here", "_law_board", "_law_bare"] S.spGR := d30.to KX G (b3 fun _ _ _ _ _ _ _ _ _ => rfl) fun f fd F => S.ok_gr F gs D__law_take D__law_unlike
  have D__law_counts_right : Def P w K mg base 16 "_law_counts_right" ["_law_board"] S.spCR := d31.to KX G (b1 fun _ _ _ _ _ _ _ => rfl) fun f fd F => S.ok_cr F gs D_most D_most_lays D_many_of D_is_unlike D_is_stuck D_points
  have D__law_places_right : Def P w K mg base 15 "_law_places_right" ["_law_board", "_law_lay"] S.spPR := d32.to KX G (b2 fun _ _ _ _ _ _ _ _ => rfl) fun f fd F => S.ok_pr F gs D_places_left D_is_stuck D_is_unlike
  exact S.ok_law FL gs D__law_state D__law_take D__law_grown D__law_counts_right D__law_places_right D_points D_most
end
end U
-- part KL52
set_option Elab.async false
set_option linter.all false
set_option maxRecDepth 100000
/-! the names that the head would take for quicker twins of its heaps, trees and texts: taken, so that it lays none of them (each is proved by a chain that grows with the square of the objects) -/
def PySem.W.Fast.tw13545116418804300386 : Unit := ()
def PySem.W.Fast.tw15995378673141944899 : Unit := ()
def PySem.W.Fast.tw16733897654064875492 : Unit := ()
def PySem.W.Fast.tw15465342451581254855 : Unit := ()
def PySem.W.Fast.tw11368172257989822696 : Unit := ()
def PySem.W.Fast.tw104455109616322665 : Unit := ()
def PySem.W.Fast.tw14247590450157679305 : Unit := ()
def PySem.W.Fast.tw15679952761279478698 : Unit := ()
def PySem.W.Fast.tw8032072450101025770 : Unit := ()
def PySem.W.Fast.tw10803705604440670667 : Unit := ()
def PySem.W.Fast.tw16594936666838513163 : Unit := ()
def PySem.W.Fast.tw11541073492142705358 : Unit := ()
def PySem.W.Fast.tw9519746387313134574 : Unit := ()
def PySem.W.Fast.tw15474835202120572656 : Unit := ()
def PySem.W.Fast.tw2770176657091343507 : Unit := ()
def PySem.W.Fast.tw4274989135938212500 : Unit := ()
def PySem.W.Fast.tw6558715360671150964 : Unit := ()
def PySem.W.Fast.tw18384503798330682934 : Unit := ()
def PySem.W.Fast.tw7612123533802956119 : Unit := ()
def PySem.W.Fast.tw5360659602357506647 : Unit := ()
def PySem.W.Fast.tw2386579296987941082 : Unit := ()
def PySem.W.Fast.tw4780368091957866684 : Unit := ()
def PySem.W.Fast.tw10202189117423796444 : Unit := ()
def PySem.W.Fast.tw6845047200144235357 : Unit := ()
def PySem.W.Fast.tw246532625443458859 : Unit := ()
set_option maxRecDepth 100000 in
set_option maxHeartbeats 0 in
theorem PySem.Challenge.cw_unlikesteps_k52_whole_most_points_holds : PySem.Challenge.rw_unlikesteps_k52_whole_most_points.Holds := by
  w_on; o_law; k_head; (case hw => w_witness2)
  k_fill
  refine U.walk_ofTs (l := PySem.Challenge.rw_unlikesteps_k52_whole_most_points) (n := 63) (k := 17) (x := "_law_script") (Pts := []) (sp := fun K => U.S.spLaw K) rfl (by decide) rfl ⟨rfl, by decide, by decide, rfl⟩ (fun w h Y => PySem.W.kIn_of Y) (fun _ _ _ _ h => by cases h) (fun _ _ _ _ h => by cases h) (fun _ _ h => by cases h) ?F ?S
  case S => exact fun K H a ns hl hs hp => ⟨a, ns, rfl, hs, hl, fun _ => rfl⟩
  case F =>
    intro w mg fa h KX G hmg
    refine' U.law_all KX G hmg (U.defAt_mk ?a0 ?b0 ?c0 ?e0) (U.defAt_mk ?a1 ?b1 ?c1 ?e1) (U.defAt_mk ?a2 ?b2 ?c2 ?e2) (U.defAt_mk ?a3 ?b3 ?c3 ?e3) (U.defAt_mk ?a4 ?b4 ?c4 ?e4) (U.defAt_mk ?a5 ?b5 ?c5 ?e5) (U.defAt_mk ?a6 ?b6 ?c6 ?e6) (U.defAt_mk ?a7 ?b7 ?c7 ?e7) (U.defAt_mk ?a8 ?b8 ?c8 ?e8) (U.defAt_mk ?a9 ?b9 ?c9 ?e9) (U.defAt_mk ?a10 ?b10 ?c10 ?e10) (U.defAt_mk ?a11 ?b11 ?c11 ?e11) (U.defAt_mk ?a12 ?b12 ?c12 ?e12) (U.defAt_mk ?a13 ?b13 ?c13 ?e13) (U.defAt_mk ?a14 ?b14 ?c14 ?e14) (U.defAt_mk ?a15 ?b15 ?c15 ?e15) (U.defAt_mk ?a16 ?b16 ?c16 ?e16) (U.defAt_mk ?a17 ?b17 ?c17 ?e17) (U.defAt_mk ?a18 ?b18 ?c18 ?e18) (U.defAt_mk ?a19 ?b19 ?c19 ?e19) (U.defAt_mk ?a20 ?b20 ?c20 ?e20) (U.defAt_mk ?a21 ?b21 ?c21 ?e21) (U.defAt_mk ?a22 ?b22 ?c22 ?e22) (U.defAt_mk ?a23 ?b23 ?c23 ?e23) (U.defAt_mk ?a24 ?b24 ?c24 ?e24) (U.defAt_mk ?a25 ?b25 ?c25 ?e25) (U.defAt_mk ?a26 ?b26 ?c26 ?e26) (U.defAt_mk ?a27 ?b27 ?c27 ?e27) (U.defAt_mk ?a28 ?b28 ?c28 ?e28) (U.defAt_mk ?a29 ?b29 ?c29 ?e29) (U.defAt_mk ?a30 ?b30 ?c30 ?e30) (U.defAt_mk ?a31 ?b31 ?c31 ?e31) (U.defAt_mk ?a32 ?b32 ?c32 ?e32) (U.defAt_mk ?a33 ?b33 ?c33 ?e33) ?g1 ?kc0 ?kc1 ?kc2
    (case a0 => k_is); (case b0 => k_is); (case c0 => k_is); (case e0 => k_is)
    (case a1 => k_is); (case b1 => k_is); (case c1 => k_is); (case e1 => k_is)
    (case a2 => k_is); (case b2 => k_is); (case c2 => k_is); (case e2 => k_is)
    (case a3 => k_is); (case b3 => k_is); (case c3 => k_is); (case e3 => k_is)
    (case a4 => k_is); (case b4 => k_is); (case c4 => k_is); (case e4 => k_is)
    (case a5 => k_is); (case b5 => k_is); (case c5 => k_is); (case e5 => k_is)
    (case a6 => k_is); (case b6 => k_is); (case c6 => k_is); (case e6 => k_is)
    (case a7 => k_is); (case b7 => k_is); (case c7 => k_is); (case e7 => k_is)
    (case a8 => k_is); (case b8 => k_is); (case c8 => k_is); (case e8 => k_is)
    (case a9 => k_is); (case b9 => k_is); (case c9 => k_is); (case e9 => k_is)
    (case a10 => k_is); (case b10 => k_is); (case c10 => k_is); (case e10 => k_is)
    (case a11 => k_is); (case b11 => k_is); (case c11 => k_is); (case e11 => k_is)
    (case a12 => k_is); (case b12 => k_is); (case c12 => k_is); (case e12 => k_is)
    (case a13 => k_is); (case b13 => k_is); (case c13 => k_is); (case e13 => k_is)
    (case a14 => k_is); (case b14 => k_is); (case c14 => k_is); (case e14 => k_is)
    (case a15 => k_is); (case b15 => k_is); (case c15 => k_is); (case e15 => k_is)
    (case a16 => k_is); (case b16 => k_is); (case c16 => k_is); (case e16 => k_is)
    (case a17 => k_is); (case b17 => k_is); (case c17 => k_is); (case e17 => k_is)
    (case a18 => k_is); (case b18 => k_is); (case c18 => k_is); (case e18 => k_is)
    (case a19 => k_is); (case b19 => k_is); (case c19 => k_is); (case e19 => k_is)
    (case a20 => k_is); (case b20 => k_is); (case c20 => k_is); (case e20 => k_is)
    (case a21 => k_is); (case b21 => k_is); (case c21 => k_is); (case e21 => k_is)
    (case a22 => k_is); (case b22 => k_is); (case c22 => k_is); (case e22 => k_is)
    (case a23 => k_is); (case b23 => k_is); (case c23 => k_is); (case e23 => k_is)
    (case a24 => k_is); (case b24 => k_is); (case c24 => k_is); (case e24 => k_is)
    (case a25 => k_is); (case b25 => k_is); (case c25 => k_is); (case e25 => k_is)
    (case a26 => k_is); (case b26 => k_is); (case c26 => k_is); (case e26 => k_is)
    (case a27 => k_is); (case b27 => k_is); (case c27 => k_is); (case e27 => k_is)
    (case a28 => k_is); (case b28 => k_is); (case c28 => k_is); (case e28 => k_is)
    (case a29 => k_is); (case b29 => k_is); (case c29 => k_is); (case e29 => k_is)
    (case a30 => k_is); (case b30 => k_is); (case c30 => k_is); (case e30 => k_is)
    (case a31 => k_is); (case b31 => k_is); (case c31 => k_is); (case e31 => k_is)
    (case a32 => k_is); (case b32 => k_is); (case c32 => k_is); (case e32 => k_is)
    (case a33 => k_is); (case b33 => k_is); (case c33 => k_is); (case e33 => k_is)
    (case g1 => kernel_rfl)
    (case kc0 => k_is)
    (case kc1 => k_is)
    (case kc2 => k_is)
