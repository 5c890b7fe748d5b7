import PyProof.Rows.All
import Wide.All
import OpenK.AllK
import Wide.FinOn
import Lean
import PyProof.EqAt
import PyProof.EqKinds
import PyProof.TupleCall
import PyProof.NeKinds
import PyProof.Rows.SortWalk
import PyProof.Rows.SortRuns
import KE.KMinKey
import PyProof.IsRules
import PySem.SetOps
import PyProof.SetScanFacts
import PyProof.TupleKey
import PyProof.SetKind
import PyProof.Rows.SetFrom
import KE.KRevSl
import PyProof.Rows.SumAny
import PyProof.EnumMake
import PyProof.SeqI3
import PySem.Challenge.RW_unlikesteps_k85_round_steps
set_option Elab.async false
set_option linter.all false
set_option maxRecDepth 100000
namespace L2
open PySem PySem.Spec PyProof.Rows
abbrev Key := Sum Int Str
def keyIs : Key → Value → Bool
 | .inl k, v => Value.isInt k v
 | .inr x, v => Value.isStrOf x v
def keyH (w : World) : Key → Int
 | .inl k => hashInt k
 | .inr x => hashStr w x
theorem ZJ : ∀ {k : Key} {v : Value}, keyIs k v = true → (∃ i t, k = Sum.inl i ∧ v = Value.int i t) ∨ (∃ x t, k = Sum.inr x ∧ v = Value.str x t)
 | .inl i, v, h => by
  obtain ⟨t, e⟩ := Value.isInt_shape (k := i) (v := v) h
  exact .inl ⟨i, t, rfl, e⟩
 | .inr x, v, h => by
  obtain ⟨t, e⟩ := Value.isStrOf_shape (x := x) (v := v) h
  exact .inr ⟨x, t, rfl, e⟩
theorem ZbH (i : Int) (t : Tok) : keyIs (.inl i) (.int i t) = true := by simp [keyIs, Value.isInt]
theorem ZbG (x : Str) (t : Tok) : keyIs (.inr x) (.str x t) = true := by simp [keyIs, Value.isStrOf]
theorem Zd6 (a b : Int) : decide ((Sum.inl a : Key) = Sum.inl b) = (a == b) := by
 by_cases e : a = b
 ·subst e; simp
 ·have h : ¬ (Sum.inl a : Key) = Sum.inl b := fun q => e (Sum.inl.inj q)
  rw [decide_eq_false h]
  exact (beq_eq_false_iff_ne.mpr e).symm
theorem Zd3 (a b : Str) : decide ((Sum.inr a : Key) = Sum.inr b) = decide (a = b) := by
 by_cases e : a = b
 ·subst e; simp
 ·have h : ¬ (Sum.inr a : Key) = Sum.inr b := fun q => e (Sum.inr.inj q)
  rw [decide_eq_false h, decide_eq_false e]
theorem Zd5 (a : Int) (b : Str) : decide ((Sum.inl a : Key) = Sum.inr b) = false := decide_eq_false (fun q => nomatch q)
theorem Zd4 (a : Str) (b : Int) : decide ((Sum.inr a : Key) = Sum.inl b) = false := decide_eq_false (fun q => nomatch q)
def mixKind (prog : Program) (w : World) : PySem.KeyKind prog w Key where
 is := keyIs
 hash := keyH w
 inj := fun v a b ha hb => by
  rcases ZJ ha with ⟨i, t, rfl, rfl⟩ | ⟨x, t, rfl, rfl⟩
  ·rcases ZJ hb with ⟨j, u, rfl, e⟩ | ⟨y, u, rfl, e⟩
   ·injection e with e1 _; rw [e1]
   ·exact nomatch e
  ·rcases ZJ hb with ⟨j, u, rfl, e⟩ | ⟨y, u, rfl, e⟩
   ·exact nomatch e
   ·injection e with e1 _; rw [e1]
 byValue := fun k v h => by
  rcases ZJ h with ⟨i, t, rfl, rfl⟩ | ⟨x, t, rfl, rfl⟩ <;> rfl
 pyHash := fun hv h => by
  rcases ZJ hv with ⟨i, t, rfl, rfl⟩ | ⟨x, t, rfl, rfl⟩
  ·exact wpAny_pyHash_int h
  ·exact wpAny_pyHash_str h
 eqBool := fun hu hv h => by
  rcases ZJ hu with ⟨i, t, rfl, rfl⟩ | ⟨x, t, rfl, rfl⟩
  ·rcases ZJ hv with ⟨j, u, rfl, rfl⟩ | ⟨y, u, rfl, rfl⟩
   ·rw [Zd6] at h; exact wpAny_eqBool_int h
   ·rw [Zd5] at h; exact SeqAt.EqAt.int_str i t y u _ _ _ _ h
  ·rcases ZJ hv with ⟨j, u, rfl, rfl⟩ | ⟨y, u, rfl, rfl⟩
   ·rw [Zd4] at h; exact SeqAt.EqAt.str_int x t j u _ _ _ _ h
   ·rw [Zd3] at h; exact wpAny_eqBool_str h
 «strs» := fun k x t v h => by
  rcases ZJ h with ⟨i, u, rfl, e⟩ | ⟨y, u, rfl, e⟩
  ·exact nomatch e
  ·injection e with e1 _
   subst e1
   cases v <;> rfl
theorem UC (prog : Program) (w : World) (i : Int) (t : Tok) : (mixKind prog w).is (.inl i) (.int i t) = true := ZbH i t
theorem UB (prog : Program) (w : World) (x : Str) (t : Tok) : (mixKind prog w).is (.inr x) (.str x t) = true := ZbG x t
end L2
namespace L2
open PySem PySem.Spec PyProof.Rows
inductive V where
 | non | bl (b : Bool) | int (i : Int) | str (x : Str) | byt (b : Array UInt8) | flt (b : UInt64) | ref (a : Addr) | ty (n : String)
 deriving DecidableEq
def RelV : V → Value → Prop
 | .non, u => u = Value.none
 | .bl b, u => u = Value.bool b
 | .int i, u => ∃ t, u = Value.int i t
 | .str x, u => ∃ t, u = Value.str x t
 | .byt b, u => ∃ t, u = Value.bytes b t
 | .flt b, u => ∃ t, u = Value.float b t
 | .ref a, u => u = Value.ref a
 | .ty n, u => u = Value.type n
abbrev Vals : List V → List Value → Prop := Paired RelV
theorem Vals.length {xs : List V} {us : List Value} (r : Vals xs us) : xs.length = us.length := Paired.length r
theorem Vals.get : ∀ {xs : List V} {us : List Value} {i : Nat} {x : V}, Vals xs us → xs[i]? = some x → ∃ u, us[i]? = some u ∧ RelV x u
 | _, _, _, _, .nil, e => by simp at e
 | _, _, 0, _, .cons r _, e => by simp at e; subst e; exact ⟨_, rfl, r⟩
 | _, _, i + 1, x, .cons _ t, e => by
  obtain ⟨u, h1, h2⟩ := Vals.get (i := i) (x := x) t (by simpa using e)
  exact ⟨u, by simpa using h1, h2⟩
theorem Vals.set {x : V} {u : Value} (r : RelV x u) : ∀ {xs : List V} {us : List Value} (i : Nat), Vals xs us → Vals (xs.set i x) (us.set i u)
 | _, _, _, .nil => .nil
 | _, _, 0, .cons _ t => .cons r t
 | _, _, i + 1, .cons q t => .cons q (Vals.set r i t)
theorem Vals.append : ∀ {xs ys : List V} {us ws : List Value}, Vals xs us → Vals ys ws → Vals (xs ++ ys) (us ++ ws)
 | _, _, _, _, .nil, s => s
 | _, _, _, _, .cons r t, s => .cons r (Vals.append t s)
theorem Vals.take : ∀ {xs : List V} {us : List Value} (n : Nat), Vals xs us → Vals (xs.take n) (us.take n)
 | _, _, 0, _ => .nil
 | _, _, _ + 1, .nil => .nil
 | _, _, n + 1, .cons r t => .cons r (Vals.take n t)
theorem Vals.drop : ∀ {xs : List V} {us : List Value} (n : Nat), Vals xs us → Vals (xs.drop n) (us.drop n)
 | _, _, 0, r => r
 | _, _, _ + 1, .nil => .nil
 | _, _, n + 1, .cons _ t => Vals.drop n t
def RelO : Option V → Option Value → Prop
 | some v, some u => RelV v u
 | none, none => True
 | _, _ => False
def KV {κ : Type} : List (κ × V) → List (κ × Value) → Prop := Paired fun (p : κ × V) (q : κ × Value) => p.1 = q.1 ∧ RelV p.2 q.2
def kV : Key → V
 | .inl i => .int i
 | .inr x => .str x
inductive HO where
  | lst (xs : List V)
  | tup (xs : List V)
  | par (xs : List V)
  | dK (kvs : List (Key × V)) | dT (kvs : List (List Key × V))
  | set (S : Int → Bool) (n : Nat)
  | ins (C dx : Addr) (fs : List (Str × V))
  | own (x : Addr)
  | xd (fs : List (Str × V))
  | met (f x : Addr)
  | rng (lo hi : Int)
  | frz (o : Obj) (u : HO)
  | tbl (ps : Array Value)
  | ext (φ : Heap → Prop)
abbrev Hp := Addr → Option HO
def upd (H : Hp) (a : Addr) (o : HO) : Hp := fun b => if b = a then some o else H b
theorem Zc {H : Hp} {a : Addr} {o : HO} : upd H a o a = some o := by unfold upd; rw [if_pos rfl]
theorem Zh {H : Hp} {a b : Addr} {o : HO} (h : b ≠ a) : upd H a o b = H b := by unfold upd; rw [if_neg h]
theorem YH {H : Hp} {a b : Addr} {o u : HO} (h : H a = some o) (h' : H b = some u) (d : o ≠ u) : a ≠ b := by
 intro e; subst e; rw [h] at h'; exact d (Option.some.inj h')
theorem Zk {H : Hp} {a b : Addr} {o : HO} (h : H a = some o) (h' : H b = none) : a ≠ b := by
 intro e; subst e; rw [h] at h'; cases h'
section
variable (P : Program) (w : World)
def ObjOk (H : Hp) (h : Heap) (a : Addr) : HO → Prop
 | .lst xs => xs.length ≤ sizeLine ∧ ∃ (its : List Value) (n : Nat), Vals xs its ∧ h.get? a = some { cls := .type "list", data := .seq its.toArray n }
 | .tup xs => xs.length ≤ sizeLine ∧ ∃ its : List Value, Vals xs its ∧ IsTup h a its.toArray ∧ ∃ o, h.get? a = some o ∧ o.dict = none
 | .par xs => xs.length ≤ sizeLine ∧ ∃ its : List Value, Vals xs its ∧ IsTup h a its.toArray
 | .dK kvs => kvs.length ≤ sizeLine ∧ (a == sysModules) = false ∧ ∃ vs, KV kvs vs ∧ h.DictOf (mixKind P w) a vs
 | .dT kvs => kvs.length ≤ sizeLine ∧ (a == sysModules) = false ∧ ∃ xs : List (List Key × Addr × Value),
   Paired (fun (p : List Key × V) (q : List Key × Addr × Value) => p.1 = q.1 ∧ H q.2.1 = some (.tup (p.1.map kV)) ∧ RelV p.2 q.2.2) kvs xs ∧
   ∃ o es ep, h.get? a = some o ∧ o.ExactDict ∧ o.data = .dict es ep ∧ es.toList = xs.map (entryOfKey (tupleKind (mixKind P w))) ∧ (xs.map (·.1)).Nodup
 | .set S n => h.SetOf (intKind P w) a S n
 | .ins C dx fs => H dx = some (.own a) ∧ fs.length ≤ 1000 ∧ dx ≠ a ∧ h.get? a = some (PySem.W.instObj C dx) ∧
   ∃ mA, h.Ns1 dx mA ∧ (∀ f, RelO (fs.lookup f) (mA f)) ∧ PySem.Within mA (fs.map (·.1))
 | .own _ => ∃ o, h.get? a = some o
 | .xd fs => ∃ mA, h.Ns1 a mA ∧ ∀ f, RelO (fs.lookup f) (mA f)
 | .rng lo hi => ∃ t u v, h.get? a = some { cls := .type "range", data := .fields #[.int lo t, .int hi u, .int 1 v] }
 | .frz o u => h.get? a = some o ∧ ObjOk H h a u
 | .tbl ps => h.get? a = some { cls := .none, data := .fields ps }
 | .met f x => h.get? a = some (PySem.W.methodObj (.ref f) (.ref x))
 | .ext φ => φ h ∧ (∃ o, h.get? a = some o) ∧ ∀ h1 h2 : Heap, φ h1 → (∀ o, h1.get? a = some o → h2.get? a = some o) → φ h2
def HOk (H : Hp) (h : Heap) : Prop := ∀ a o, H a = some o → ObjOk P w H h a o
end
section
variable {P : Program} {w : World} {H H' : Hp} {h h' : Heap} {a : Addr} {o : HO}
theorem ObjOk.lt (x : ObjOk P w H h a o) : a < h.objs.size := by
 cases o with
 | lst xs => obtain ⟨_, _, _, _, e⟩ := x; exact Heap.lt_size e
 | tup xs => obtain ⟨_, _, _, p, _⟩ := x; exact p.lt
 | par xs => obtain ⟨_, _, _, p⟩ := x; exact p.lt
 | dK kvs => obtain ⟨_, _, _, _, o, _, _, e, _⟩ := x; exact Heap.lt_size e
 | dT kvs => obtain ⟨_, _, _, _, o, _, _, e, _⟩ := x; exact Heap.lt_size e
 | set S n => obtain ⟨o, _, _, _, e, _⟩ := x; exact Heap.lt_size e
 | ins C dx fs => obtain ⟨_, _, _, e, _⟩ := x; exact Heap.lt_size e
 | own y => obtain ⟨_, e⟩ := x; exact Heap.lt_size e
 | xd fs => obtain ⟨_, ⟨_, _, _, e, _⟩, _⟩ := x; exact Heap.lt_size e
 | rng lo hi => obtain ⟨_, _, _, e⟩ := x; exact Heap.lt_size e
 | frz ob u => obtain ⟨e, _⟩ := x; exact Heap.lt_size e
 | tbl ps => exact Heap.lt_size (show h.get? a = some _ from x)
 | met f y => exact Heap.lt_size (show h.get? a = some _ from x)
 | ext φ => obtain ⟨_, ⟨_, e⟩, _⟩ := x; exact Heap.lt_size e
theorem Paired.mapP {α β : Type} {F G : α → β → Prop} : ∀ {l₁ : List α} {l₂ : List β}, Paired F l₁ l₂ → (∀ a b, F a b → G a b) → Paired G l₁ l₂
 | _, _, .nil, _ => .nil
 | _, _, .cons r t, f => .cons (f _ _ r) (Paired.mapP t f)
theorem ObjOk.stay (x : ObjOk P w H h a o) (k : ∀ b u, (b = a ∨ H b = some (.own a)) → h.get? b = some u → h'.get? b = some u)
  (ho : ∀ b, H b = some (.own a) → H' b = some (.own a)) (ht : ∀ b xs, H b = some (.tup xs) → H' b = some (.tup xs)) : ObjOk P w H' h' a o := by
 induction o with
 | lst xs => obtain ⟨z, its, n, r, e⟩ := x; exact ⟨z, its, n, r, k _ _ (.inl rfl) e⟩
 | tup xs => obtain ⟨z, its, r, ⟨ob, e, c⟩, o2, e2, c2⟩ := x; exact ⟨z, its, r, ⟨ob, k _ _ (.inl rfl) e, c⟩, o2, k _ _ (.inl rfl) e2, c2⟩
 | par xs => obtain ⟨z, its, r, ob, e, c⟩ := x; exact ⟨z, its, r, ob, k _ _ (.inl rfl) e, c⟩
 | dK kvs => obtain ⟨z, y, vs, r, ob, es, ep, e, c⟩ := x; exact ⟨z, y, vs, r, ob, es, ep, k _ _ (.inl rfl) e, c⟩
 | dT kvs =>
  obtain ⟨z, y, xs, r, ob, es, ep, e, c⟩ := x
  exact ⟨z, y, xs, Paired.mapP r fun p q z => ⟨z.1, ht _ _ z.2.1, z.2.2⟩, ob, es, ep, k _ _ (.inl rfl) e, c⟩
 | set S n => obtain ⟨ob, es, ep, t, e, c⟩ := x; exact ⟨ob, es, ep, t, k _ _ (.inl rfl) e, c⟩
 | ins C dx fs =>
  obtain ⟨d, z, ne, e, mA, ⟨od, es, ep, e2, c⟩, r⟩ := x
  exact ⟨ho _ d, z, ne, k _ _ (.inl rfl) e, mA, ⟨od, es, ep, k _ _ (.inr d) e2, c⟩, r⟩
 | own y => obtain ⟨ob, e⟩ := x; exact ⟨ob, k _ _ (.inl rfl) e⟩
 | xd fs => obtain ⟨mA, ⟨od, es, ep, e, c⟩, r⟩ := x; exact ⟨mA, ⟨od, es, ep, k _ _ (.inl rfl) e, c⟩, r⟩
 | rng lo hi => obtain ⟨t, u, v, e⟩ := x; exact ⟨t, u, v, k _ _ (.inl rfl) e⟩
 | frz ob u ih => obtain ⟨e, q⟩ := x; exact ⟨k _ _ (.inl rfl) e, ih q⟩
 | tbl ps =>
  have e : h.get? a = some { cls := .none, data := .fields ps } := x
  show h'.get? a = some { cls := .none, data := .fields ps }
  exact k a _ (.inl rfl) e
 | met f y =>
  have e : h.get? a = some (PySem.W.methodObj (.ref f) (.ref y)) := x
  show h'.get? a = some (PySem.W.methodObj (.ref f) (.ref y))
  exact k a _ (.inl rfl) e
 | ext φ => obtain ⟨p, ⟨o, e⟩, st⟩ := x; exact ⟨st _ _ p fun o q => k _ _ (.inl rfl) q, ⟨o, k _ _ (.inl rfl) e⟩, st⟩
theorem HOk.lt (x : HOk P w H h) (e : H a = some o) : a < h.objs.size := (x a o e).lt
theorem HOk.fresh (x : HOk P w H h) (e : h.objs.size ≤ a) : H a = none := by
 cases q : H a with
 | none => rfl
 | some u => exact absurd (Nat.lt_of_lt_of_le (x.lt q) e) (Nat.lt_irrefl _)
theorem HOk.kept (x : HOk P w H h) (k : ∀ b u, h.get? b = some u → h'.get? b = some u) : HOk P w H h' := fun a o e =>
 (x a o e).stay (fun b u _ q => k b u q) (fun _ q => q) fun _ _ q => q
theorem HOk.laid (x : HOk P w H h) (k : ∀ b u, h.get? b = some u → h'.get? b = some u) (hp : h.objs.size ≤ a) (new : ObjOk P w (upd H a o) h' a o) : HOk P w (upd H a o) h' := fun b u e => by
 have hn := x.fresh hp
 by_cases hb : b = a
 ·subst hb; rw [Zc] at e; cases e; exact new
 ·rw [Zh hb] at e
  exact (x b u e).stay (fun c v _ q => k c v q) (fun c q => by rw [Zh (Zk q hn)]; exact q) fun c xs q => by rw [Zh (Zk q hn)]; exact q
end
def Rd (H : Hp) (a : Addr) (u : HO) : Prop := H a = some u ∨ ∃ o, H a = some (.frz o u)
theorem Rd.ok {P : Program} {w : World} {H : Hp} {h : Heap} {a : Addr} {u : HO} (r : Rd H a u) (x : HOk P w H h) : ObjOk P w H h a u := by
 rcases r with r | ⟨o, r⟩
 ·exact x a u r
 ·obtain ⟨_, q⟩ := x a _ r
  exact q
def Mut : Option HO → Prop
 | some (.lst _) => True
 | some (.dK _) => True
 | some (.dT _) => True
 | some (.set _ _) => True
 | some (.ins _ _ _) => True
 | some (.ext _) => True
 | _ => False
section
variable {P : Program} {w : World} {H : Hp} {h h' : Heap} {x e : Addr} {o' : HO}
theorem HOk.write (ok : HOk P w H h) (mu : Mut (H x)) (he : e = x ∨ H e = some (.own x)) (k : ∀ b u, b ≠ e → h.get? b = some u → h'.get? b = some u) (heo : ∃ u, h'.get? e = some u)
  (new : ObjOk P w (upd H x o') h' x o') : HOk P w (upd H x o') h' := fun b u q => by
 have nown : ∀ c y, H c = some (.own y) → c ≠ x := fun c y r z => by subst z; rw [r] at mu; exact mu
 have ntup : ∀ c xs, H c = some (.tup xs) → c ≠ x := fun c xs r z => by subst z; rw [r] at mu; exact mu
 by_cases hb : b = x
 ·subst hb; rw [Zc] at q; cases q; exact new
 ·rw [Zh hb] at q
  by_cases hbe : b = e
  ·have q' : H b = some (.own x) := by
    rcases he with z | z
    ·exact absurd (hbe.trans z) hb
    ·rw [hbe]; exact z
   rw [q] at q'; cases q'
   obtain ⟨v, hv⟩ := heo
   exact ⟨v, by rw [hbe]; exact hv⟩
  ·refine (ok b u q).stay (fun c v hc r => k c v ?_ r) (fun c r => by rw [Zh (nown c b r)]; exact r) fun c xs r => by rw [Zh (ntup c xs r)]; exact r
   rcases hc with rfl | hc
   ·exact hbe
   ·rintro rfl
    rcases he with z | z
    ·exact nown c b hc z
    ·rw [hc] at z; cases z; exact hb rfl
end
structure Un (fs ex : List Addr) (H H' : Hp) (h h' : Heap) : Prop where
 keep : ∀ b o, h.get? b = some o → H b = none → b ∉ fs → b ∉ ex → h'.get? b = some o
 slot : ∀ b o, h.get? b = some o → H b = none → b ∈ fs → b ∉ ex → ∃ sl, h'.get? b = some { o with slots := sl }
 free : ∀ b o, h.get? b = some o → H b = none → b ∉ ex → H' b = none
 there : ∀ b o, h.get? b = some o → b ∉ ex → ∃ o', h'.get? b = some o'
 tups : ∀ b xs, H b = some (.tup xs) → H' b = some (.tup xs)
 frzs : ∀ b o u, H b = some (.frz o u) → H' b = some (.frz o u)
 tbls : ∀ b ps, H b = some (.tbl ps) → ∃ more, H' b = some (.tbl (ps ++ more))
section
variable {fs fs' ex ex' : List Addr} {H H1 H2 : Hp} {h h1 h2 h' : Heap} {a x e : Addr} {o : HO}
theorem Un.any (u : Un fs ex H H1 h h1) {b : Addr} {ob : Obj} (q : h.get? b = some ob) (n : H b = none) (hx : b ∉ ex) : ∃ sl, h1.get? b = some { ob with slots := sl } := by
 by_cases hb : b ∈ fs
 ·exact u.slot b ob q n hb hx
 ·exact ⟨ob.slots, u.keep b ob q n hb hx⟩
theorem Un.kept (k : ∀ b u, h.get? b = some u → h'.get? b = some u) : Un fs ex H H h h' :=
 ⟨fun b ob q _ _ _ => k b ob q, fun b ob q _ _ _ => ⟨ob.slots, k b ob q⟩, fun _ _ _ n _ => n, fun b ob q _ => ⟨ob, k b ob q⟩, fun _ _ q => q, fun _ _ _ q => q, fun _ ps q => ⟨#[], by rw [q]; simp⟩⟩
theorem Un.refl : Un fs ex H H h h := Un.kept fun _ _ q => q
theorem Un.laid (k : ∀ b u, h.get? b = some u → h'.get? b = some u) (hp : h.objs.size ≤ a) (hn : H a = none) : Un fs ex H (upd H a o) h h' where
 keep := fun b u q _ _ _ => k b u q
 slot := fun b u q _ _ _ => ⟨u.slots, k b u q⟩
 free := fun b u q n _ => by rw [Zh (Nat.ne_of_lt (Nat.lt_of_lt_of_le (Heap.lt_size q) hp))]; exact n
 there := fun b u q _ => ⟨u, k b u q⟩
 tups := fun b xs q => by rw [Zh (Zk q hn)]; exact q
 frzs := fun b u xs q => by rw [Zh (Zk q hn)]; exact q
 tbls := fun b ps q => ⟨#[], by rw [Zh (Zk q hn), q]; simp⟩
theorem Un.write (mu : Mut (H x)) (he : e = x ∨ H e = some (.own x)) (k : ∀ b u, b ≠ e → h.get? b = some u → h'.get? b = some u) (heo : ∃ u, h'.get? e = some u) : Un fs ex H (upd H x o) h h' := by
 have hx : ∀ b, H b = none → b ≠ x := fun b n z => by subst z; rw [n] at mu; exact mu
 have hb : ∀ b, H b = none → b ≠ e := fun b n z => by
  subst z
  rcases he with r | r
  ·exact hx b n r
  ·rw [n] at r; cases r
 have hm : ∀ b u, H b = some u → ¬ Mut (some u) → b ≠ x := fun b u q nm z => by subst z; rw [q] at mu; exact nm mu
 refine ⟨fun b u q n _ _ => k b u (hb b n) q, fun b u q n _ _ => ⟨u.slots, k b u (hb b n) q⟩, fun b u q n _ => by rw [Zh (hx b n)]; exact n, fun b u q _ => ?_,
  fun b xs q => by rw [Zh (hm b _ q fun z => z)]; exact q, fun b u xs q => by rw [Zh (hm b _ q fun z => z)]; exact q, fun b ps q => ⟨#[], by rw [Zh (hm b _ q fun z => z), q]; simp⟩⟩
 by_cases hbe : b = e
 ·subst hbe; exact heo
 ·exact ⟨u, k b u hbe q⟩
end
def trk (h : Heap) (H : Hp) : List Addr := (List.range h.objs.size).filter fun a => (H a).isSome
def hidT (h : Heap) (H : Hp) : Heap := PySem.W.hideAll h (trk h H)
theorem WK (h : Heap) (H : Hp) : (hidT h H).objs.size = h.objs.size := PySem.W.hideAll_size _ _
theorem US {h : Heap} {H : Hp} {b : Addr} {o : Obj} (e : h.get? b = some o) (n : H b = none) : (hidT h H).get? b = some o :=
 PySem.W.hideAll_get _ e fun hm => by
  have q : (H b).isSome = true := (List.mem_filter.mp hm).2
  rw [n] at q; simp at q
theorem ZaL {h : Heap} {H : Hp} {b : Addr} {o : Obj} (e : (hidT h H).get? b = some o) : h.get? b = some o ∧ H b = none := by
 have e' : h.get? b = some o := PySem.W.of_hideAll (trk h H) e
 refine ⟨e', ?_⟩
 cases q : H b with
 | none => rfl
 | some x =>
  have hm : b ∈ trk h H := List.mem_filter.mpr ⟨List.mem_range.mpr (Heap.lt_size e'), by simp [q]⟩
  have z : (hidT h H).get? b = none := PySem.W.hideAll_none (trk h H) hm
  rw [z] at e; cases e
def allNews (g h : Heap) (L : Addr) : List (Addr × Obj) := (List.range h.objs.size).filterMap fun a => if a = L ∨ (g.get? a).isSome = true then none else (h.get? a).map fun o => (a, o)
def rest (g h : Heap) (L d : Addr) : List (Addr × Obj) := (allNews g h L).filter fun p => decide (p.1 ≠ d)
end L2
namespace L2
open PySem PySem.Spec PyProof.Rows
structure Mod (K : PySem.W.Frag) (mg : Str → Option Value) (base : Heap) : Prop where
 kin : K.In base
 glob : base.Ns mainGlobals mg
 blt : ∃ mb, base.Ns builtinsNs mb ∧ ∀ x : Str, x ≠ "__name__" → mb x = bootBuiltins x
 nolimit : base.NoLimit
structure Cx where
 prog : Program
 w : World
 K : PySem.W.Frag
 mg : Str → Option Value
 base : Heap
 A : Around
 N : List Str
 s₀ : Shared
 H₀ : Hp
 env : Env
 outer : List Env
 stack : List Env
 ex : List Addr
 fn : Str → Bool
 calm : Bool
 pn : List (Addr × Obj)
 xe : Value → Shared → Prop
def frs (l : List Env) : List Addr := l.filterMap (·.frame)
abbrev Cx.fs (X : Cx) : List Addr := frs X.outer
def Vis (sc : Scope) (x : Str) : Prop := sc.names.lookup x = some .local ∨ sc.names.lookup x = some .cell ∨ sc.names.lookup x = some .free
def Loc (sc : Scope) (x : Str) : Prop := sc.names.lookup x = some .local ∨ sc.names.lookup x = some .cell
def Look (env : Env) (h : Heap) (m : Str → Option Value) (x : Str) (u : Value) : Prop :=
 (env.kindOf x = some .local ∧ m x = some u) ∨ ((env.kindOf x = some .cell ∨ env.kindOf x = some .free) ∧ ∃ c, env.cells.lookup x = some c ∧ h.IsCell c (some u))
structure Cx.Ok (X : Cx) : Prop where
 mod : Mod X.K X.mg X.base
 kind : X.env.scope.kind = .function
 glob : X.env.globals = mainGlobals
 blt : X.env.builtins = builtinsNs
 above : X.s₀.heap.objs.size ≤ X.env.locals
 inj : ∀ x y c, X.env.cells.lookup x = some c → X.env.cells.lookup y = some c → x = y
 has : ∀ x, (X.env.kindOf x = some .cell ∨ X.env.kindOf x = some .free) → ∃ c, X.env.cells.lookup x = some c
 cab : ∀ x c, X.fn x = true → X.env.cells.lookup x = some c → X.s₀.heap.objs.size ≤ c
 hd : X.calm = true → X.A.handled = none
 frames : X.A.frames = some X.stack
 stk : X.stack = X.outer ∨ (X.stack = X.env :: X.outer ∧ X.env.frame = some X.env.locals)
 exf : ∀ b ∈ X.ex, b ≠ X.env.locals ∧ ∀ x c, X.env.cells.lookup x = some c → c ≠ b
 bs : ∀ b o, X.base.get? b = some o → X.s₀.heap.get? b = some o ∧ X.H₀ b = none
 bsz : X.base.objs.size ≤ X.s₀.heap.objs.size
 noex : ∀ b o, X.base.get? b = some o → b ∉ X.ex
 exfs : ∀ b ∈ X.ex, b ∉ X.fs
 funs : X.s₀.heap.FunFrames X.base X.outer
 frf : ∀ b ∈ X.fs, X.H₀ b = none
structure Inv (X : Cx) (pins : List (Addr × Obj)) (σ : List (Option V)) (H : Hp) (s : Shared) : Prop where
 ok : X.Ok
 os : s.os = X.s₀.os
 bare : AllBare s.gens
 base : Un X.fs X.ex X.H₀ H X.s₀.heap s.heap
 loc : ∃ m, s.heap.Ns X.env.locals m ∧ ∀ (i : Nat) (x : Str) (v : V), X.N[i]? = some x → σ[i]? = some (some v) → Vis X.env.scope x → ∃ u, RelV v u ∧ Look X.env s.heap m x u
 cell : ∀ x c, X.env.cells.lookup x = some c → ∃ v, s.heap.IsCell c v
 free : H X.env.locals = none
 freeC : ∀ x c, X.env.cells.lookup x = some c → H c = none
 pin : ∀ p ∈ X.pn ++ pins, s.heap.get? p.1 = some p.2 ∧ H p.1 = none ∧ p.1 ≠ X.env.locals ∧ p.1 ∉ X.fs ∧ ∀ v, p.2.data ≠ .cell v
 hok : HOk X.prog X.w H s.heap
 len : σ.length = X.N.length
section
variable {X : Cx} {pins : List (Addr × Obj)} {σ : List (Option V)} {H H' : Hp} {s : Shared} {h' : Heap}
theorem Cx.Ok.nofr (ok : X.Ok) {b : Addr} {o : Obj} (e : X.base.get? b = some o) : b ∉ X.fs := fun hb => by
 have := (ok.funs.mem hb).1
 rw [e] at this; cases this
theorem Inv.bs (I : Inv X pins σ H s) : ∀ b o, X.base.get? b = some o → s.heap.get? b = some o ∧ H b = none := fun b o e =>
 ⟨I.base.keep b o (I.ok.bs b o e).1 (I.ok.bs b o e).2 (I.ok.nofr e) (I.ok.noex b o e), I.base.free b o (I.ok.bs b o e).1 (I.ok.bs b o e).2 (I.ok.noex b o e)⟩
theorem Inv.bk (I : Inv X pins σ H s) : ∀ b o, X.base.get? b = some o → s.heap.get? b = some o := fun b o e => (I.bs b o e).1
theorem Inv.mod (I : Inv X pins σ H s) : Mod X.K X.mg X.base := I.ok.mod
theorem Inv.kIn (I : Inv X pins σ H s) : X.K.In s.heap := I.ok.mod.kin.keeps I.bk
theorem Inv.lt (I : Inv X pins σ H s) : X.env.locals < s.heap.objs.size := let ⟨_, hn, _⟩ := I.loc; hn.lt
theorem Inv.sz (I : Inv X pins σ H s) : X.s₀.heap.objs.size ≤ s.heap.objs.size := Nat.le_trans I.ok.above (Nat.le_of_lt I.lt)
theorem Inv.nofs (I : Inv X pins σ H s) {a : Addr} (h : s.heap.objs.size ≤ a) : a ∉ X.fs := fun hb => by
 obtain ⟨_, o, ho, _⟩ := I.ok.funs.mem hb
 exact absurd (Nat.lt_of_lt_of_le (Heap.lt_size ho) (Nat.le_trans I.sz h)) (Nat.lt_irrefl _)
theorem Inv.cne (I : Inv X pins σ H s) : ∀ x c, X.env.cells.lookup x = some c → c ≠ X.env.locals := fun x c e z => by
 obtain ⟨v, o, ho, hd⟩ := I.cell x c e
 obtain ⟨m, ⟨o', es, ep, ho', hd', _⟩, _⟩ := I.loc
 rw [z, ho'] at ho; cases ho; rw [hd'] at hd; cases hd
theorem Inv.funs (I : Inv X pins σ H s) : s.heap.FunFrames X.base X.outer := by
 have all : ∀ (l : List Env), (∀ b ∈ frs l, b ∈ X.fs) → X.s₀.heap.FunFrames X.base l → s.heap.FunFrames X.base l := by
  intro l
  induction l with
  | nil => intro _ _; trivial
  | cons env r ih =>
   intro hs hl
   obtain ⟨hk, ⟨L, o, hf, hn, ho, hd⟩, hr⟩ := hl
   have hL : L ∈ X.fs := hs L (by unfold frs; rw [List.filterMap_cons, hf]; exact List.mem_cons_self)
   obtain ⟨sl, e⟩ := I.base.slot L o ho (I.ok.frf L hL) hL fun z => I.ok.exfs L z hL
   exact ⟨hk, ⟨L, _, hf, hn, e, hd⟩, ih (fun b hb => hs b (by unfold frs; rw [List.filterMap_cons, hf]; exact List.mem_cons_of_mem _ hb)) hr⟩
 exact all X.outer (fun _ hb => hb) I.ok.funs
theorem Inv.stack (I : Inv X pins σ H s) : s.heap.FunFrames X.base X.stack := by
 rcases I.ok.stk with e | ⟨e, hf⟩
 ·rw [e]; exact I.funs
 ·rw [e]
  obtain ⟨m, hn, _⟩ := I.loc
  refine .cons (by rw [I.ok.kind]; decide) hf hn ?_ I.funs
  exact Heap.get?_none_of_le (Nat.le_trans I.ok.bsz I.ok.above)
theorem Inv.stkSub (I : Inv X pins σ H s) : ∀ b ∈ frs X.stack, b ∈ X.env.locals :: X.fs := fun b hb => by
 rcases I.ok.stk with e | ⟨e, hf⟩
 ·rw [e] at hb; exact List.mem_cons_of_mem _ hb
 ·rw [e] at hb
  unfold frs at hb
  rw [List.filterMap_cons, hf] at hb
  exact hb
theorem Inv.stkFree (I : Inv X pins σ H s) : ∀ b ∈ frs X.stack, H b = none := fun b hb => by
 rcases List.mem_cons.mp (I.stkSub b hb) with e | hb
 ·rw [e]; exact I.free
 ·obtain ⟨_, o, ho, _⟩ := I.ok.funs.mem hb
  exact I.base.free b o ho (I.ok.frf b hb) fun z => I.ok.exfs b z hb
theorem Inv.step {g' : Array GenState} {t' : Nat} {d' : Drawn} {ch : List Addr} (I : Inv X pins σ H s)
  (hch : ∀ b ∈ ch, (b ∈ X.ex ∨ X.s₀.heap.objs.size ≤ b) ∧ b ≠ X.env.locals ∧ (∀ x c, X.env.cells.lookup x = some c → c ≠ b) ∧ ∀ p ∈ X.pn ++ pins, p.1 ≠ b)
  (keep : ∀ b o, b ≠ X.env.locals → b ∉ X.fs → b ∉ ch → s.heap.get? b = some o → H b = none → h'.get? b = some o)
  (slot : ∀ b o, b ≠ X.env.locals → b ∈ X.fs → b ∉ ch → s.heap.get? b = some o → H b = none → ∃ sl, h'.get? b = some { o with slots := sl }) (free : ∀ b o, b ∉ ch → s.heap.get? b = some o → H b = none → H' b = none)
  (there : ∀ b o, b ∉ ch → s.heap.get? b = some o → ∃ o', h'.get? b = some o')
  (tups : ∀ b xs, H b = some (.tup xs) → H' b = some (.tup xs)) (frzs : ∀ b o u, H b = some (.frz o u) → H' b = some (.frz o u)) (tbls : ∀ b ps, H b = some (.tbl ps) → ∃ more, H' b = some (.tbl (ps ++ more)))
  (ns : ∀ m, s.heap.Ns X.env.locals m → h'.Ns X.env.locals m) (hok : HOk X.prog X.w H' h') (hg : AllBare g') :
  Inv X pins σ H' { s with heap := h', gens := g', drawn := d', toks := t' } := by
 have neL : ∀ b o, X.s₀.heap.get? b = some o → b ≠ X.env.locals := fun b o e => Nat.ne_of_lt (Nat.lt_of_lt_of_le (Heap.lt_size e) I.ok.above)
 have neC : ∀ b o, X.s₀.heap.get? b = some o → b ∉ X.ex → b ∉ ch := fun b o e hx hb => by
  rcases (hch b hb).1 with z | z
  ·exact hx z
  ·exact absurd (Nat.lt_of_lt_of_le (Heap.lt_size e) z) (Nat.lt_irrefl _)
 have cellK : ∀ x c, X.env.cells.lookup x = some c → ∀ v, s.heap.IsCell c v → h'.IsCell c v := fun x c e v ⟨o, ho, hd⟩ => by
  have nch : c ∉ ch := fun z => (hch c z).2.2.1 x c e rfl
  by_cases hc : c ∈ X.fs
  ·obtain ⟨sl, q⟩ := slot c o (I.cne x c e) hc nch ho (I.freeC x c e)
   exact ⟨_, q, hd⟩
  ·exact ⟨o, keep c o (I.cne x c e) hc nch ho (I.freeC x c e), hd⟩
 refine ⟨I.ok, I.os, hg, ⟨fun b o e n hb hx => ?_, fun b o e n hb hx => ?_, fun b o e n hx => ?_, fun b o e hx => ?_, fun b xs e => tups b xs (I.base.tups b xs e), fun b o xs e => frzs b o xs (I.base.frzs b o xs e), fun b ps e => ?_⟩, ?_, fun x c e => ?_, ?_, fun x c e => ?_, fun p hp => ?_, hok, I.len⟩
 ·exact keep b o (neL b o e) hb (neC b o e hx) (I.base.keep b o e n hb hx) (I.base.free b o e n hx)
 ·obtain ⟨sl, e1⟩ := I.base.slot b o e n hb hx
  obtain ⟨sl', e2⟩ := slot b _ (neL b o e) hb (neC b o e hx) e1 (I.base.free b o e n hx)
  exact ⟨sl', e2⟩
 ·obtain ⟨o', e1⟩ := I.base.there b o e hx
  exact free b o' (neC b o e hx) e1 (I.base.free b o e n hx)
 ·obtain ⟨o', e1⟩ := I.base.there b o e hx
  exact there b o' (neC b o e hx) e1
 ·obtain ⟨m1, e1⟩ := I.base.tbls b ps e
  obtain ⟨m2, e2⟩ := tbls b _ e1
  exact ⟨m1 ++ m2, by rw [e2, Array.append_assoc]⟩
 ·obtain ⟨m, hn, hl⟩ := I.loc
  refine ⟨m, ns m hn, fun i x v e1 e2 e3 => ?_⟩
  obtain ⟨u, r, l⟩ := hl i x v e1 e2 e3
  refine ⟨u, r, ?_⟩
  rcases l with l | ⟨k, c, e, z⟩
  ·exact .inl l
  ·exact .inr ⟨k, c, e, cellK x c e _ z⟩
 ·obtain ⟨v, z⟩ := I.cell x c e
  exact ⟨v, cellK x c e v z⟩
 ·obtain ⟨m, ⟨o, _, _, ho, _⟩, _⟩ := I.loc
  exact free _ o (fun z => (hch _ z).2.1 rfl) ho I.free
 ·obtain ⟨v, o, ho, hd⟩ := I.cell x c e
  exact free c o (fun z => (hch c z).2.2.1 x c e rfl) ho (I.freeC x c e)
 ·obtain ⟨e, n, ne, nf, d⟩ := I.pin p hp
  have nch : p.1 ∉ ch := fun z => (hch p.1 z).2.2.2 p hp rfl
  exact ⟨keep p.1 p.2 ne nf nch e n, free p.1 p.2 nch e n, ne, nf, d⟩
theorem Inv.un {t' : Nat} (I : Inv X pins σ H s) (u : Un X.fs [] H H' s.heap h') (hok : HOk X.prog X.w H' h') : Inv X pins σ H' { s with heap := h', toks := t' } := by
 obtain ⟨m, ⟨o, es, ep, ho, r⟩, _⟩ := id I.loc
 obtain ⟨sl, hL⟩ := u.any ho I.free (by simp)
 exact I.step (g' := s.gens) (d' := s.drawn) (ch := []) (fun _ z => nomatch z) (fun b o _ hb _ e n => u.keep b o e n hb (by simp)) (fun b o _ hb _ e n => u.slot b o e n hb (by simp)) (fun b o _ e n => u.free b o e n (by simp)) (fun b o _ e => u.there b o e (by simp)) u.tups u.frzs u.tbls (fun m' hm => by
  obtain ⟨o', es', ep', ho', r'⟩ := hm
  rw [ho] at ho'; cases ho'
  exact ⟨_, es', ep', hL, r'⟩) hok I.bare
theorem Inv.call {g' : Array GenState} {t' : Nat} {d' : Drawn} {ch : List Addr} (I : Inv X pins σ H s) (u : Un (frs X.stack) ch H H' s.heap h') (hok : HOk X.prog X.w H' h') (hg : AllBare g')
  (hch : ∀ b ∈ ch, (b ∈ X.ex ∨ X.s₀.heap.objs.size ≤ b) ∧ b ≠ X.env.locals ∧ (∀ x c, X.env.cells.lookup x = some c → c ≠ b) ∧ ∀ p ∈ X.pn ++ pins, p.1 ≠ b) :
  Inv X pins σ H' { s with heap := h', gens := g', drawn := d', toks := t' } := by
 obtain ⟨m, ⟨o, es, ep, ho, r⟩, _⟩ := id I.loc
 obtain ⟨sl, hL⟩ := u.any ho I.free fun z => (hch _ z).2.1 rfl
 exact I.step (ch := ch) hch (fun b o hL hb hc e n => u.keep b o e n (fun z => (List.mem_cons.mp (I.stkSub b z)).elim hL hb) hc) (fun b o _ _ hc e n => u.any e n hc) (fun b o hc e n => u.free b o e n hc) (fun b o hc e => u.there b o e hc) u.tups u.frzs u.tbls (fun m' hm => by
  obtain ⟨o', es', ep', ho', r'⟩ := hm
  rw [ho] at ho'; cases ho'
  exact ⟨_, es', ep', hL, r'⟩) hok hg
theorem Inv.turned {t' : Nat} {it : Addr} (I : Inv X pins σ H s) (k : ∀ b o, b ≠ it → s.heap.get? b = some o → h'.get? b = some o) (hn : H it = none) (hL : it ≠ X.env.locals)
  (h1 : it ∈ X.ex ∨ X.s₀.heap.objs.size ≤ it) (h2 : ∀ x c, X.env.cells.lookup x = some c → c ≠ it) (h3 : ∀ p ∈ X.pn ++ pins, p.1 ≠ it) : Inv X pins σ H { s with heap := h', toks := t' } := by
 have nit : ∀ b u, H b = some u → b ≠ it := fun b u e z => by rw [z, hn] at e; cases e
 refine I.step (g' := s.gens) (d' := s.drawn) (ch := [it]) (fun b hb => ?_) (fun b o _ _ hc e _ => k b o (fun z => hc (by simp [z])) e) (fun b o _ _ hc e _ => ⟨o.slots, k b o (fun z => hc (by simp [z])) e⟩) (fun _ _ _ _ n => n)
  (fun b o hc e => ⟨o, k b o (fun z => hc (by simp [z])) e⟩) (fun _ _ e => e) (fun _ _ _ e => e) (fun b ps e => ⟨#[], by rw [e]; simp⟩) (fun m hm => ?_) (fun b u e => ?_) I.bare
 ·have e : b = it := by simpa using hb
  subst e
  exact ⟨h1, hL, h2, h3⟩
 ·obtain ⟨o, es, ep, ho, r⟩ := hm
  exact ⟨o, es, ep, k _ o (Ne.symm hL) ho, r⟩
 ·refine (I.hok b u e).stay (fun c v hc q => k c v ?_ q) (fun _ q => q) fun _ _ q => q
  rcases hc with z | z
  ·rw [z]; exact nit b u e
  ·exact nit c _ z
theorem Inv.tok (I : Inv X pins σ H s) (t : Nat) : Inv X pins σ H { s with toks := t } := I.un (h' := s.heap) (t' := t) Un.refl I.hok
theorem Inv.kept {t' : Nat} (I : Inv X pins σ H s) (k : ∀ b u, s.heap.get? b = some u → h'.get? b = some u) : Inv X pins σ H { s with heap := h', toks := t' } := I.un (Un.kept k) (I.hok.kept k)
theorem Inv.laid {a : Addr} {o : HO} {t' : Nat} (I : Inv X pins σ H s) (k : ∀ b u, s.heap.get? b = some u → h'.get? b = some u) (hp : s.heap.objs.size ≤ a) (new : ObjOk X.prog X.w (upd H a o) h' a o) :
  Inv X pins σ (upd H a o) { s with heap := h', toks := t' } := I.un (Un.laid k hp (I.hok.fresh hp)) (I.hok.laid k hp new)
theorem Inv.write {x e : Addr} {o : HO} {t' : Nat} (I : Inv X pins σ H s) (mu : Mut (H x)) (he : e = x ∨ H e = some (.own x)) (k : ∀ b u, b ≠ e → s.heap.get? b = some u → h'.get? b = some u) (heo : ∃ u, h'.get? e = some u)
  (new : ObjOk X.prog X.w (upd H x o) h' x o) : Inv X pins σ (upd H x o) { s with heap := h', toks := t' } := I.un (Un.write mu he k heo) (I.hok.write mu he k heo new)
theorem Inv.pins_of {pins' : List (Addr × Obj)} (I : Inv X pins σ H s) (h : ∀ p ∈ pins', s.heap.get? p.1 = some p.2 ∧ H p.1 = none ∧ p.1 ≠ X.env.locals ∧ p.1 ∉ X.fs ∧ ∀ v, p.2.data ≠ .cell v) : Inv X pins' σ H s :=
 ⟨I.ok, I.os, I.bare, I.base, I.loc, I.cell, I.free, I.freeC, fun p hp => (List.mem_append.mp hp).elim (fun z => I.pin p (List.mem_append_left _ z)) (h p), I.hok, I.len⟩
theorem JX {N : List Str} (hN : N.Nodup) {i j : Nat} {x : Str} (a : N[i]? = some x) (b : N[j]? = some x) : i = j := by
 obtain ⟨h1, e1⟩ := List.getElem?_eq_some_iff.mp a
 obtain ⟨h2, e2⟩ := List.getElem?_eq_some_iff.mp b
 exact (List.getElem_inj hN).mp (e1.trans e2.symm)
theorem Wz {M : Model} {A : Around} {E : Value → Shared → Prop} {i : Nat} {x : Str} {v : V} {u : Value} {Q : Unit → Shared → Prop} (I : Inv X pins σ H s) (hN : X.N.Nodup) (hi : X.N[i]? = some x) (hx : Loc X.env.scope x) (r : RelV v u)
  (h : ∀ s', Inv X pins (σ.set i (some v)) H s' → (∃ a, Heap.SameBut a s.heap s'.heap ∧ (a = X.env.locals ∨ X.env.cells.lookup x = some a)) → Q () s') (hf : X.fn x = true ∨ X.env.scope.names.lookup x = some .local := by first | exact .inl rfl | exact .inr rfl | assumption) : wpAny M A (storeName X.env x u) Q E s := by
 obtain ⟨m, hn, hl⟩ := id I.loc
 have hcls : (X.env.scope.kind == .class || (X.env.scope.kind == .module && X.env.locals != X.env.globals)) = false := by rw [I.ok.kind]; rfl
 have hiσ : i < σ.length := by rw [I.len]; exact (List.getElem?_eq_some_iff.mp hi).1
 have cne := I.cne
 have tracked : ∀ {a : Addr} {h' : Heap}, (∃ o, s.heap.get? a = some o ∧ H a = none) → Heap.SameBut a s.heap h' → HOk X.prog X.w H h' := fun {a h'} ha hs b ob e => by
  obtain ⟨_, _, hfree⟩ := ha
  refine (I.hok b ob e).stay (fun c w' hc q => (hs.2 c ?_).trans q) (fun _ q => q) fun _ _ q => q
  rintro rfl
  rcases hc with rfl | hc
  ·rw [hfree] at e; cases e
  ·rw [hfree] at hc; cases hc
 rcases hx with hk | hk
 ·refine wpAny_storeName_local hk hn (fun h' hn' hs => ?_) hcls
  obtain ⟨oL, _, _, hoL, _⟩ := id hn
  refine h _ ⟨I.ok, I.os, I.bare, ⟨fun b o e n hb hx => ?_, fun b o e n hb hx => ?_, I.base.free, fun b o e hx => ?_, I.base.tups, I.base.frzs, I.base.tbls⟩, ⟨_, hn', fun j y v' e1 e2 e3 => ?_⟩, fun y c e => ?_, I.free, I.freeC, fun p hp => ?_, tracked ⟨oL, hoL, I.free⟩ hs, by simpa using I.len⟩ ⟨_, hs, .inl rfl⟩
  ·exact (hs.2 b (Nat.ne_of_lt (Nat.lt_of_lt_of_le (Heap.lt_size e) I.ok.above))).trans (I.base.keep b o e n hb hx)
  ·obtain ⟨sl, e1⟩ := I.base.slot b o e n hb hx
   exact ⟨sl, (hs.2 b (Nat.ne_of_lt (Nat.lt_of_lt_of_le (Heap.lt_size e) I.ok.above))).trans e1⟩
  ·obtain ⟨o', e1⟩ := I.base.there b o e hx
   exact ⟨o', (hs.2 b (Nat.ne_of_lt (Nat.lt_of_lt_of_le (Heap.lt_size e) I.ok.above))).trans e1⟩
  ·by_cases hj : j = i
   ·subst hj
    rw [hi] at e1; cases e1
    rw [List.getElem?_set_self hiσ] at e2
    cases e2
    exact ⟨u, r, .inl ⟨hk, by simp⟩⟩
   ·rw [List.getElem?_set_ne (Ne.symm hj)] at e2
    obtain ⟨u', r', q⟩ := hl j y v' e1 e2 e3
    refine ⟨u', r', ?_⟩
    rcases q with ⟨k, e⟩ | ⟨k, c, e, z⟩
    ·refine .inl ⟨k, ?_⟩
     have : y ≠ x := fun e => hj (JX hN e1 (e ▸ hi))
     simp [this, e]
    ·exact .inr ⟨k, c, e, z.sameBut hs (cne y c e)⟩
  ·obtain ⟨w', z⟩ := I.cell y c e
   exact ⟨w', z.sameBut hs (cne y c e)⟩
  ·obtain ⟨e, n, ne, nf, d⟩ := I.pin p hp
   exact ⟨(hs.2 p.1 ne).trans e, n, ne, nf, d⟩
 ·have hfn : X.fn x = true := by
   rcases hf with z | z
   ·exact z
   ·rw [z] at hk; cases hk
  obtain ⟨c, hc⟩ := I.ok.has x (.inl hk)
  obtain ⟨w', z⟩ := I.cell x c hc
  refine wpAny_storeName_cell I.ok.kind hk hc z (fun h' hc' hs => ?_)
  obtain ⟨oc, hoc, hocd⟩ := id z
  refine h { s with heap := h' } ⟨I.ok, I.os, I.bare, ⟨fun b o e n hb hx => ?_, fun b o e n hb hx => ?_, I.base.free, fun b o e hx => ?_, I.base.tups, I.base.frzs, I.base.tbls⟩, ⟨m, hn.sameBut hs (Ne.symm (cne x c hc)), fun j y v' e1 e2 e3 => ?_⟩, fun y c' e => ?_, I.free, I.freeC, fun p hp => ?_, tracked ⟨oc, hoc, I.freeC x c hc⟩ hs, by simpa using I.len⟩ ⟨c, hs, .inr hc⟩
  ·exact (hs.2 b (Nat.ne_of_lt (Nat.lt_of_lt_of_le (Heap.lt_size e) (I.ok.cab x c hfn hc)))).trans (I.base.keep b o e n hb hx)
  ·obtain ⟨sl, e1⟩ := I.base.slot b o e n hb hx
   exact ⟨sl, (hs.2 b (Nat.ne_of_lt (Nat.lt_of_lt_of_le (Heap.lt_size e) (I.ok.cab x c hfn hc)))).trans e1⟩
  ·obtain ⟨o', e1⟩ := I.base.there b o e hx
   exact ⟨o', (hs.2 b (Nat.ne_of_lt (Nat.lt_of_lt_of_le (Heap.lt_size e) (I.ok.cab x c hfn hc)))).trans e1⟩
  ·by_cases hj : j = i
   ·subst hj
    rw [hi] at e1; cases e1
    rw [List.getElem?_set_self hiσ] at e2
    cases e2
    exact ⟨u, r, .inr ⟨.inl hk, c, hc, hc'⟩⟩
   ·rw [List.getElem?_set_ne (Ne.symm hj)] at e2
    obtain ⟨u', r', q⟩ := hl j y v' e1 e2 e3
    refine ⟨u', r', ?_⟩
    rcases q with q | ⟨k, c', e, z'⟩
    ·exact .inl q
    ·refine .inr ⟨k, c', e, z'.sameBut hs ?_⟩
     rintro rfl
     exact hj (JX hN e1 (I.ok.inj _ _ _ e hc ▸ hi))
  ·by_cases hcc : c' = c
   ·subst hcc; exact ⟨_, hc'⟩
   ·obtain ⟨w2, z2⟩ := I.cell y c' e
    exact ⟨w2, z2.sameBut hs hcc⟩
  ·obtain ⟨e, n, ne, nf, d⟩ := I.pin p hp
   refine ⟨(hs.2 p.1 ?_).trans e, n, ne, nf, d⟩
   intro q
   rw [q, hoc] at e
   have q' : oc = p.2 := Option.some.inj e
   exact d w' (by rw [← q']; exact hocd)
theorem Yo {M : Model} {A : Around} {E : Value → Shared → Prop} {i : Nat} {x : Str} {v : V} {u : Value} {Q : Unit → Shared → Prop} (I : Inv X pins σ H s) (hN : X.N.Nodup) (hi : X.N[i]? = some x) (hx : Loc X.env.scope x) (r : RelV v u)
  (h : ∀ s', Inv X pins (σ.set i (some v)) H s' → Q () s') (hf : X.fn x = true ∨ X.env.scope.names.lookup x = some .local := by first | exact .inl rfl | exact .inr rfl | assumption) : wpAny M A (storeName X.env x u) Q E s :=
 Wz I hN hi hx r (fun s' I' _ => h s' I') hf
theorem Inv.call' {s' : Shared} {ch : List Addr} (I : Inv X pins σ H s) (ho : s'.os = s.os) (u : Un (frs X.stack) ch H H' s.heap s'.heap) (hok : HOk X.prog X.w H' s'.heap) (hg : AllBare s'.gens)
  (hch : ∀ b ∈ ch, (b ∈ X.ex ∨ X.s₀.heap.objs.size ≤ b) ∧ b ≠ X.env.locals ∧ (∀ x c, X.env.cells.lookup x = some c → c ≠ b) ∧ ∀ p ∈ X.pn ++ pins, p.1 ≠ b) : Inv X pins σ H' s' := by
 obtain ⟨h', g', d', t', o'⟩ := s'
 have e : o' = s.os := ho
 subst e
 exact I.call (g' := g') (t' := t') (d' := d') u hok hg hch
end
abbrev XK := Value → Option Addr → Hp → Prop
abbrev St := List (Option V)
abbrev VK := V → Hp → Prop
abbrev TE := St → Hp → VK → Prop
abbrev TT := St → Hp → (Bool → Hp → Prop) → Prop
abbrev TA := St → Hp → (List V → Hp → Prop) → Prop
structure Ends where
 nx : St → Hp → Prop
 rt : VK
 bk : St → Hp → Prop := fun _ _ => False
 ct : St → Hp → Prop := fun _ _ => False
abbrev TS := Ends → St → Hp → Prop
def EP (X : Cx) (pins : List (Addr × Obj)) (σ : St) (Q : VK) (u : Value) (s' : Shared) : Prop := ∃ v H', Inv X pins σ H' s' ∧ RelV v u ∧ Q v H'
def TP (X : Cx) (pins : List (Addr × Obj)) (σ : St) (Q : Bool → Hp → Prop) (b : Bool) (s' : Shared) : Prop := ∃ H', Inv X pins σ H' s' ∧ Q b H'
def AP (X : Cx) (pins : List (Addr × Obj)) (σ : St) (Q : List V → Hp → Prop) (us : List Value) (s' : Shared) : Prop := ∃ vs H', Inv X pins σ H' s' ∧ Vals vs us ∧ Q vs H'
def SP (X : Cx) (pins : List (Addr × Obj)) (D : Ends) (f : Flow) (s' : Shared) : Prop :=
 match f with
 | .next => ∃ σ' H', Inv X pins σ' H' s' ∧ D.nx σ' H'
 | .brk => ∃ σ' H', Inv X pins σ' H' s' ∧ D.bk σ' H'
 | .cont => ∃ σ' H', Inv X pins σ' H' s' ∧ D.ct σ' H'
 | .ret u => ∃ v σ' H', Inv X pins σ' H' s' ∧ RelV v u ∧ D.rt v H'
def PE (X : Cx) (e : Expr) (t : TE) : Prop :=
 ∀ (pins : List (Addr × Obj)) (s : Shared) (σ : St) (H : Hp) (Q : VK), Inv X pins σ H s → t σ H Q → wpAny (model X.prog X.w) X.A (eval e X.env) (EP X pins σ Q) X.xe s
def PT (X : Cx) (e : Expr) (t : TT) : Prop :=
 ∀ (pins : List (Addr × Obj)) (s : Shared) (σ : St) (H : Hp) (Q : Bool → Hp → Prop), Inv X pins σ H s → t σ H Q → wpAny (model X.prog X.w) X.A (isTrue e X.env (eval e X.env)) (TP X pins σ Q) X.xe s
def PW (X : Cx) (e : Expr) (t : TT) : Prop :=
 ∀ (whole : Sem Value) (pins : List (Addr × Obj)) (s : Shared) (σ : St) (H : Hp) (Q : Bool → Hp → Prop), Inv X pins σ H s → t σ H Q → wpAny (model X.prog X.w) X.A (isTrue e X.env whole) (TP X pins σ Q) X.xe s
theorem PW.pt {X : Cx} {e : Expr} {t : TT} (h : PW X e t) : PT X e t := h _
def PA (X : Cx) (es : List Expr) (t : TA) : Prop :=
 ∀ (pos : Pos) (pins : List (Addr × Obj)) (s : Shared) (σ : St) (H : Hp) (Q : List V → Hp → Prop), Inv X pins σ H s → t σ H Q → wpAny (model X.prog X.w) X.A (spliced (backTo pos (starEach es X.env))) (AP X pins σ Q) X.xe s
def PS (X : Cx) (st : Stmt) (t : TS) : Prop :=
 ∀ (pins : List (Addr × Obj)) (s : Shared) (σ : St) (H : Hp) (D : Ends), Inv X pins σ H s → t D σ H → wpAny (model X.prog X.w) X.A (exec st X.env) (SP X pins D) X.xe s
def PSs (X : Cx) (st : List Stmt) (t : TS) : Prop :=
 ∀ (pins : List (Addr × Obj)) (s : Shared) (σ : St) (H : Hp) (D : Ends), Inv X pins σ H s → t D σ H → wpAny (model X.prog X.w) X.A (execs st X.env) (SP X pins D) X.xe s
theorem thn {α : Type} {t : Sem α} {Q Q' : α → Shared → Prop} {M : Model} {A : Around} {E : Value → Shared → Prop} {s : Shared} (h : wpAny M A t Q E s) (hQ : ∀ a s, Q a s → Q' a s) : wpAny M A t Q' E s := wpAny_mono h hQ fun _ _ x => x
end L2
namespace L2
open PySem PySem.Spec PyProof.Rows
section
variable {X : Cx}
def tVar (i : Nat) : TE := fun σ H Q => ∃ v, σ[i]? = some (some v) ∧ Q v H
def tC (v : V) : TE := fun _ H Q => Q v H
theorem Yu {i : Nat} {x : Str} {pos : Pos} (hN : X.N[i]? = some x) (hv : Vis X.env.scope x) (hd : (x == ("__debug__" : Str)) = false := by decide) (hcd : (x == ("__classdict__" : Str)) = false := by decide) : PE X (.Name x pos) (tVar i) := by
 intro pins s σ H Q I h
 obtain ⟨v, e, h⟩ := h
 obtain ⟨m, hn, hl⟩ := I.loc
 obtain ⟨u, r, l⟩ := hl i x v hN e hv
 have fin : EP X pins σ Q u s := ⟨v, H, I, r, h⟩
 rcases l with ⟨hk, hm⟩ | ⟨hk, c, hc, hcell⟩
 ·exact wpAny_Name (wpAny_loadName_local I.ok.kind hk hn hm fin) hd
 ·rcases hk with hk | hk
  ·exact wpAny_Name (wpAny_loadName_cell I.ok.kind hk hc hcell fin) hd
  ·exact wpAny_Name (wpAny_loadName_free I.ok.kind hk hc hcell fin hcd) hd
theorem Zf {i j pos} : PE X (.Constant (.int i) j pos) (tC (.int i)) := fun _ _ _ H _ I h => wpAny_Constant_int ⟨.int i, H, I.tok _, ⟨_, rfl⟩, h⟩
theorem JS {b j pos} : PE X (.Constant (.bool b) j pos) (tC (.bl b)) := fun _ _ _ H _ I h => Constant_bool ⟨.bl b, H, I, rfl, h⟩
theorem YE {j pos} : PE X (.Constant .none j pos) (tC .non) := fun _ _ _ H _ I h => Constant_none ⟨.non, H, I, rfl, h⟩
theorem Yv {x j pos} : PE X (.Constant (.str x) j pos) (tC (.str x)) := fun _ _ _ H _ I h => Calls.Constant_str ⟨.str x, H, I.tok _, ⟨_, rfl⟩, h⟩
def Gl (X : Cx) (x : Str) : Prop := X.env.kindOf x = some .globalImplicit
theorem YQ {E : Value → Shared → Prop} {pins : List (Addr × Obj)} {s : Shared} {σ : St} {H : Hp} {x : Str} {u : Value} {pos : Pos} {Q : Value → Shared → Prop} (I : Inv X pins σ H s) (hg : Gl X x) (hm : X.mg x = some u) (h : Q u s)
  (hd : (x == ("__debug__" : Str)) = false := by decide) : wpAny (model X.prog X.w) X.A (eval (.Name x pos) X.env) Q E s :=
 Calls.Name_function_global I.ok.kind hg (Calls.loadGlobal_global (by rw [I.ok.glob]; exact I.mod.glob.keeps I.bk) hm h) hd
theorem Yl {E : Value → Shared → Prop} {pins : List (Addr × Obj)} {s : Shared} {σ : St} {H : Hp} {x : Str} {u : Value} {pos : Pos} {Q : Value → Shared → Prop} (I : Inv X pins σ H s) (hg : Gl X x) (hm : X.mg x = none) (hv : bootBuiltins x = some u) (h : Q u s)
  (hn : x ≠ "__name__" := by decide) (hd : (x == ("__debug__" : Str)) = false := by decide) : wpAny (model X.prog X.w) X.A (eval (.Name x pos) X.env) Q E s := by
 obtain ⟨mb, h1, h2⟩ := I.mod.blt
 exact Calls.Name_function_global I.ok.kind hg (Calls.loadGlobal_builtin (by rw [I.ok.glob]; exact I.mod.glob.keeps I.bk) hm (by rw [I.ok.blt]; exact h1.keeps I.bk) ((h2 x hn).trans hv) h) hd
theorem Y8 {x : Str} {v : V} {u : Value} {pos : Pos} (hg : Gl X x) (hm : X.mg x = some u) (r : RelV v u) (hd : (x == ("__debug__" : Str)) = false := by decide) : PE X (.Name x pos) (tC v) :=
 fun _ _ _ H _ I h => YQ I hg hm ⟨v, H, I, r, h⟩ hd
theorem ZB {x : Str} {v : V} {u : Value} {pos : Pos} (hg : Gl X x) (hm : X.mg x = none) (hv : bootBuiltins x = some u) (r : RelV v u) (hn : x ≠ "__name__" := by decide) (hd : (x == ("__debug__" : Str)) = false := by decide) : PE X (.Name x pos) (tC v) :=
 fun _ _ _ H _ I h => Yl I hg hm hv ⟨v, H, I, r, h⟩ hn hd
variable {a b : Expr} {ta tb : TE} {pos : Pos}
def PC (X : Cx) (op : CmpOp) (a b : Expr) (t : TE) : Prop :=
 ∀ (pins : List (Addr × Obj)) (s : Shared) (σ : St) (H : Hp) (Q : VK), Inv X pins σ H s → t σ H Q →
  wpAny (model X.prog X.w) X.A (eval a X.env) (fun v s₁ => wpAny (model X.prog X.w) X.A (eval b X.env) (fun u s₂ => wpAny (model X.prog X.w) X.A (compareOp op v u) (EP X pins σ Q) X.xe s₂) X.xe s₁) X.xe s
theorem nobehind (b : Expr) {op : CmpOp} (h : op ≠ .In) (h2 : op ≠ .NotIn) : behindInMarks op b = false := by
 have e1 : (op == CmpOp.In) = false := by cases op <;> first | rfl | exact absurd rfl h
 have e2 : (op == CmpOp.NotIn) = false := by cases op <;> first | rfl | exact absurd rfl h2
 cases b <;> simp [behindInMarks, e1, e2]
def tIsN (ta : TE) : TE := fun σ H Q => ta σ H fun x H1 => Q (.bl (decide (x = .non))) H1
def tNotN (ta : TE) : TE := fun σ H Q => ta σ H fun x H1 => Q (.bl (!decide (x = .non))) H1
theorem RelV.none_iff {x : V} {v : Value} (r : RelV x v) : (v == Value.none) = decide (x = .non) := by
 cases x with
 | non => cases r; rfl
 | bl _ => cases r; rfl
 | int _ => obtain ⟨t, rfl⟩ := r; rfl
 | str _ => obtain ⟨t, rfl⟩ := r; rfl
 | byt _ => obtain ⟨t, rfl⟩ := r; rfl
 | flt _ => obtain ⟨t, rfl⟩ := r; rfl
 | ref _ => cases r; rfl
 | ty _ => cases r; rfl
theorem JT {j pos'} (ha : PE X a ta) : PC X .Is a (.Constant .none j pos') (tIsN ta) := by
 intro pins s σ H Q I h
 refine thn (ha pins s σ H _ I h) fun v s1 ⟨x, H1, I1, r1, q1⟩ => ?_
 exact Constant_none (is_none_gen ⟨.bl _, H1, I1, by rw [r1.none_iff]; rfl, q1⟩)
theorem ZaI {j pos'} (ha : PE X a ta) : PC X .IsNot a (.Constant .none j pos') (tNotN ta) := by
 intro pins s σ H Q I h
 refine thn (ha pins s σ H _ I h) fun v s1 ⟨x, H1, I1, r1, q1⟩ => ?_
 exact Constant_none (isnot_none_gen ⟨.bl _, H1, I1, by rw [r1.none_iff]; rfl, q1⟩)
def tB (t : TE) : TT := fun σ H Q => t σ H fun x H1 => ∃ c, x = .bl c ∧ Q c H1
theorem YC {op : CmpOp} {t : TE} (h : PC X op a b t) (h1 : behindInMarks op b = false := by first | exact nobehind _ (by decide) (by decide) | rfl) : PT X (.Compare a [op] [b] pos) (tB t) := by
 intro pins s σ H Q I hw
 refine wpAny_isTrue_Compare1 (thn (h pins s σ H _ I hw) fun v s1 h1 => thn h1 fun u s2 h2 => thn h2 fun c s3 ⟨x, H1, I1, r1, q1⟩ => ?_) h1
 obtain ⟨d, rfl, q⟩ := q1
 cases r1
 exact wpAny_truthy_bool ⟨H1, I1, q⟩
theorem ZT {e : Expr} {t : TE} (h : PE X e t) (he : ∀ whole, isTrue e X.env whole = (do let v ← whole; standAt e.pos; holding [v] (truthy v)) := by intro _; rfl) : PT X e (tB t) := by
 intro pins s σ H Q I hw
 refine isTrue_plain (thn (h pins s σ H _ I hw) fun v s1 ⟨x, H1, I1, r1, q1⟩ => ?_) (he _)
 obtain ⟨d, rfl, q⟩ := q1
 cases r1
 exact wpAny_truthy_bool ⟨H1, I1, q⟩
variable {tA tB' : TT} {rest : List Expr}
def tOr (t u : TT) : TT := fun σ H Q => t σ H fun c H1 => if c = true then Q true H1 else u σ H1 Q
def tNot (t : TT) : TT := fun σ H Q => t σ H fun c H1 => Q (!c) H1
theorem Jp (ha : PT X a tA) : PW X (.BoolOp .Or [a] pos) tA := by
 intro wh pins s σ H Q I h
 refine isTrue_or (thn (ha pins s σ H Q I h) fun c s1 e => ?_)
 cases c with
 | false => exact isTrue_or_nil e
 | true => exact e
theorem JM (ha : PT X a tA) (hb : PW X (.BoolOp .Or (b :: rest) pos) tB') : PW X (.BoolOp .Or (a :: b :: rest) pos) (tOr tA tB') := by
 intro wh pins s σ H Q I h
 refine isTrue_or (thn (ha pins s σ H _ I h) fun c s1 ⟨H1, I1, q1⟩ => ?_)
 cases c with
 | true => exact ⟨H1, I1, q1⟩
 | false => exact hb wh pins s1 σ H1 Q I1 q1
theorem Ya (ha : PT X a tA) : PT X (.UnaryOp .Not a pos) (tNot tA) := by
 intro pins s σ H Q I h
 exact isTrue_not (ha pins s σ H (fun c H1 => Q (!c) H1) I h)
def tAndV (ta tb : TE) : TE := fun σ H Q => ta σ H fun x H1 => ∃ c, x = .bl c ∧ if c = true then tb σ H1 Q else Q (.bl false) H1
def tNotV (ta : TE) : TE := fun σ H Q => ta σ H fun x H1 => ∃ c, x = .bl c ∧ Q (.bl (!c)) H1
theorem Yb {op} {t : TE} (h : PE X a t) : PE X (.BoolOp op [a] pos) t := fun pins s σ H Q I hw => BoolOp_one (h pins s σ H Q I hw)
theorem Z2 (ha : PE X a ta) (hb : PE X (.BoolOp .And (b :: rest) pos) tb) : PE X (.BoolOp .And (a :: b :: rest) pos) (tAndV ta tb) := by
 intro pins s σ H Q I h
 refine BoolOp_and (thn (ha pins s σ H _ I h) fun v s1 ⟨x, H1, I1, r1, q1⟩ => ?_)
 obtain ⟨c, rfl, q1⟩ := q1
 cases r1
 refine wpAny_truthy_bool ?_
 cases c with
 | true => exact hb pins s1 σ H1 Q I1 q1
 | false => exact ⟨.bl false, H1, I1, rfl, q1⟩
theorem ZdM (ha : PE X a ta) : PE X (.UnaryOp .Not a pos) (tNotV ta) := by
 intro pins s σ H Q I h
 refine UnaryOp_ (thn (ha pins s σ H _ I h) fun v s1 ⟨x, H1, I1, r1, q1⟩ => ?_)
 obtain ⟨c, rfl, q1⟩ := q1
 cases r1
 exact not_of (wpAny_truthy_bool ⟨.bl (!c), H1, I1, rfl, q1⟩)
def tIf (t : TT) (ta tb : TE) : TE := fun σ H Q => t σ H fun c H1 => if c = true then ta σ H1 Q else tb σ H1 Q
theorem Uw {c : Expr} (hc : PT X c tA) (ha : PE X a ta) (hb : PE X b tb) : PE X (.IfExp c a b pos) (tIf tA ta tb) := by
 intro pins s σ H Q I h
 refine wpAny_IfExp (thn (hc pins s σ H _ I h) fun d s1 ⟨H1, I1, q1⟩ => ?_)
 cases d with
 | true => exact ha pins s1 σ H1 Q I1 q1
 | false => exact hb pins s1 σ H1 Q I1 q1
end
end L2
namespace L2
open PySem PySem.Spec PyProof.Rows
def SqL (K : PySem.W.Frag) (H : Hp) (a : Addr) (xs : List V) : Prop :=
 Rd H a (.lst xs) ∨
  ∃ (o : Obj) (its : Array Value) (n : Nat), K.lookup a = some o ∧ o.cls = .type "list" ∧ o.dict = none ∧ o.data = .seq its n ∧ its.size ≤ sizeLine ∧ Vals xs its.toList
def SqT (K : PySem.W.Frag) (H : Hp) (a : Addr) (xs : List V) : Prop :=
 Rd H a (.tup xs) ∨
  (∃ (o : Obj) (its : Array Value) (n : Nat), K.lookup a = some o ∧ o.cls = .type "tuple" ∧ o.data = .seq its n ∧ its.size ≤ sizeLine ∧ Vals xs its.toList) ∨ H a = some (.par xs)
def absV : Value → Option V
 | .none => some .non
 | .bool b => some (.bl b)
 | .int i _ => some (.int i)
 | .str x _ => some (.str x)
 | .bytes b _ => some (.byt b)
 | .float b _ => some (.flt b)
 | .ref a => some (.ref a)
 | .type n => some (.ty n)
 | _ => none
theorem RelV.abs {x : V} {u : Value} (r : RelV x u) : absV u = some x := by
 cases x with
 | non => cases r; rfl
 | bl _ => cases r; rfl
 | int _ => obtain ⟨t, rfl⟩ := r; rfl
 | str _ => obtain ⟨t, rfl⟩ := r; rfl
 | byt _ => obtain ⟨t, rfl⟩ := r; rfl
 | flt _ => obtain ⟨t, rfl⟩ := r; rfl
 | ref _ => cases r; rfl
 | ty _ => cases r; rfl
theorem RelV.inj {x y : V} {u : Value} (r : RelV x u) (q : RelV y u) : x = y := Option.some.inj (r.abs.symm.trans q.abs)
theorem Vals.inj : ∀ {xs ys : List V} {us : List Value}, Vals xs us → Vals ys us → xs = ys
 | _, _, _, .nil, .nil => rfl
 | _, _, _, .cons r t, .cons r' t' => by rw [r.inj r', Vals.inj t t']
section
variable {X : Cx} {pins : List (Addr × Obj)} {σ : St} {H : Hp} {s : Shared} {a : Addr} {xs ys : List V}
theorem SqL.of {K : PySem.W.Frag} (h : H a = some (.lst xs)) : SqL K H a xs := .inl (.inl h)
theorem SqT.of {K : PySem.W.Frag} (h : H a = some (.tup xs)) : SqT K H a xs := .inl (.inl h)
theorem SqT.ofP {K : PySem.W.Frag} (h : H a = some (.par xs)) : SqT K H a xs := .inr (.inr h)
theorem Inv.list (I : Inv X pins σ H s) (h : SqL X.K H a xs) : ∃ its : List Value, Vals xs its ∧ PlainL s.heap a its.toArray ∧ xs.length ≤ sizeLine := by
 rcases h with h | ⟨o, its, n, hk, hc, hd, hs, hz, r⟩
 ·obtain ⟨z, its, n, r, e⟩ := h.ok I.hok
  exact ⟨its, r, ⟨_, n, e, rfl, rfl, rfl⟩, z⟩
 ·refine ⟨its.toList, r, ⟨o, n, I.kIn a o hk, hc, hd, by simpa using hs⟩, ?_⟩
  have e := r.length
  simp only [Array.length_toList] at e
  omega
theorem Inv.tuple (I : Inv X pins σ H s) (h : SqT X.K H a xs) : ∃ its : List Value, Vals xs its ∧ IsTup s.heap a its.toArray ∧ xs.length ≤ sizeLine := by
 rcases h with h | ⟨o, its, n, hk, hc, hs, hz, r⟩ | h
 ·obtain ⟨z, its, r, p, _⟩ := h.ok I.hok
  exact ⟨its, r, p, z⟩
 rotate_left
 ·obtain ⟨z, its, r, p⟩ := (show ObjOk X.prog X.w H s.heap a (.par xs) from I.hok a _ h)
  exact ⟨its, r, p, z⟩
 ·refine ⟨its.toList, r, ⟨o, I.kIn a o hk, hc, n, by simpa using hs⟩, ?_⟩
  have e := r.length
  simp only [Array.length_toList] at e
  omega
theorem Inv.list_inj (I : Inv X pins σ H s) (h : SqL X.K H a xs) (h' : SqL X.K H a ys) : xs = ys := by
 obtain ⟨its, r, ⟨o, n, e, _, _, d⟩, _⟩ := I.list h
 obtain ⟨its', r', ⟨o', n', e', _, _, d'⟩, _⟩ := I.list h'
 rw [e] at e'; cases e'
 rw [d] at d'
 injection d' with d1 _
 have : its = its' := by simpa using congrArg Array.toList d1
 subst this
 exact r.inj r'
theorem Inv.tuple_inj (I : Inv X pins σ H s) (h : SqT X.K H a xs) (h' : SqT X.K H a ys) : xs = ys := by
 obtain ⟨its, r, ⟨o, e, _, n, d⟩, _⟩ := I.tuple h
 obtain ⟨its', r', ⟨o', e', _, n', d'⟩, _⟩ := I.tuple h'
 rw [e] at e'; cases e'
 rw [d] at d'
 injection d' with d1 _
 have : its = its' := by simpa using congrArg Array.toList d1
 subst this
 exact r.inj r'
end
abbrev Cx.wish (X : Cx) (E : Value → Shared → Prop) : Cx := { X with xe := E }
abbrev Cx.nox (X : Cx) : Cx := X.wish fun _ _ => False
theorem Cx.Ok.wish {X : Cx} (ok : X.Ok) (E : Value → Shared → Prop) : (X.wish E).Ok :=
 ⟨ok.mod, ok.kind, ok.glob, ok.blt, ok.above, ok.inj, ok.has, ok.cab, ok.hd, ok.frames, ok.stk, ok.exf, ok.bs, ok.bsz, ok.noex, ok.exfs, ok.funs, ok.frf⟩
theorem Cx.Ok.unwish {X : Cx} {E : Value → Shared → Prop} (ok : (X.wish E).Ok) : X.Ok :=
 ⟨ok.mod, ok.kind, ok.glob, ok.blt, ok.above, ok.inj, ok.has, ok.cab, ok.hd, ok.frames, ok.stk, ok.exf, ok.bs, ok.bsz, ok.noex, ok.exfs, ok.funs, ok.frf⟩
section
variable {X : Cx} {pins : List (Addr × Obj)} {σ : St} {H : Hp} {s : Shared} {E : Value → Shared → Prop}
theorem Inv.wish (I : Inv X pins σ H s) (E : Value → Shared → Prop) : Inv (X.wish E) pins σ H s := ⟨I.ok.wish E, I.os, I.bare, I.base, I.loc, I.cell, I.free, I.freeC, I.pin, I.hok, I.len⟩
theorem Inv.unwish (I : Inv (X.wish E) pins σ H s) : Inv X pins σ H s := ⟨I.ok.unwish, I.os, I.bare, I.base, I.loc, I.cell, I.free, I.freeC, I.pin, I.hok, I.len⟩
theorem SP.unwish {D : Ends} {f : Flow} {s' : Shared} (h : SP (X.wish E) pins D f s') : SP X pins D f s' := by
 cases f with
 | next => obtain ⟨σ', H', I, q⟩ := h; exact ⟨σ', H', I.unwish, q⟩
 | brk => obtain ⟨σ', H', I, q⟩ := h; exact ⟨σ', H', I.unwish, q⟩
 | cont => obtain ⟨σ', H', I, q⟩ := h; exact ⟨σ', H', I.unwish, q⟩
 | ret u => obtain ⟨v, σ', H', I, r, q⟩ := h; exact ⟨v, σ', H', I.unwish, r, q⟩
theorem PSs.nox {st : List Stmt} {t : TS} (h : PSs X.nox st t) : PSs X st t := fun pins s σ H D I hw =>
 wpAny_mono (h pins s σ H D (I.wish _) hw) (fun _ _ q => q.unwish) fun _ _ z => False.elim z
end
section
variable {X : Cx} {st : Stmt} {rest : List Stmt} {t u : TS} {e : Expr} {te : TE} {pos : Pos}
def tNext : TS := fun D σ H => D.nx σ H
def tSeq (t u : TS) : TS := fun D σ H => t { D with nx := u D } σ H
theorem Zy : PSs X [] tNext := fun _ _ σ H _ I h => wpAny_execs_nil ⟨σ, H, I, h⟩
theorem Zg (h1 : PS X st t) (h2 : PSs X rest u) : PSs X (st :: rest) (tSeq t u) := by
 intro pins s σ H D I h
 refine wpAny_execs_cons (thn (h1 pins s σ H { D with nx := u D } I h) fun f s1 q => ?_)
 cases f with
 | next =>
  obtain ⟨σ', H', I', q⟩ := q
  exact h2 pins s1 σ' H' D I' q
 | ret v => exact q
 | brk => exact q
 | cont => exact q
theorem Zn (h1 : PS X st t) : PSs X [st] t := by
 intro pins s σ H D I h
 refine wpAny_execs_cons (thn (h1 pins s σ H D I h) fun f s1 q => ?_)
 cases f with
 | next => exact wpAny_execs_nil q
 | ret v => exact q
 | brk => exact q
 | cont => exact q
theorem Inv.quiet {pins : List (Addr × Obj)} {σ : St} {H : Hp} {s : Shared} (I : Inv X pins σ H s) : interactive X.env = false := by simp [interactive, I.ok.kind]
def tDrop (te : TE) : TS := fun D σ H => te σ H fun _ H1 => D.nx σ H1
theorem Ye (he : PE X e te) (hs : swapsWith e none pos.line X.env = pure false := by rfl) : PS X (.Expr e pos) (tDrop te) := by
 intro pins s σ H D I h
 exact wpAny_Expr_any (thn (he pins s σ H _ I h) fun v s1 ⟨x, H1, I1, r1, q1⟩ => ⟨σ, H1, I1, q1⟩) I.quiet hs
def tRet (te : TE) : TS := fun D σ H => te σ H D.rt
theorem ZF (he : PE X e te) : PS X (.Return (some e) pos) (tRet te) := by
 intro pins s σ H D I h
 exact wpAny_Return_some (thn (he pins s σ H _ I h) fun v s1 ⟨x, H1, I1, r1, q1⟩ => ⟨x, σ, H1, I1, r1, q1⟩)
def tIfS (c : TT) (t u : TS) : TS := fun D σ H => c σ H fun b H1 => if b = true then t D σ H1 else u D σ H1
theorem ZM {c : Expr} {a b : List Stmt} {tc : TT} (hc : PT X c tc) (ha : PSs X a t) (hb : PSs X b u) : PS X (.If c a b pos) (tIfS tc t u) := by
 intro pins s σ H D I h
 refine wpAny_If (thn (hc pins s σ H _ I h) fun d s1 ⟨H1, I1, q1⟩ => ?_)
 cases d with
 | true => exact ha pins s1 σ H1 D I1 q1
 | false => exact hb pins s1 σ H1 D I1 q1
def tNever : TS := fun _ _ _ => False
theorem Zt {sts : List Stmt} : PSs X sts tNever := fun _ _ _ _ _ _ h => h.elim
end
abbrev TG := V → St → Hp → (St → Hp → Prop) → Prop
abbrev TGs := List V → St → Hp → (St → Hp → Prop) → Prop
def PG (X : Cx) (target : Expr) (t : TG) : Prop :=
 ∀ (pins : List (Addr × Obj)) (s : Shared) (σ : St) (H : Hp) (v : V) (u : Value) (Q : St → Hp → Prop), Inv X pins σ H s → RelV v u → t v σ H Q →
  wpAny (model X.prog X.w) X.A (assign target X.env u) (fun _ s' => ∃ σ' H', Inv X pins σ' H' s' ∧ Q σ' H') X.xe s
def PGs (X : Cx) (ts : List Expr) (t : TGs) : Prop :=
 ∀ (pins : List (Addr × Obj)) (s : Shared) (σ : St) (H : Hp) (vs : List V) (us : List Value) (Q : St → Hp → Prop), Inv X pins σ H s → Vals vs us → t vs σ H Q →
  wpAny (model X.prog X.w) X.A (assignInOrder ((assignEach ts X.env).map (·.2)) us) (fun _ s' => ∃ σ' H', Inv X pins σ' H' s' ∧ Q σ' H') X.xe s
abbrev TSet := V → V → V → Hp → (Hp → Prop) → Prop
def PSet (X : Cx) (t : TSet) : Prop :=
 ∀ (pins : List (Addr × Obj)) (s : Shared) (σ : St) (H : Hp) (o i v : V) (ov iv u : Value) (Q : Hp → Prop), Inv X pins σ H s → RelV o ov → RelV i iv → RelV v u → t o i v H Q →
  wpAny (model X.prog X.w) X.A (setItem ov iv u) (fun _ s' => ∃ H', Inv X pins σ H' s' ∧ Q H') X.xe s
section
variable {X : Cx} {pos : Pos}
def gName (i : Nat) : TG := fun v σ H Q => Q (σ.set i (some v)) H
theorem ZV {i : Nat} {x : Str} (hN : X.N.Nodup) (hi : X.N[i]? = some x) (hx : Loc X.env.scope x) (hf : X.fn x = true ∨ X.env.scope.names.lookup x = some .local := by first | exact .inl rfl | exact .inr rfl | assumption) : PG X (.Name x pos) (gName i) := by
 intro pins s σ H v u Q I r h
 exact wpAny_assign_Name (Yo I hN hi hx r (fun s' I' => ⟨_, H, I', h⟩) hf)
def gNil : TGs := fun vs σ H Q => vs = [] ∧ Q σ H
def gCons (t : TG) (u : TGs) : TGs := fun vs σ H Q => ∃ v r, vs = v :: r ∧ t v σ H fun σ' H' => u r σ' H' Q
theorem Yi : PGs X [] gNil := by
 intro pins s σ H vs us Q I r h
 obtain ⟨e, h⟩ := h
 subst e
 cases r
 exact assignInOrder_nil ⟨σ, H, I, h⟩
theorem ZG {e : Expr} {es : List Expr} {t : TG} {u : TGs} (h1 : PG X e t) (h2 : PGs X es u)
  (hs : (assignEach (e :: es) X.env).map (·.2) = assign e X.env :: (assignEach es X.env).map (·.2) := by rfl) : PGs X (e :: es) (gCons t u) := by
 intro pins s σ H vs us Q I r h
 obtain ⟨v, vr, e1, h⟩ := h
 subst e1
 cases r with
 | cons r rr =>
  rw [hs]
  refine assignInOrder_cons (thn (h1 pins s σ H _ _ _ I r h) fun _ s1 ⟨σ1, H1, I1, q1⟩ => ?_)
  exact h2 pins s1 σ1 H1 _ _ Q I1 rr q1
def gTup (K : PySem.W.Frag) (n : Nat) (t : TGs) : TG := fun v σ H Q => ∃ a xs, v = .ref a ∧ SqT K H a xs ∧ xs.length = n ∧ t xs σ H Q
theorem YD {es : List Expr} {k : Nat} {t : TGs} {n : Nat} (hc : X.calm = true) (h : PGs X es t)
  (hn : (assignEach es X.env).length = n := by rfl) (hst : (assignEach es X.env).findIdx? (·.1) = none := by rfl) : PG X (.Tuple es k pos) (gTup X.K n t) := by
 intro pins s σ H v u Q I r hw
 obtain ⟨a, xs, e1, hq, hl, hw⟩ := hw
 subst e1
 cases r
 obtain ⟨its, rv, ht, hz⟩ := I.tuple hq
 refine assign_Tuple_tuple (I.ok.hd hc) ht (by simp [hn, ← hl, rv.length]) hst fun h' hx => ?_
 have I1 : Inv X pins σ H { s with heap := h' } := I.kept (t' := s.toks) fun b o e => hx b o (Nat.ne_of_lt (Heap.lt_size e)) e
 exact h pins _ σ H xs _ Q I1 (by simpa using rv) hw
def gSub (to ti : TE) (t : TSet) : TG := fun v σ H Q => to σ H fun o H1 => ti σ H1 fun i H2 => t o i v H2 fun H3 => Q σ H3
theorem JO {o i : Expr} {to ti : TE} {t : TSet} (ho : PE X o to) (hi : PE X i ti) (hs : PSet X t)
    (ha : ∀ v, assign (.Subscript o i pos) X.env v = (do
      let ov ← holding [v] (eval o X.env)
      let iv ← holding [v, ov] (eval i X.env)
      standAt pos
      holding [v, ov, iv] (setItem ov iv v)
      release [v, ov, iv] []) := by intro _; rfl) : PG X (.Subscript o i pos) (gSub to ti t) := by
  intro pins s σ H v u Q I r h
  rw [ha]
  refine wpAny_bind (wpAny_holding (thn (ho pins s σ H _ I h) fun ov s1 ⟨x, H1, I1, r1, q1⟩ => ?_))
  refine wpAny_bind (wpAny_holding (thn (hi pins s1 σ H1 _ I1 q1) fun iv s2 ⟨y, H2, I2, r2, q2⟩ => ?_))
  refine wpAny_bind (wpAny_standAt (wpAny_bind (wpAny_holding (thn (hs pins s2 σ H2 x y v ov iv u _ I2 r1 r2 r q2) fun _ s3 ⟨H3, I3, q3⟩ => ?_))))
  exact wpAny_release ⟨σ, H3, I3, q3⟩
def tAsg (te : TE) (g : TG) : TS := fun D σ H => te σ H fun x H1 => g x σ H1 D.nx
theorem Y2 {tg e : Expr} {te : TE} {g : TG} (he : PE X e te) (hg : PG X tg g) (hs : swapsWithSole [tg] e pos.line X.env = pure false := by rfl) (hw : swappedStores [tg] e X.env = pure none := by rfl)
  (h1 : (assignEach [tg] X.env).map (·.2) = [assign tg X.env] := by rfl) : PS X (.Assign [tg] e pos) (tAsg te g) := by
 intro pins s σ H D I h
 refine wpAny_Assign_stores (thn (he pins s σ H _ I h) fun v s1 ⟨x, H1, I1, r1, q1⟩ => ?_) hs hw
 rw [h1]
 exact thn (hg pins s1 σ H1 x v _ I1 r1 q1) fun _ s2 q => q
theorem Zz {i : Nat} {x : Str} {e : Expr} {te : TE} {pos' : Pos} (hN : X.N.Nodup) (hi : X.N[i]? = some x) (hx : Loc X.env.scope x) (he : PE X e te) (hs : swapsWith e (some (.Name x pos')) pos.line X.env = pure false := by rfl) (hf : X.fn x = true ∨ X.env.scope.names.lookup x = some .local := by first | exact .inl rfl | exact .inr rfl | assumption) :
  PS X (.Assign [.Name x pos'] e pos) (tAsg te (gName i)) := by
 intro pins s σ H D I h
 refine wpAny_Assign_Name (thn (he pins s σ H _ I h) fun v s1 ⟨y, H1, I1, r1, q1⟩ => ?_) hs
 exact Yo I1 hN hi hx r1 (fun s2 I2 => ⟨_, H1, I2, q1⟩) hf
def tPar (i j : Nat) (ta : TA) : TS := fun D σ H => ta σ H fun vs H1 => ∃ v w, vs = [v, w] ∧ D.nx ((σ.set i (some v)).set j (some w)) H1
theorem Zad {i j : Nat} {x y : Str} {a b : Expr} {ta : TA} {px py pt : Pos} {kt k2 pt2} (hc : X.calm = true) (hN : X.N.Nodup) (hi : X.N[i]? = some x) (hj : X.N[j]? = some y) (hij : i ≠ j)
  (hx : X.env.scope.names.lookup x = some .local) (hy : X.env.scope.names.lookup y = some .local) (ha : PA X [a, b] ta)
  (hw : swappedStores [.Tuple [.Name x px, .Name y py] kt pt] (.Tuple [a, b] k2 pt2) X.env = pure (some [x, y]))
  (hs : swapsWithSole [.Tuple [.Name x px, .Name y py] kt pt] (.Tuple [a, b] k2 pt2) pos.line X.env = pure false := by rfl) :
  PS X (.Assign [.Tuple [.Name x px, .Name y py] kt pt] (.Tuple [a, b] k2 pt2) pos) (tPar i j ta) := by
 intro pins s σ H D I h
 rw [exec_Assign_arm]
 refine wpAny_bind (wpAny_standAt ?_)
 rw [hs]
 refine wpAny_bind (wpAny_pure ?_)
 rw [if_neg (by decide)]
 refine wpAny_bind (Tuple_ (thn (ha _ pins s σ H _ I h) fun us s1 ⟨vs, H1, I1, r1, q1⟩ => ?_))
 obtain ⟨v, w, e1, q1⟩ := q1
 subst e1
 obtain ⟨u1, u2, rfl, rv, rw'⟩ : ∃ u1 u2, us = [u1, u2] ∧ RelV v u1 ∧ RelV w u2 := by
  cases r1 with
  | cons p q =>
   cases q with
   | cons p' q' =>
    cases q'
    exact ⟨_, _, rfl, p, p'⟩
 refine wpAny_newObj_type ?_ (by show 2 ≤ sizeLine; decide)
 have I2 : Inv X pins σ H1 { s1 with heap := s1.heap.push { cls := .type "tuple", data := .seq [u1, u2].toArray } } := I1.kept (t' := s1.toks) fun b o e => Heap.get?_push_of_some _ e
 rw [hw]
 refine wpAny_bind (wpAny_pure ?_)
 show wpAny (model X.prog X.w) X.A (do rule "assign.swapped-stores"; let items ← unpackItems (.ref s1.heap.objs.size) 2 none; assignInOrder [fun v => bindName X.env y v, fun v => bindName X.env x v] items.reverse; pure Flow.next) _ _ _
 refine wpAny_bind (wpAny_rule (wpAny_bind (unpackItems_tuple (items := #[u1, u2]) (I.ok.hd hc) (IsTup.new s1.heap _) fun h' hx' => ?_)))
 have I3 := I2.kept (h' := h') (t' := s1.toks) fun b o e => hx' b o (Nat.ne_of_lt (Heap.lt_size e)) e
 show wpAny _ _ (assignInOrder [fun v => bindName X.env y v, fun v => bindName X.env x v] [u2, u1] >>= fun _ => pure Flow.next) _ _ _
 refine wpAny_bind (assignInOrder_cons (wpAny_bindName (Yo I3 hN hj (.inl hy) rw' (fun s2 I4 => ?_) (.inr hy))))
 refine assignInOrder_cons (wpAny_bindName (Yo I4 hN hi (.inl hx) rv (fun s3 I5 => assignInOrder_nil (wpAny_pure ?_)) (.inr hx)))
 rw [List.set_comm _ _ (Ne.symm hij)] at I5
 exact ⟨_, H1, I5, q1⟩
end
structure It where
 go : Nat → Hp → Prop
 yld : Nat → Hp → V → Hp → Prop
 stop : Nat → Hp → Prop
def FpOk (X : Cx) (pins : List (Addr × Obj)) (H : Hp) (b : Addr) : Prop :=
 H b = none ∧ b ≠ X.env.locals ∧ b ∉ X.fs ∧ (b ∈ X.ex ∨ X.s₀.heap.objs.size ≤ b) ∧ (∀ x c, X.env.cells.lookup x = some c → c ≠ b) ∧ ∀ p ∈ X.pn ++ pins, p.1 ≠ b
theorem Inv.fpOk {X : Cx} {pins : List (Addr × Obj)} {σ : St} {H H' : Hp} {s : Shared} {b : Addr} (I : Inv X pins σ H s) (hb : s.heap.objs.size ≤ b) (hn : H' b = none) : FpOk X pins H' b := by
 refine ⟨hn, Nat.ne_of_gt (Nat.lt_of_lt_of_le I.lt hb), I.nofs hb, .inr (Nat.le_trans I.sz hb), fun x c e z => ?_, fun p hp z => ?_⟩
 ·obtain ⟨v, q⟩ := I.cell x c e
  exact absurd (Nat.lt_of_lt_of_le q.lt (by rw [z]; exact hb)) (Nat.lt_irrefl _)
 ·exact absurd (Nat.lt_of_lt_of_le (Heap.lt_size (I.pin p hp).1) (by rw [z]; exact hb)) (Nat.lt_irrefl _)
structure Turn (P : Program) (w : World) (K : PySem.W.Frag) (tg : Expr) (J : It) (fp : List Addr) (it : Addr) (tn : Nat → Heap → Prop) : Prop where
 mem : it ∈ fp
 obj : ∀ i h, tn i h → ∀ b ∈ fp, ∃ o, h.get? b = some o ∧ ∀ v, o.data ≠ .cell v
 keep : ∀ i h h', tn i h → (∀ b ∈ fp, ∀ o, h.get? b = some o → h'.get? b = some o) → tn i h'
 item : ∀ (X : Cx), X.prog = P → X.w = w → X.K = K → X.calm = true → ∀ (i : Nat) (pins : List (Addr × Obj)) (s : Shared) (σ : St) (H : Hp) (E : Value → Shared → Prop), Inv X pins σ H s → (∀ b ∈ fp, FpOk X pins H b) → tn i s.heap → J.go i H →
  wpAny (model P w) X.A (pyNext (.ref it)) (fun r s1 => ∃ u, r = some u ∧
   wpAny (model P w) X.A (letOwnedTupleGo tg (.ref it) u) (fun _ s2 => ∃ x H', Inv X pins σ H' s2 ∧ RelV x u ∧ J.yld i H x H' ∧ tn (i + 1) s2.heap ∧ ∀ b ∈ fp, H' b = none) E s1) E s
 done : ∀ (X : Cx), X.prog = P → X.w = w → X.K = K → X.calm = true → ∀ (i : Nat) (pins : List (Addr × Obj)) (s : Shared) (σ : St) (H : Hp) (E : Value → Shared → Prop), Inv X pins σ H s → (∀ b ∈ fp, FpOk X pins H b) → tn i s.heap → J.stop i H →
  wpAny (model P w) X.A (pyNext (.ref it)) (fun r s1 => r = none ∧ Inv X pins σ H s1) E s
 self : ∀ (A : Around) (i : Nat) (s : Shared) (Q : Value → Shared → Prop) (E : Value → Shared → Prop), tn i s.heap → Q (.ref it) s → wpAny (model P w) A (pyIter (.ref it)) Q E s
abbrev TI := St → Hp → (It → Hp → Prop) → Prop
def PIE (X : Cx) (pins : List (Addr × Obj)) (σ : St) (tg : Expr) (R : It → Hp → Prop) (itv : Value) (s2 : Shared) : Prop :=
 ∃ (it : Addr) (fp : List Addr) (tn : Nat → Heap → Prop) (J : It) (H' : Hp), itv = .ref it ∧ Inv X pins σ H' s2 ∧ Turn X.prog X.w X.K tg J fp it tn ∧ tn 0 s2.heap ∧ (∀ b ∈ fp, FpOk X pins H' b) ∧ R J H'
def PI (X : Cx) (tg iter : Expr) (wi : TI) : Prop :=
 ∀ (pins : List (Addr × Obj)) (s : Shared) (σ : St) (H : Hp) (R : It → Hp → Prop), Inv X pins σ H s → wi σ H R →
  wpAny (model X.prog X.w) X.A (eval iter X.env) (fun v s1 => wpAny (model X.prog X.w) X.A (pyIter v) (PIE X pins σ tg R) X.xe s1) X.xe s
theorem ZcC {M : Model} {A : Around} {E : Value → Shared → Prop} {s : Shared} {tg : Expr} {it : Addr} {u : Value} {o : Obj} {n : String} {vs : Array Value} {Q : Unit → Shared → Prop} (ho : s.heap.get? it = some o) (hc : o.cls = .type n) (hd : o.data = .fields vs)
    (hn : ["enumerate", "zip", "dict_itemiterator", "dict_reverseitemiterator", "odict_iterator", "itertools.zip_longest", "itertools.pairwise"].contains n = false) (hQ : Q () s) : wpAny M A (letOwnedTupleGo tg (.ref it) u) Q E s := by
  unfold letOwnedTupleGo
  cases tg <;> first
    | exact wpAny_pure hQ
    | (cases u <;> first
        | exact wpAny_pure hQ
        | (refine wpAny_bind (wpAny_load ho ?_)
           rw [hc, hd]
           show wpAny M A (if (["enumerate", "zip", "dict_itemiterator", "dict_reverseitemiterator", "odict_iterator", "itertools.zip_longest", "itertools.pairwise"].contains n && vs[0]? == some (rawInt _)) = true then _ else _) Q E s
           rw [if_neg (by intro h; rw [hn, Bool.false_and] at h; cases h)]
           exact wpAny_pure hQ))
def Itl (K : PySem.W.Frag) (a : Addr) : It :=
 ⟨fun i H => ∃ xs x, SqL K H a xs ∧ xs[i]? = some x, fun i H x H' => H' = H ∧ ∀ xs, SqL K H a xs → xs[i]? = some x, fun i H => ∃ xs, SqL K H a xs ∧ xs.length ≤ i⟩
def Itt (K : PySem.W.Frag) (a : Addr) : It :=
 ⟨fun i H => ∃ xs x, SqT K H a xs ∧ xs[i]? = some x, fun i H x H' => H' = H ∧ ∀ xs, SqT K H a xs → xs[i]? = some x, fun i H => ∃ xs, SqT K H a xs ∧ xs.length ≤ i⟩
def Itr (lo : Int) (n : Nat) : It := ⟨fun i _ => i < n, fun i H x H' => H' = H ∧ x = .int (lo + i), fun i _ => n ≤ i⟩
theorem Zbc {P : Program} {w : World} {K : PySem.W.Frag} {tg : Expr} (a it : Addr) : Turn P w K tg (Itl K a) [it] it (fun i h => h.IsListIter it a i) where
 mem := by simp
 obj := fun i h st b hb => by
  have e : b = it := by simpa using hb
  subst e
  obtain ⟨o, e, c, d⟩ := st
  exact ⟨o, e, fun v z => by rw [d] at z; cases z⟩
 keep := fun i h h' st k => st.at fun o e => k it (by simp) o e
 item := by
  intro X hP hw hK hc i pins s σ H E I hf st hg
  subst hP hw hK
  obtain ⟨xs, x, hq, hx⟩ := hg
  obtain ⟨its, rv, p, hz⟩ := I.list hq
  obtain ⟨u, hu, ru⟩ := rv.get hx
  obtain ⟨f0, f1, f2, f3, f4, f5⟩ := hf it (by simp)
  refine wpAny_pyNext_list_item st p.isList (x := u) (by simpa using hu) fun h' st' sb => ?_
  have I1 : Inv X pins σ H { s with heap := h' } := I.turned (t' := s.toks) (fun b o hb e => (sb.2 b hb).trans e) f0 f1 f3 f4 f5
  obtain ⟨o, e, c, d⟩ := id st'
  exact ⟨u, rfl, ZcC (s := { s with heap := h' }) e c d (by decide) ⟨x, H, I1, ru, ⟨rfl, fun ys hy => by rw [I.list_inj hy hq]; exact hx⟩, st', fun b hb => (hf b hb).1⟩⟩
 done := by
  intro X hP hw hK hc i pins s σ H E I hf st hg
  subst hP hw hK
  obtain ⟨xs, hq, hx⟩ := hg
  obtain ⟨its, rv, p, hz⟩ := I.list hq
  obtain ⟨f0, f1, f2, f3, f4, f5⟩ := hf it (by simp)
  have hl := rv.length
  exact wpAny_pyNext_list_end (I.ok.hd hc) st p.isList (by simp; omega) fun h' eb => ⟨rfl, I.turned (t' := s.toks) (fun b o hb e => eb b o hb e) f0 f1 f3 f4 f5⟩
 self := fun _ _ _ _ _ st h => wpAny_pyIter_listiter st h
theorem U7 {P : Program} {w : World} {K : PySem.W.Frag} {tg : Expr} (a it : Addr) : Turn P w K tg (Itt K a) [it] it (fun i h => h.IsTupleIter it a i) where
 mem := by simp
 obj := fun i h st b hb => by
  have e : b = it := by simpa using hb
  subst e
  obtain ⟨o, e, c, d⟩ := st
  exact ⟨o, e, fun v z => by rw [d] at z; cases z⟩
 keep := fun i h h' st k => st.at fun o e => k it (by simp) o e
 item := by
  intro X hP hw hK hc i pins s σ H E I hf st hg
  subst hP hw hK
  obtain ⟨xs, x, hq, hx⟩ := hg
  obtain ⟨its, rv, p, hz⟩ := I.tuple hq
  obtain ⟨u, hu, ru⟩ := rv.get hx
  obtain ⟨f0, f1, f2, f3, f4, f5⟩ := hf it (by simp)
  refine wpAny_pyNext_tuple_item st (show s.heap.IsTuple a its.toArray from p) (x := u) (by simpa using hu) fun h' st' sb => ?_
  have I1 : Inv X pins σ H { s with heap := h' } := I.turned (t' := s.toks) (fun b o hb e => (sb.2 b hb).trans e) f0 f1 f3 f4 f5
  obtain ⟨o, e, c, d⟩ := id st'
  exact ⟨u, rfl, ZcC (s := { s with heap := h' }) e c d (by decide) ⟨x, H, I1, ru, ⟨rfl, fun ys hy => by rw [I.tuple_inj hy hq]; exact hx⟩, st', fun b hb => (hf b hb).1⟩⟩
 done := by
  intro X hP hw hK hc i pins s σ H E I hf st hg
  subst hP hw hK
  obtain ⟨xs, hq, hx⟩ := hg
  obtain ⟨its, rv, p, hz⟩ := I.tuple hq
  obtain ⟨f0, f1, f2, f3, f4, f5⟩ := hf it (by simp)
  have hl := rv.length
  exact wpAny_pyNext_tuple_end (I.ok.hd hc) st (show s.heap.IsTuple a its.toArray from p) (by simp; omega) fun h' eb => ⟨rfl, I.turned (t' := s.toks) (fun b o hb e => eb b o hb e) f0 f1 f3 f4 f5⟩
 self := fun _ _ _ _ _ st h => wpAny_pyIter_tupleiter st h
theorem U8 {P : Program} {w : World} {K : PySem.W.Frag} {tg : Expr} (it : Addr) (lo : Int) (n : Nat) : Turn P w K tg (Itr lo n) [it] it (fun i h => IsRangeIter h it (lo + (i : Nat) * 1) ((n : Int) - (i : Nat)) 1) where
 mem := by simp
 obj := fun i h st b hb => by
  have e : b = it := by simpa using hb
  subst e
  exact ⟨_, st, fun v z => by
   have z' : Data.fields _ = Data.cell v := z
   cases z'⟩
 keep := fun i h h' st k => k it (by simp) _ st
 item := by
  intro X hP hw hK hc i pins s σ H E I hf st hg
  subst hP hw hK
  obtain ⟨f0, f1, f2, f3, f4, f5⟩ := hf it (by simp)
  have W := Walks.range (prog := X.prog) (w := X.w) (I.ok.hd hc) it lo 1 n
  refine W.item i s _ _ hg st fun v h' tk hv st' kk => ?_
  obtain ⟨t, rfl⟩ := hv
  have I1 : Inv X pins σ H { s with heap := h', toks := tk } := I.turned (fun b o hb e => kk b o (by simpa using hb) e) f0 f1 f3 f4 f5
  refine ⟨_, rfl, ZcC (s := { s with heap := h', toks := tk }) (n := "range_iterator") st' rfl rfl (by decide) ⟨.int (lo + i), H, I1, ⟨t, ?_⟩, ⟨rfl, rfl⟩, st', fun b hb => (hf b hb).1⟩⟩
  rw [Int.mul_one]
 done := by
  intro X hP hw hK hc i pins s σ H E I hf st hg
  subst hP hw hK
  obtain ⟨f0, f1, f2, f3, f4, f5⟩ := hf it (by simp)
  exact wpAny_pyNext_range_end (I.ok.hd hc) st (by have : n ≤ i := hg; omega) fun h' eb => ⟨rfl, I.turned (t' := s.toks) (fun b o hb e => eb b o hb e) f0 f1 f3 f4 f5⟩
 self := fun _ _ _ _ _ st h => wpAny_pyIter_rangeiter st h
end L2
namespace L2
open PySem PySem.Spec PyProof.Rows
section
variable {X : Cx} {tg : Expr}
def iList (K : PySem.W.Frag) (tl : TE) : TI := fun σ H R => tl σ H fun x H1 => ∃ a, x = .ref a ∧ (∃ xs, SqL K H1 a xs) ∧ R (Itl K a) H1
def iTup (K : PySem.W.Frag) (tl : TE) : TI := fun σ H R => tl σ H fun x H1 => ∃ a, x = .ref a ∧ (∃ xs, SqT K H1 a xs) ∧ R (Itt K a) H1
theorem ZaG {l : Expr} {tl : TE} (hl : PE X l tl) : PI X tg l (iList X.K tl) := by
 intro pins s σ H R I h
 refine thn (hl pins s σ H _ I h) fun v s1 ⟨x, H1, I1, r1, q1⟩ => ?_
 obtain ⟨a, e, ⟨xs, hq⟩, q⟩ := q1
 subst e
 cases r1
 obtain ⟨its, rv, p, hz⟩ := I1.list hq
 refine wpAny_pyIter_list p.isList ?_
 refine ⟨s1.heap.objs.size, [s1.heap.objs.size], _, _, H1, rfl, I1.kept (t' := s1.toks) fun b o e => Heap.get?_push_of_some _ e, Zbc a _, ⟨_, Heap.get?_push_size _ rfl, rfl, rfl⟩, fun b hb => ?_, q⟩
 have e : b = s1.heap.objs.size := by simpa using hb
 subst e
 exact I1.fpOk (Nat.le_refl _) (I1.hok.fresh (Nat.le_refl _))
theorem Zb7 {l : Expr} {tl : TE} (hl : PE X l tl) : PI X tg l (iTup X.K tl) := by
 intro pins s σ H R I h
 refine thn (hl pins s σ H _ I h) fun v s1 ⟨x, H1, I1, r1, q1⟩ => ?_
 obtain ⟨a, e, ⟨xs, hq⟩, q⟩ := q1
 subst e
 cases r1
 obtain ⟨its, rv, p, hz⟩ := I1.tuple hq
 refine wpAny_pyIter_tuple (show s1.heap.IsTuple a its.toArray from p) ?_
 refine ⟨s1.heap.objs.size, [s1.heap.objs.size], _, _, H1, rfl, I1.kept (t' := s1.toks) fun b o e => Heap.get?_push_of_some _ e, U7 a _, ⟨_, Heap.get?_push_size _ rfl, rfl, rfl⟩, fun b hb => ?_, q⟩
 have e : b = s1.heap.objs.size := by simpa using hb
 subst e
 exact I1.fpOk (Nat.le_refl _) (I1.hok.fresh (Nat.le_refl _))
theorem Uq {pins : List (Addr × Obj)} {σ : St} {H : Hp} {s : Shared} {R : It → Hp → Prop} {E : Value → Shared → Prop} {lo hi : Int} {t u v : Tok} {tk : Nat} (I : Inv X pins σ H s) (h1 : -(2 ^ 62) ≤ lo) (h2 : lo < 2 ^ 62) (h3 : -(2 ^ 62) ≤ hi) (h4 : hi < 2 ^ 62)
  (q : R (Itr lo (hi - lo).toNat) H) : wpAny (model X.prog X.w) X.A (pyIter (.ref s.heap.objs.size)) (PIE X pins σ tg R) E { s with heap := s.heap.push { cls := .type "range", data := .fields #[.int lo t, .int hi u, .int 1 v] }, toks := tk } := by
 refine wpAny_pyIter_range (IsRange.new ..) (small_one h1 h2 h3 h4) ?_
 have I1 : Inv X pins σ H { s with heap := s.heap.push { cls := .type "range", data := .fields #[.int lo t, .int hi u, .int 1 v] }, toks := tk } := I.kept fun b o e => Heap.get?_push_of_some _ e
 refine ⟨(s.heap.push { cls := .type "range", data := .fields #[.int lo t, .int hi u, .int 1 v] }).objs.size, [(s.heap.push { cls := .type "range", data := .fields #[.int lo t, .int hi u, .int 1 v] }).objs.size], _, _, H, rfl,
  I1.kept (t' := tk) fun b o e => Heap.get?_push_of_some _ e, U8 _ lo (hi - lo).toNat, ?_, fun b hb => ?_, q⟩
 ·have e1 : lo + ((0 : Nat) : Int) * 1 = lo := by simp
  have e2 : (((hi - lo).toNat : Nat) : Int) - ((0 : Nat) : Int) = Builtin.Range.rangeSize lo hi 1 := by rw [rangeSize_one]; split <;> omega
  show IsRangeIter _ _ (lo + ((0 : Nat) : Int) * 1) ((((hi - lo).toNat : Nat) : Int) - ((0 : Nat) : Int)) 1
  rw [e1, e2]
  exact Heap.get?_push_size _ rfl
 ·have e : b = (s.heap.push { cls := .type "range", data := .fields #[.int lo t, .int hi u, .int 1 v] }).objs.size := by simpa using hb
  subst e
  exact I1.fpOk (Nat.le_refl _) (I1.hok.fresh (Nat.le_refl _))
def iRng1 (ta : TA) : TI := fun σ H R => ta σ H fun vs H1 => ∃ j : Int, vs = [.int j] ∧ -(2 ^ 62) ≤ j ∧ j < 2 ^ 62 ∧ R (Itr 0 j.toNat) H1
def iRng2 (ta : TA) : TI := fun σ H R => ta σ H fun vs H1 => ∃ i j : Int, vs = [.int i, .int j] ∧ (-(2 ^ 62) ≤ i ∧ i < 2 ^ 62 ∧ -(2 ^ 62) ≤ j ∧ j < 2 ^ 62) ∧ R (Itr i (j - i).toNat) H1
theorem Yp {a : Expr} {ta : TA} {p pos : Pos} (hg : Gl X "range") (hm : X.mg "range" = none) (ha : PA X [a] ta) (hs : starEach [a] X.env = [(false, eval a X.env)] := by rfl) : PI X tg (.Call (.Name "range" p) [a] [] pos) (iRng1 ta) := by
 intro pins s σ H R I h
 refine Call_ (Yl I hg hm boot_range (PyProof.Rows.callWith_type1 (thn (ha pos pins s σ H _ I h) fun us s1 ⟨vs, H1, I1, r1, q1⟩ => ?_) hs rfl))
 obtain ⟨j, e, q1, q2, q⟩ := q1
 subst e
 cases r1 with
 | cons r rr =>
  cases rr
  obtain ⟨t, rfl⟩ := r
  exact call_range_1 (Uq I1 (by omega) (by omega) q1 q2 (by simpa using q))
theorem Zbq {a b : Expr} {ta : TA} {p pos : Pos} (hg : Gl X "range") (hm : X.mg "range" = none) (ha : PA X [a, b] ta) (hs : starEach [a, b] X.env = [(false, eval a X.env), (false, eval b X.env)] := by rfl) (hs2 : starEach [b] X.env = [(false, eval b X.env)] := by rfl) :
  PI X tg (.Call (.Name "range" p) [a, b] [] pos) (iRng2 ta) := by
 intro pins s σ H R I h
 refine Call_ (Yl I hg hm boot_range (PyProof.Rows.callWith_type1 (thn (ha pos pins s σ H _ I h) fun us s1 ⟨vs, H1, I1, r1, q1⟩ => ?_) (by rw [hs, hs2]) (by rw [hs2]; rfl)))
 obtain ⟨i, j, e, ⟨q1, q2, q3, q4⟩, q⟩ := q1
 subst e
 cases r1 with
 | cons r rr =>
  cases rr with
  | cons r' rr =>
   cases rr
   obtain ⟨t, rfl⟩ := r
   obtain ⟨t', rfl⟩ := r'
   exact call_range_2 (Uq I1 q1 q2 q3 q4 q)
def tFor (wi : TI) (g : TG) (tb : TS) : TS := fun D σ H => wi σ H fun J H1 => ∃ W : Nat → Nat → St → Hp → Prop, (∃ m, W 0 m σ H1) ∧ ∀ i m σ H, W i m σ H →
 (J.stop i H ∧ D.nx σ H) ∨ (J.go i H ∧ ∃ N : St → Hp → Prop, (∀ σ' H', N σ' H' → ∃ m', m' < m ∧ W (i + 1) m' σ' H') ∧ ∀ x H', J.yld i H x H' → g x σ H' fun σ2 H2 => tb { D with nx := N, ct := N, bk := D.nx } σ2 H2)
def pinsAt (fp : List Addr) (h : Heap) : List (Addr × Obj) := fp.filterMap fun b => (h.get? b).map fun o => (b, o)
theorem ZN {fp : List Addr} {h : Heap} {b : Addr} {o : Obj} (hb : b ∈ fp) (e : h.get? b = some o) : (b, o) ∈ pinsAt fp h := List.mem_filterMap.mpr ⟨b, hb, by rw [e]; rfl⟩
theorem Jr {fp : List Addr} {h : Heap} {p : Addr × Obj} (hp : p ∈ pinsAt fp h) : p.1 ∈ fp ∧ h.get? p.1 = some p.2 := by
 obtain ⟨b, hb, e⟩ := List.mem_filterMap.mp hp
 cases q : h.get? b with
 | none => rw [q] at e; cases e
 | some o =>
  rw [q] at e
  have e' : (b, o) = p := Option.some.inj e
  subst e'
  exact ⟨hb, q⟩
theorem Inv.pinned {pins : List (Addr × Obj)} {σ : St} {H : Hp} {s : Shared} {fp : List Addr} (I : Inv X pins σ H s) (hf : ∀ b ∈ fp, FpOk X pins H b) (ho : ∀ b ∈ fp, ∃ o, s.heap.get? b = some o ∧ ∀ v, o.data ≠ .cell v) : Inv X (pins ++ pinsAt fp s.heap) σ H s :=
 I.pins_of fun p hp => (List.mem_append.mp hp).elim (fun z => I.pin p (List.mem_append_right _ z)) fun z => by
  obtain ⟨hb, e⟩ := Jr z
  obtain ⟨f0, f1, f2, _⟩ := hf p.1 hb
  obtain ⟨o, e', d⟩ := ho p.1 hb
  rw [e] at e'; cases e'
  exact ⟨e, f0, f1, f2, d⟩
theorem Inv.unpinned {pins pl : List (Addr × Obj)} {σ : St} {H : Hp} {s : Shared} (I : Inv X (pins ++ pl) σ H s) : Inv X pins σ H s := I.pins_of fun p hp => I.pin p (List.mem_append_right _ (List.mem_append_left _ hp))
theorem JN {iter : Expr} {body : List Stmt} {wi : TI} {g : TG} {tb : TS} {pos : Pos} (hp : PassesOwn (model X.prog X.w) X.A X.env X.xe) (hc : X.calm = true) (hi : PI X tg iter wi) (hg : PG X tg g) (hb : PSs X body tb)
  (hs : ∀ x, foldedSetIterable iter X.env x = pure x := by intro _; rfl) : PS X (.For tg iter body [] pos) (tFor wi g tb) := by
 intro pins s σ H D I h
 refine wpAny_For (thn (hi pins s σ H _ I h) fun v s1 h1 => thn h1 fun itv s2 h2 => ?_) hs
 obtain ⟨it, fp, tn, J, H2, e, I2, T, st2, f2, W, ⟨m0, w0⟩, turn⟩ := h2
 subst e
 have stat : ∀ {H' : Hp}, (∀ b ∈ fp, H' b = none) → ∀ b ∈ fp, FpOk X pins H' b := fun hn b hb => ⟨hn b hb, (f2 b hb).2⟩
 refine codeAny_forLoop_any (fun n s' => ∃ i σ' H', Inv X pins σ' H' s' ∧ tn i s'.heap ∧ (∀ b ∈ fp, H' b = none) ∧ W i n σ' H') ?_ m0 ⟨0, σ, H2, I2, st2, fun b hb => (f2 b hb).1, w0⟩
 rintro n s3 ⟨i, σ3, H3, I3, st3, fr3, w3⟩
 rcases turn i n σ3 H3 w3 with ⟨stop, qn⟩ | ⟨go, N, hN, step⟩
 ·refine wpAny_passesOwn hp (thn (T.done X rfl rfl rfl hc i pins s3 σ3 H3 X.xe I3 (stat fr3) st3 stop) fun r s4 ⟨hr, I4⟩ => ?_)
  subst hr
  exact wpAny_execs_nil ⟨σ3, H3, I4, qn⟩
 ·refine wpAny_passesOwn hp (thn (T.item X rfl rfl rfl hc i pins s3 σ3 H3 X.xe I3 (stat fr3) st3 go) fun r s4 ⟨u, hr, h4⟩ => ?_)
  subst hr
  refine wpAny_passesOwn hp (thn h4 fun _ s5 ⟨x, H5, I5, r5, y5, st5, fr5⟩ => ?_)
  have I5' := I5.pinned (stat fr5) (T.obj _ _ st5)
  refine wpAny_passesOwn hp (thn (hg _ s5 σ3 H5 x u _ I5' r5 (step x H5 y5)) fun _ s6 ⟨σ6, H6, I6, q6⟩ => ?_)
  refine wpAny_passesOwn hp (thn (hb _ s6 σ6 H6 _ I6 q6) fun f s7 q7 => ?_)
  have again : ∀ {σ7 : St} {H7 : Hp}, Inv X (pins ++ pinsAt fp s5.heap) σ7 H7 s7 → N σ7 H7 → ∃ m, m < n ∧ ∃ i σ' H', Inv X pins σ' H' s7 ∧ tn i s7.heap ∧ (∀ b ∈ fp, H' b = none) ∧ W i m σ' H' := fun {σ7 H7} I7 n7 => by
   obtain ⟨m', hm, w7⟩ := hN σ7 H7 n7
   refine ⟨m', hm, i + 1, σ7, H7, I7.unpinned, T.keep _ _ _ st5 fun b hb o e => (I7.pin (b, o) (List.mem_append_right _ (List.mem_append_right _ (ZN hb e)))).1, fun b hb => ?_, w7⟩
   obtain ⟨o, e, d⟩ := T.obj _ _ st5 b hb
   exact (I7.pin (b, o) (List.mem_append_right _ (List.mem_append_right _ (ZN hb e)))).2.1
  cases f with
  | next => obtain ⟨σ7, H7, I7, n7⟩ := q7; exact again I7 n7
  | cont => obtain ⟨σ7, H7, I7, n7⟩ := q7; exact again I7 n7
  | brk => obtain ⟨σ7, H7, I7, q7⟩ := q7; exact ⟨σ7, H7, I7.unpinned, q7⟩
  | ret v => obtain ⟨x7, σ7, H7, I7, r7, q7⟩ := q7; exact ⟨x7, σ7, H7, I7.unpinned, r7, q7⟩
end
theorem ZcD {K : PySem.W.Frag} {a : Addr} {xs : List V} {g : TG} {tb : TS} {D : Ends} {σ : St} {H : Hp} (Pv : Nat → St → Hp → Prop) (h0 : Pv 0 σ H) (hl : ∀ i σ H, i ≤ xs.length → Pv i σ H → SqL K H a xs)
  (hs : ∀ i x σ H, xs[i]? = some x → Pv i σ H → g x σ H fun σ2 H2 => tb { D with nx := Pv (i + 1), ct := Pv (i + 1), bk := D.nx } σ2 H2) (hd : ∀ σ H, Pv xs.length σ H → D.nx σ H) :
  ∃ W : Nat → Nat → St → Hp → Prop, (∃ m, W 0 m σ H) ∧ ∀ i m σ H, W i m σ H →
   ((Itl K a).stop i H ∧ D.nx σ H) ∨ ((Itl K a).go i H ∧ ∃ N : St → Hp → Prop, (∀ σ' H', N σ' H' → ∃ m', m' < m ∧ W (i + 1) m' σ' H') ∧ ∀ x H', (Itl K a).yld i H x H' → g x σ H' fun σ2 H2 => tb { D with nx := N, ct := N, bk := D.nx } σ2 H2) := by
 refine ⟨fun i m σ H => m = xs.length - i ∧ i ≤ xs.length ∧ Pv i σ H, ⟨xs.length, by simp, Nat.zero_le _, h0⟩, ?_⟩
 rintro i m σ H ⟨rfl, hi, p⟩
 have q := hl i σ H hi p
 by_cases hlt : i < xs.length
 ·refine .inr ⟨⟨xs, xs[i], q, by simp [hlt]⟩, Pv (i + 1), fun σ' H' p' => ⟨xs.length - (i + 1), by omega, rfl, hlt, p'⟩, fun x H' y => ?_⟩
  obtain ⟨e, y⟩ := y
  subst e
  exact hs i x σ _ (y xs q) p
 ·have e : i = xs.length := by omega
  subst e
  exact .inl ⟨⟨xs, q, Nat.le_refl _⟩, hd σ H p⟩
theorem YS {lo : Int} {n : Nat} {g : TG} {tb : TS} {D : Ends} {σ : St} {H : Hp} (Pv : Nat → St → Hp → Prop) (h0 : Pv 0 σ H)
  (hs : ∀ i σ H, i < n → Pv i σ H → g (.int (lo + i)) σ H fun σ2 H2 => tb { D with nx := Pv (i + 1), ct := Pv (i + 1), bk := D.nx } σ2 H2) (hd : ∀ σ H, Pv n σ H → D.nx σ H) :
  ∃ W : Nat → Nat → St → Hp → Prop, (∃ m, W 0 m σ H) ∧ ∀ i m σ H, W i m σ H →
   ((Itr lo n).stop i H ∧ D.nx σ H) ∨ ((Itr lo n).go i H ∧ ∃ N : St → Hp → Prop, (∀ σ' H', N σ' H' → ∃ m', m' < m ∧ W (i + 1) m' σ' H') ∧ ∀ x H', (Itr lo n).yld i H x H' → g x σ H' fun σ2 H2 => tb { D with nx := N, ct := N, bk := D.nx } σ2 H2) := by
 refine ⟨fun i m σ H => m = n - i ∧ i ≤ n ∧ Pv i σ H, ⟨n, by simp, Nat.zero_le _, h0⟩, ?_⟩
 rintro i m σ H ⟨rfl, hi, p⟩
 by_cases hlt : i < n
 ·refine .inr ⟨hlt, Pv (i + 1), fun σ' H' p' => ⟨n - (i + 1), by omega, rfl, hlt, p'⟩, fun x H' y => ?_⟩
  obtain ⟨e, y⟩ := y
  subst e y
  exact hs i σ _ hlt p
 ·have e : i = n := by omega
  subst e
  exact .inl ⟨Nat.le_refl _, hd σ H p⟩
end L2
namespace L2
open PySem PySem.Spec PyProof.Rows
abbrev R2 := V → V → Hp → VK → Prop
def OpR (X : Cx) (f : Value → Value → Sem Value) (r : R2) : Prop :=
 ∀ (pins : List (Addr × Obj)) (s : Shared) (σ : St) (H : Hp) (x y : V) (v u : Value) (Q : VK), Inv X pins σ H s → RelV x v → RelV y u → r x y H Q →
  wpAny (model X.prog X.w) X.A (f v u) (EP X pins σ Q) X.xe s
def UnR (X : Cx) (f : Value → Sem Value) (r : V → Hp → VK → Prop) : Prop :=
 ∀ (pins : List (Addr × Obj)) (s : Shared) (σ : St) (H : Hp) (x : V) (v : Value) (Q : VK), Inv X pins σ H s → RelV x v → r x H Q →
  wpAny (model X.prog X.w) X.A (f v) (EP X pins σ Q) X.xe s
def CallR (X : Cx) (f : Value) (r : List V → Hp → VK → Prop) : Prop :=
 ∀ (pins : List (Addr × Obj)) (s : Shared) (σ : St) (H : Hp) (xs : List V) (us : List Value) (Q : VK), Inv X pins σ H s → Vals xs us → r xs H Q →
  wpAny (model X.prog X.w) X.A (call f us) (EP X pins σ Q) X.xe s
def tOp (r : R2) (ta tb : TE) : TE := fun σ H Q => ta σ H fun x H1 => tb σ H1 fun y H2 => r x y H2 Q
def tUn (r : V → Hp → VK → Prop) (ta : TE) : TE := fun σ H Q => ta σ H fun x H1 => r x H1 Q
def rI (C : Int → Int → Prop) (g : Int → Int → V) : R2 := fun x y H Q => ∃ i j, x = .int i ∧ y = .int j ∧ C i j ∧ Q (g i j) H
def rI0 (g : Int → Int → V) : R2 := fun x y H Q => ∃ i j, x = .int i ∧ y = .int j ∧ Q (g i j) H
def rU (g : Int → V) : V → Hp → VK → Prop := fun x H Q => ∃ i, x = .int i ∧ Q (g i) H
section
variable {X : Cx} {a b c : Expr} {ta tb tc : TE} {pos : Pos}
theorem binT (ha : PE X a ta) (hb : PE X b tb) {pins : List (Addr × Obj)} {s : Shared} {σ : St} {H : Hp} {R : V → V → Hp → Prop} (I : Inv X pins σ H s)
  (h : ta σ H fun x H1 => tb σ H1 fun y H2 => R x y H2) {Q : Value → Shared → Prop} {f : Value → Value → Sem Value}
  (hf : ∀ v u s2 x y H2, Inv X pins σ H2 s2 → RelV x v → RelV y u → R x y H2 → wpAny (model X.prog X.w) X.A (f v u) Q X.xe s2) :
  wpAny (model X.prog X.w) X.A (eval a X.env) (fun v s₁ => wpAny (model X.prog X.w) X.A (eval b X.env) (fun u s₂ => wpAny (model X.prog X.w) X.A (f v u) Q X.xe s₂) X.xe s₁) X.xe s := by
 refine thn (ha pins s σ H _ I h) fun v s1 ⟨x, H1, I1, r1, q1⟩ => ?_
 refine thn (hb pins s1 σ H1 _ I1 q1) fun u s2 ⟨y, H2, I2, r2, q2⟩ => ?_
 exact hf v u s2 x y H2 I2 r1 r2 q2
theorem Zo {op : Operator} {r : R2} (ho : OpR X (binaryOp op) r) (ha : PE X a ta) (hb : PE X b tb) : PE X (.BinOp a op b pos) (tOp r ta tb) := by
 intro pins s σ H Q I h
 exact wpAny_BinOp (binT ha hb I h fun v u s2 x y H2 I2 rx ry q => ho pins s2 σ H2 x y v u Q I2 rx ry q)
theorem Zb8 {op : UnaryOp} {r : V → Hp → VK → Prop} (ho : UnR X (unaryOp op) r) (ha : PE X a ta) : PE X (.UnaryOp op a pos) (tUn r ta) := by
 intro pins s σ H Q I h
 exact UnaryOp_ (thn (ha pins s σ H _ I h) fun v s1 ⟨x, H1, I1, r1, q1⟩ => ho pins s1 σ H1 x v Q I1 r1 q1)
theorem opI {f : Value → Value → Sem Value} {C : Int → Int → Prop} {g : Int → Int → Int}
  (rule : ∀ (i j : Int) (t u : Tok) (s : Shared) (Q : Value → Shared → Prop) (E : Value → Shared → Prop), C i j → Q (.int (g i j) s.toks) { s with toks := s.toks + 1 } → wpAny (model X.prog X.w) X.A (f (.int i t) (.int j u)) Q E s) :
  OpR X f (rI C fun i j => .int (g i j)) := by
 intro pins s σ H x y v u Q I rx ry h
 obtain ⟨i, j, rfl, rfl, hc, q⟩ := h
 obtain ⟨t, rfl⟩ := rx
 obtain ⟨t', rfl⟩ := ry
 exact rule i j t t' s _ _ hc ⟨.int (g i j), H, I.tok _, ⟨_, rfl⟩, q⟩
theorem opI0 {f : Value → Value → Sem Value} {g : Int → Int → Int}
  (rule : ∀ (i j : Int) (t u : Tok) (s : Shared) (Q : Value → Shared → Prop) (E : Value → Shared → Prop), Q (.int (g i j) s.toks) { s with toks := s.toks + 1 } → wpAny (model X.prog X.w) X.A (f (.int i t) (.int j u)) Q E s) :
  OpR X f (rI0 fun i j => .int (g i j)) := by
 intro pins s σ H x y v u Q I rx ry h
 obtain ⟨i, j, rfl, rfl, q⟩ := h
 obtain ⟨t, rfl⟩ := rx
 obtain ⟨t', rfl⟩ := ry
 exact rule i j t t' s _ _ ⟨.int (g i j), H, I.tok _, ⟨_, rfl⟩, q⟩
theorem opB0 {f : Value → Value → Sem Value} {g : Int → Int → Bool}
  (rule : ∀ (i j : Int) (t u : Tok) (s : Shared) (Q : Value → Shared → Prop) (E : Value → Shared → Prop), Q (.bool (g i j)) s → wpAny (model X.prog X.w) X.A (f (.int i t) (.int j u)) Q E s) :
  OpR X f (rI0 fun i j => .bl (g i j)) := by
 intro pins s σ H x y v u Q I rx ry h
 obtain ⟨i, j, rfl, rfl, q⟩ := h
 obtain ⟨t, rfl⟩ := rx
 obtain ⟨t', rfl⟩ := ry
 exact rule i j t t' s _ _ ⟨.bl (g i j), H, I, rfl, q⟩
def CDiv (i j : Int) : Prop := 0 < j ∧ j < 1073741824
def CPow (i j : Int) : Prop := 0 ≤ j ∧ j ≤ 1000000 ∧ i.natAbs < 2 ^ 64
def CMul (i j : Int) : Prop := (-(2 ^ 64) < i ∧ i < 2 ^ 64) ∨ (-(2 ^ 64) < j ∧ j < 2 ^ 64)
theorem CMul.ok {i j : Int} (h : CMul i j) : IntMulOk i j := by
 rcases h with ⟨h1, h2⟩ | ⟨h1, h2⟩
 ·exact .of_left (intBits_le_64 h1 h2)
 ·exact .of_right (intBits_le_64 h1 h2)
theorem ZW : OpR X (binaryOp .Add) (rI0 fun i j => .int (i + j)) := opI0 fun _ _ _ _ _ _ _ q => add_int q
theorem Yx : OpR X (binaryOp .Sub) (rI0 fun i j => .int (i - j)) := opI0 fun _ _ _ _ _ _ _ q => sub_int q
theorem YG : OpR X (binaryOp .Mult) (rI CMul fun i j => .int (i * j)) := opI fun _ _ _ _ _ _ _ hc q => mul_int q hc.ok
theorem JE : OpR X (binaryOp .FloorDiv) (rI CDiv fun i j => .int (i / j)) := opI fun i j _ _ _ _ _ hc q => by
 have h1 : (0 : Int) < j := hc.1
 have h2 : j < 1073741824 := hc.2
 exact floordiv_int (by omega) (by rw [Int.fdiv_eq_ediv_of_nonneg i (by omega)]; exact q) (.inl (PyProof.noPylong_small (by omega)))
theorem Yc : OpR X (binaryOp .Mod) (rI (fun _ j => 0 < j) fun i j => .int (i % j)) := opI fun i j _ _ _ _ _ hc q => by
 have h1 : (0 : Int) < j := hc
 exact mod_int' (by omega) (by rw [Int.fmod_eq_emod_of_nonneg i (by omega)]; exact q)
theorem Zag : OpR X (binaryOp .Pow) (rI CPow fun i j => .int (i ^ j.toNat)) := opI fun _ _ _ _ _ _ _ hc q => pow_int_small hc.1 hc.2.1 hc.2.2 q
theorem unI {f : Value → Sem Value} {g : Int → Int}
  (rule : ∀ (i : Int) (t : Tok) (s : Shared) (Q : Value → Shared → Prop) (E : Value → Shared → Prop), Q (.int (g i) s.toks) { s with toks := s.toks + 1 } → wpAny (model X.prog X.w) X.A (f (.int i t)) Q E s) :
  UnR X f (rU fun i => .int (g i)) := by
 intro pins s σ H x v Q I rx h
 obtain ⟨i, rfl, q⟩ := h
 obtain ⟨t, rfl⟩ := rx
 exact rule i t s _ _ ⟨.int (g i), H, I.tok _, ⟨_, rfl⟩, q⟩
theorem U6 : UnR X (unaryOp .USub) (rU fun i => .int (-i)) := unI fun _ _ _ _ _ q => neg_int q
end
def scal : V → V → Bool
 | .non, .non => true | .non, .int _ => true | .int _, .non => true | .non, .bl _ => true | .bl _, .non => true | .non, .str _ => true | .str _, .non => true
 | .int _, .int _ => true | .bl _, .bl _ => true | .str _, .str _ => true | .byt _, .byt _ => true
 | .int _, .str _ => true | .str _, .int _ => true | .bl _, .str _ => true | .str _, .bl _ => true
 | _, _ => false
def rEq : R2 := fun x y H Q => scal x y = true ∧ Q (.bl (decide (x = y))) H
def rNe : R2 := fun x y H Q => scal x y = true ∧ Q (.bl (!decide (x = y))) H
theorem Za4 {i j : Int} : decide (V.int i = V.int j) = (i == j) := by
 rw [Bool.eq_iff_iff]
 simp
theorem ZcM {i j : Bool} : decide (V.bl i = V.bl j) = (i == j) := by
 rw [Bool.eq_iff_iff]
 simp
theorem Za3 {i j : Str} : decide (V.str i = V.str j) = (i == j) := by
 rw [Bool.eq_iff_iff]
 simp
theorem Za5 {i j : Array UInt8} : decide (V.byt i = V.byt j) = (i.toList == j.toList) := by
 rw [Bool.eq_iff_iff]
 cases i
 cases j
 simp
section
variable {X : Cx} {a b c : Expr} {ta tb tc : TE} {pos : Pos}
theorem ZC {pins : List (Addr × Obj)} {σ : St} {H : Hp} {s : Shared} {Q : VK} {k k' : Bool} (I : Inv X pins σ H s) (q : Q (.bl k) H) (e : k = k') : EP X pins σ Q (.bool k') s := by
 subst e
 exact ⟨.bl k, H, I, rfl, q⟩
theorem Yr : OpR X (compareOp .Eq) rEq := by
 intro pins s σ H x y v u Q I rx ry h
 obtain ⟨hs, q⟩ := h
 cases x with
 | non =>
  cases rx
  cases y with
  | non => cases ry; exact PySem.EqNone.eq_none_none (ZC I q (by simp))
  | bl j => cases ry; exact PySem.EqNone.eq_none_bool (ZC I q (by simp))
  | int j => obtain ⟨t', rfl⟩ := ry; exact PySem.EqNone.eq_none_int (ZC I q (by simp))
  | str j => obtain ⟨t', rfl⟩ := ry; exact PySem.EqNone.eq_none_str (ZC I q (by simp))
  | _ => exact absurd (show false = true from hs) Bool.false_ne_true
 | bl i =>
  cases rx
  cases y with
  | non => cases ry; exact PySem.EqNone.eq_bool_none (ZC I q (by simp))
  | bl j => cases ry; exact eq_bool (ZC I q ZcM)
  | str j => obtain ⟨t', rfl⟩ := ry; exact PySem.EqMixed.eq_bool_str (ZC I q (by simp))
  | _ => exact absurd (show false = true from hs) Bool.false_ne_true
 | int i =>
  obtain ⟨t, rfl⟩ := rx
  cases y with
  | non => cases ry; exact PySem.EqNone.eq_int_none (ZC I q (by simp))
  | int j => obtain ⟨t', rfl⟩ := ry; exact eq_int (ZC I q Za4)
  | str j => obtain ⟨t', rfl⟩ := ry; exact PySem.EqMixed.eq_int_str (ZC I q (by simp))
  | _ => exact absurd (show false = true from hs) Bool.false_ne_true
 | str i =>
  obtain ⟨t, rfl⟩ := rx
  cases y with
  | non => cases ry; exact PySem.EqNone.eq_str_none (ZC I q (by simp))
  | bl j => cases ry; exact PySem.EqMixed.eq_str_bool (ZC I q (by simp))
  | int j => obtain ⟨t', rfl⟩ := ry; exact PySem.EqMixed.eq_str_int (ZC I q (by simp))
  | str j => obtain ⟨t', rfl⟩ := ry; exact eq_str (ZC I q Za3)
  | _ => exact absurd (show false = true from hs) Bool.false_ne_true
 | byt i =>
  obtain ⟨t, rfl⟩ := rx
  cases y with
  | byt j => obtain ⟨t', rfl⟩ := ry; exact PySem.W.eq_bytes (ZC I q Za5)
  | _ => exact absurd (show false = true from hs) Bool.false_ne_true
 | _ => cases y <;> exact absurd (show false = true from hs) Bool.false_ne_true
theorem Jx : OpR X (compareOp .NotEq) rNe := by
 intro pins s σ H x y v u Q I rx ry h
 obtain ⟨hs, q⟩ := h
 cases x with
 | non =>
  cases rx
  cases y with
  | non => cases ry; exact PySem.EqNone.ne_none_none (ZC I q (by simp))
  | bl j => cases ry; exact PySem.EqNone.ne_none_bool (ZC I q (by simp))
  | int j => obtain ⟨t', rfl⟩ := ry; exact PySem.EqNone.ne_none_int (ZC I q (by simp))
  | str j => obtain ⟨t', rfl⟩ := ry; exact PySem.EqNone.ne_none_str (ZC I q (by simp))
  | _ => exact absurd (show false = true from hs) Bool.false_ne_true
 | bl i =>
  cases rx
  cases y with
  | non => cases ry; exact PySem.EqNone.ne_bool_none (ZC I q (by simp))
  | bl j => cases ry; exact ne_bool (ZC I q (congrArg not ZcM))
  | str j => obtain ⟨t', rfl⟩ := ry; exact PySem.EqMixed.ne_bool_str (ZC I q (by simp))
  | _ => exact absurd (show false = true from hs) Bool.false_ne_true
 | int i =>
  obtain ⟨t, rfl⟩ := rx
  cases y with
  | non => cases ry; exact PySem.EqNone.ne_int_none (ZC I q (by simp))
  | int j => obtain ⟨t', rfl⟩ := ry; exact ne_int (ZC I q (congrArg not Za4))
  | str j => obtain ⟨t', rfl⟩ := ry; exact PySem.EqMixed.ne_int_str (ZC I q (by simp))
  | _ => exact absurd (show false = true from hs) Bool.false_ne_true
 | str i =>
  obtain ⟨t, rfl⟩ := rx
  cases y with
  | non => cases ry; exact PySem.EqNone.ne_str_none (ZC I q (by simp))
  | bl j => cases ry; exact PySem.EqMixed.ne_str_bool (ZC I q (by simp))
  | int j => obtain ⟨t', rfl⟩ := ry; exact PySem.EqMixed.ne_str_int (ZC I q (by simp))
  | str j => obtain ⟨t', rfl⟩ := ry; exact ne_str (ZC I q (congrArg not Za3))
  | _ => exact absurd (show false = true from hs) Bool.false_ne_true
 | byt i =>
  obtain ⟨t, rfl⟩ := rx
  cases y with
  | byt j => obtain ⟨t', rfl⟩ := ry; exact PySem.W.ne_bytes (ZC I q (congrArg not Za5))
  | _ => exact absurd (show false = true from hs) Bool.false_ne_true
 | _ => cases y <;> exact absurd (show false = true from hs) Bool.false_ne_true
theorem Zdv : OpR X (compareOp .Lt) (rI0 fun i j => .bl (decide (i < j))) := opB0 fun _ _ _ _ _ _ _ q => lt_int q
theorem Zdw : OpR X (compareOp .LtE) (rI0 fun i j => .bl (decide (i ≤ j))) := opB0 fun _ _ _ _ _ _ _ q => le_int q
theorem Zee : OpR X (compareOp .Gt) (rI0 fun i j => .bl (decide (j < i))) := opB0 fun _ _ _ _ _ _ _ q => gt_int q
theorem Zef : OpR X (compareOp .GtE) (rI0 fun i j => .bl (decide (j ≤ i))) := opB0 fun _ _ _ _ _ _ _ q => ge_int q
theorem OpR.or {f : Value → Value → Sem Value} {r r' : R2} (h : OpR X f r) (h' : OpR X f r') : OpR X f (fun x y H Q => r x y H Q ∨ r' x y H Q) := by
 intro pins s σ H x y v u Q I rx ry q
 rcases q with q | q
 ·exact h pins s σ H x y v u Q I rx ry q
 ·exact h' pins s σ H x y v u Q I rx ry q
theorem nomark (b : Expr) {op : CmpOp} (h : op ≠ .In := by decide) (h2 : op ≠ .NotIn := by decide) : behindInMarks op b = false := by
 have e1 : (op == CmpOp.In) = false := by cases op <;> first | rfl | exact absurd rfl h
 have e2 : (op == CmpOp.NotIn) = false := by cases op <;> first | rfl | exact absurd rfl h2
 cases b <;> simp [behindInMarks, e1, e2]
theorem ZL {op : CmpOp} {r : R2} (ho : OpR X (compareOp op) r) (ha : PE X a ta) (hb : PE X b tb) (hm : behindInMarks op b = false) : PE X (.Compare a [op] [b] pos) (tOp r ta tb) := by
 intro pins s σ H Q I h
 exact wpAny_Compare1 (binT ha hb I h fun v u s2 x y H2 I2 rx ry q => ho pins s2 σ H2 x y v u Q I2 rx ry q) hm
def tTest (t : TE) : TT := fun σ H Q => t σ H fun x H' => ∃ k, x = .bl k ∧ Q k H'
theorem ZO {op : CmpOp} {r : R2} (ho : OpR X (compareOp op) r) (ha : PE X a ta) (hb : PE X b tb) (hm : behindInMarks op b = false) : PT X (.Compare a [op] [b] pos) (tTest (tOp r ta tb)) := by
 intro pins s σ H Q I h
 refine wpAny_isTrue_Compare1 (thn (ha pins s σ H _ I h) fun v s1 ⟨x, H1, I1, r1, q1⟩ => thn (hb pins s1 σ H1 _ I1 q1) fun u s2 ⟨y, H2, I2, r2, q2⟩ =>
  thn (ho pins s2 σ H2 x y v u _ I2 r1 r2 q2) fun c s3 ⟨z, H3, I3, r3, k, e, q3⟩ => ?_) hm
 subst e
 cases r3
 exact wpAny_truthy_bool ⟨H3, I3, q3⟩
def tChain (r r' : R2) (ta tb tc : TE) : TE := fun σ H Q => ta σ H fun x H1 => tb σ H1 fun y H2 => r x y H2 fun z H3 => ∃ k, z = .bl k ∧
 (if k = true then tc σ H3 fun w' H4 => r' y w' H4 Q else Q (.bl false) H3)
theorem Zca {op op' : CmpOp} {r r' : R2} (ho : OpR X (compareOp op) r) (ho' : OpR X (compareOp op') r') (ha : PE X a ta) (hb : PE X b tb) (hc : PE X c tc)
  (hm : lastMarks [op, op'] [b, c] = false := by with_unfolding_all rfl) : PE X (.Compare a [op, op'] [b, c] pos) (tChain r r' ta tb tc) := by
 intro pins s σ H Q I h
 refine Compare_chain (thn (ha pins s σ H _ I h) fun v s1 ⟨x, H1, I1, r1, q1⟩ => chain_link (thn (hb pins s1 σ H1 _ I1 q1) fun u s2 ⟨y, H2, I2, r2, q2⟩ =>
  thn (ho pins s2 σ H2 x y v u _ I2 r1 r2 q2) fun d s3 ⟨z, H3, I3, r3, k, e, q3⟩ => ?_)) hm
 subst e
 cases r3
 refine wpAny_truthy_bool ?_
 cases k with
 | false => exact ite_ff ⟨.bl false, H3, I3, rfl, q3⟩
 | true => exact ite_tt (chain_last (thn (hc pins s3 σ H3 _ I3 q3) fun w' s4 ⟨z', H4, I4, r4, q4⟩ => ho' pins s4 σ H4 y z' u w' Q I4 r2 r4 q4))
theorem line63 : (sizeLine : Nat) < 2 ^ 63 := by rw [sizeLine_eq]; decide
theorem vals1 {x : V} {us : List Value} (r : Vals [x] us) : ∃ u, us = [u] ∧ RelV x u := by
 cases r with
 | cons r1 r2 => cases r2; exact ⟨_, rfl, r1⟩
theorem vals2 {x y : V} {us : List Value} (r : Vals [x, y] us) : ∃ u w', us = [u, w'] ∧ RelV x u ∧ RelV y w' := by
 cases r with
 | cons r1 r2 =>
  cases r2 with
  | cons r3 r4 => cases r4; exact ⟨_, _, rfl, r1, r3⟩
theorem WT (hc : X.calm = true) : CallR X (.builtin "max") (fun xs H Q => ∃ i j, xs = [.int i, .int j] ∧ Q (.int (if j > i then j else i)) H) := by
 intro pins s σ H xs us Q I r h
 obtain ⟨i, j, rfl, q⟩ := h
 obtain ⟨u, w', rfl, ⟨t, rfl⟩, ⟨t', rfl⟩⟩ := vals2 r
 refine max_two_ints (I.ok.hd hc) fun h' tk k => ⟨_, H, I.kept k, ?_, q⟩
 by_cases hj : j > i
 ·rw [if_pos hj, if_pos hj]; exact ⟨_, rfl⟩
 ·rw [if_neg hj, if_neg hj]; exact ⟨_, rfl⟩
theorem ZbP (hc : X.calm = true) : CallR X (.builtin "min") (fun xs H Q => ∃ i j, xs = [.int i, .int j] ∧ Q (.int (if j < i then j else i)) H) := by
 intro pins s σ H xs us Q I r h
 obtain ⟨i, j, rfl, q⟩ := h
 obtain ⟨u, w', rfl, ⟨t, rfl⟩, ⟨t', rfl⟩⟩ := vals2 r
 refine min_two_ints (I.ok.hd hc) fun h' tk k => ⟨_, H, I.kept k, ?_, q⟩
 by_cases hj : j < i
 ·rw [if_pos hj, if_pos hj]; exact ⟨_, rfl⟩
 ·rw [if_neg hj, if_neg hj]; exact ⟨_, rfl⟩
end
end L2
namespace L2
open PySem PySem.Spec PyProof.Rows
structure ObjM (h : Heap) (x dx C : Addr) (mA : Str → Option Value) : Prop where
 obj : h.get? x = some (PySem.W.instObj C dx)
 ns : h.Ns1 dx mA
 ne : dx ≠ x
theorem ZbC {h : Heap} {dx : Addr} {mA : Str → Option Value} (n : h.Ns1 dx mA) : ∃ od, h.get? dx = some od ∧ ∀ name, PySem.W.lookIn name od = some (mA name) := by
 obtain ⟨o, es, ep, ho, hd, hk, _, hm⟩ := n
 refine ⟨o, ho, fun name => ?_⟩
 have e := hm name
 unfold nsFind findBy at e
 rw [← Array.find?_toList] at e
 unfold PySem.W.lookIn
 rw [hd]
 dsimp only
 split
 ·rename_i y q
  rw [q] at e
  exact congrArg some e
 ·rename_i q
  rw [q] at e
  have a : es.toList.any (·.refKey) = false := by
   rw [List.any_eq_false]
   intro y hy
   obtain ⟨z, t, hkey⟩ := hk y (Array.mem_toList_iff.mp hy)
   simp [DictEntry.refKey, hkey]
  have a' : ¬ es.toList.any (·.refKey) = true := by rw [a]; exact Bool.false_ne_true
  rw [if_neg a']
  exact congrArg some e
theorem ObjM.look {h : Heap} {x dx C : Addr} {mA : Str → Option Value} (I : ObjM h x dx C mA) : ∃ od, PySem.W.InstAt h x (PySem.W.instObj C dx) C (some od) ∧ ∀ name, PySem.W.lookIn name od = some (mA name) :=
 let ⟨od, ho, hl⟩ := ZbC I.ns
 ⟨od, ⟨I.obj, rfl, rfl, ho⟩, hl⟩
theorem RelO.some_of {v : V} {o : Option Value} (r : RelO (some v) o) : ∃ u, o = some u ∧ RelV v u := by
 cases o with
 | none => exact (show False from r).elim
 | some u => exact ⟨u, rfl, r⟩
section
variable {P : Program} {w : World} {H H' : Hp} {h h' : Heap} {a C dx : Addr} {fs fs' : List (Str × V)}
theorem Zdm (hok : HOk P w H h) (e : H a = some (.ins C dx fs)) : ∃ mA, ObjM h a dx C mA ∧ (∀ f, RelO (fs.lookup f) (mA f)) ∧ PySem.Within mA (fs.map (·.1)) ∧ fs.length ≤ 1000 ∧ H dx = some (.own a) := by
 obtain ⟨d, z, ne, ob, mA, n, r, q⟩ := (show ObjOk P w H h a (.ins C dx fs) from hok a _ e)
 exact ⟨mA, ⟨ob, n, ne⟩, r, q, z, d⟩
end
structure Cls (K : PySem.W.Frag) (C : Addr) : Prop where
 pg : PySem.W.plainGet K C Str.empty = true
 hd : PySem.W.hasDictIn K C = true
 po : PySem.W.plainOver K C = true
 sa : PySem.W.findIn K (.ref C) "__setattr__" = some (some (.builtin "object.__setattr__"))
theorem Cls.get {K : PySem.W.Frag} {C : Addr} (c : Cls K C) (f : Str) : PySem.W.plainGet K C f = true := c.pg
structure Con (K : PySem.W.Frag) (C : Addr) (f : Str) (v : V) (u : Value) : Prop where
 at_ : PySem.W.findIn K (.ref C) f = some (some u)
 rel : RelV v u
 get : PySem.W.specialIn K u "__get__" = some none
 cp : PySem.W.copiedNames.contains f = false
structure Meth (K : PySem.W.Frag) (C : Addr) (m : Str) (f : Addr) : Prop where
 at_ : PySem.W.findIn K (.ref C) m = some (some (.ref f))
 fn : PySem.W.isFn K (.ref f) = true
 kp : PySem.W.keepIn K (.ref f) = true
section
variable {X : Cx} {pins : List (Addr × Obj)} {σ : St} {H : Hp} {s : Shared} {A : Around} {E : Value → Shared → Prop} {Q : Value → Shared → Prop} {c : Value} {b : Bool}
inductive TyOf (K : PySem.W.Frag) (H : Hp) : V → Value → Prop where
 | non : TyOf K H .non (.type "NoneType")
 | bl (x : Bool) : TyOf K H (.bl x) (.type "bool")
 | int (i : Int) : TyOf K H (.int i) (.type "int")
 | str (x : Str) : TyOf K H (.str x) (.type "str")
 | flt (x : UInt64) : TyOf K H (.flt x) (.type "float")
 | lst {a : Addr} {xs : List V} (e : H a = some (.lst xs)) : TyOf K H (.ref a) (.type "list")
 | frz {a : Addr} {o : Obj} {xs : List V} (e : H a = some (.frz o (.lst xs))) : TyOf K H (.ref a) (.type "list")
 | tup {a : Addr} {xs : List V} (e : H a = some (.tup xs)) : TyOf K H (.ref a) (.type "tuple")
 | dK {a : Addr} {kvs : List (Key × V)} (e : H a = some (.dK kvs)) : TyOf K H (.ref a) (.type "dict")
 | dT {a : Addr} {kvs : List (List Key × V)} (e : H a = some (.dT kvs)) : TyOf K H (.ref a) (.type "dict")
 | ins {a C dx : Addr} {fs : List (Str × V)} (e : H a = some (.ins C dx fs)) (cl : Cls K C) (ha : PySem.W.findIn K (.ref C) "__class__" = some (some (.builtin "object.__class__")))
   (hn : PySem.W.specialIn K (.builtin "object.__class__") "__get__" = some (some (.builtin "getset_descriptor.__get__"))) (htk : PySem.W.takesIn K (.builtin "object.__class__") = some true)
   (hm : PySem.W.mroIn K C (.type "object") = some true) : TyOf K H (.ref a) (.ref C)
theorem ZbI {x : V} {u t : Value} (I : Inv X pins σ H s) (rx : RelV x u) (ty : TyOf X.K H x t) (e : PySem.W.kitOne X.K t c = some b) (h : ∀ tk, Q (.bool b) { s with toks := tk }) :
  wpAny (model X.prog X.w) A (call (.builtin "isinstance") [u, c]) Q E s := by
 cases ty with
 | non => cases (show u = Value.none from rx); exact PySem.W.kia_one PySem.W.kitx_none I.kIn True.intro e (fun z => nomatch z) h
 | bl y => cases (show u = Value.bool y from rx); exact PySem.W.kia_one PySem.W.kitx_bool I.kIn True.intro e (fun z => nomatch z) h
 | int i => obtain ⟨t, q⟩ := (show ∃ t, u = Value.int i t from rx); cases q; exact PySem.W.kia_one PySem.W.kitx_int I.kIn True.intro e (fun z => nomatch z) h
 | str y => obtain ⟨t, q⟩ := (show ∃ t, u = Value.str y t from rx); cases q; exact PySem.W.kia_one PySem.W.kitx_str I.kIn True.intro e (fun z => nomatch z) h
 | flt y => obtain ⟨t, q⟩ := (show ∃ t, u = Value.float y t from rx); cases q; exact PySem.W.kia_one PySem.W.kitx_float I.kIn True.intro e (fun z => nomatch z) h
 | @lst a xs ea =>
  cases (show u = Value.ref a from rx)
  obtain ⟨_, _, n, _, h1⟩ := (show ObjOk X.prog X.w H s.heap a (.lst xs) from I.hok a _ ea)
  exact PySem.W.kia_one PySem.W.kitx_list I.kIn ⟨_, h1, rfl⟩ e (fun z => nomatch z) h
 | @frz a ob xs ea =>
  cases (show u = Value.ref a from rx)
  obtain ⟨_, _, _, n, _, h1⟩ := (show ObjOk X.prog X.w H s.heap a (.frz ob (.lst xs)) from I.hok a _ ea)
  exact PySem.W.kia_one PySem.W.kitx_list I.kIn ⟨_, h1, rfl⟩ e (fun z => nomatch z) h
 | @tup a xs ea =>
  cases (show u = Value.ref a from rx)
  obtain ⟨_, _, _, p, _⟩ := (show ObjOk X.prog X.w H s.heap a (.tup xs) from I.hok a _ ea)
  obtain ⟨o, h1, h2, _⟩ := p
  exact PySem.W.kia_one PySem.W.kitx_tuple I.kIn ⟨o, h1, h2⟩ e (fun z => nomatch z) h
 | @dK a kvs ea =>
  cases (show u = Value.ref a from rx)
  obtain ⟨_, _, vs, _, p⟩ := (show ObjOk X.prog X.w H s.heap a (.dK kvs) from I.hok a _ ea)
  obtain ⟨o, es, ep, h1, h2, _⟩ := p
  exact PySem.W.kia_one PySem.W.kitx_dict I.kIn ⟨o, h1, h2.1⟩ e (fun z => nomatch z) h
 | @dT a kvs ea =>
  cases (show u = Value.ref a from rx)
  obtain ⟨_, _, xs, _, o, es, ep, h1, h2, _⟩ := (show ObjOk X.prog X.w H s.heap a (.dT kvs) from I.hok a _ ea)
  exact PySem.W.kia_one PySem.W.kitx_dict I.kIn ⟨o, h1, h2.1⟩ e (fun z => nomatch z) h
 | @ins a C dx fs ea cl ha hn htk hm =>
  cases (show u = Value.ref a from rx)
  obtain ⟨mA, O, _⟩ := Zdm I.hok ea
  obtain ⟨od, J, _⟩ := O.look
  exact PySem.W.kia_one (PySem.W.kitx_own (cl.get _) cl.hd ha hn htk hm) I.kIn J e (fun z => nomatch z) h
end
end L2
namespace L2
open PySem PySem.Spec PyProof.Rows
structure Room (k : Nat) (A : Around) : Prop where
 hd : A.handled = none
 dp : A.depth + 3 * k + 5 < recursionLimit
 un : A.units + 16 * k + 200 < cLine
 gd : A.guards = some []
theorem Room.mono {j k : Nat} {A : Around} (r : Room k A) (h : j ≤ k) : Room j A := ⟨r.hd, by have := r.dp; omega, by have := r.un; omega, r.gd⟩
theorem Room.deeper {k : Nat} {A : Around} (r : Room (k + 1) A) (env : Env) : Room k (A.deeper env) :=
 ⟨r.hd, by have := r.dp; show A.depth + 1 + 3 * k + 5 < _; omega, by have := r.un; show A.units + 3 + 16 * k + 200 < _; omega, r.gd⟩
theorem Room.depth {k : Nat} {A : Around} (r : Room k A) : A.depth < recursionLimit := by have := r.dp; omega
theorem Room.units {k : Nat} {A : Around} (r : Room k A) : A.units + 64 < cLine := by have := r.un; omega
def tNil : TA := fun _ H Q => Q [] H
def tCons (ta : TE) (tr : TA) : TA := fun σ H Q => ta σ H fun x H1 => tr σ H1 fun xs H2 => Q (x :: xs) H2
section
variable {X : Cx} {e : Expr} {es : List Expr} {te : TE} {t : TA} {pos : Pos}
theorem Zb : PA X [] tNil := fun _ _ _ _ H Q I h => Calls.spliced_nil ⟨[], H, I, .nil, h⟩
theorem Za (ha : PE X e te) (hr : PA X es t) (hs : starEach (e :: es) X.env = (false, eval e X.env) :: starEach es X.env := by rfl) : PA X (e :: es) (tCons te t) := by
 intro pos pins s σ H Q I h
 rw [hs]
 show wpAny _ _ (spliced ((false, eval e X.env) :: backTo pos (starEach es X.env))) _ _ s
 refine Calls.spliced_cons (thn (ha pins s σ H _ I h) fun u s1 ⟨x, H1, I1, r1, q1⟩ => ?_)
 exact thn (hr pos pins s1 σ H1 _ I1 q1) fun us s2 ⟨xs, H2, I2, r2, q2⟩ => ⟨x :: xs, H2, I2, .cons r1 r2, q2⟩
def tTup (t : TA) : TE := fun σ H Q => t σ H fun xs H1 => xs.length ≤ sizeLine ∧ ∀ p, H1 p = none → Q (.ref p) (upd H1 p (.tup xs))
def tLst (t : TA) : TE := fun σ H Q => t σ H fun xs H1 => xs.length ≤ sizeLine ∧ ∀ p, H1 p = none → Q (.ref p) (upd H1 p (.lst xs))
theorem Zv {x1} (h : PA X es t) : PE X (.Tuple es x1 pos) (tTup t) := by
 intro pins s σ H Q I hq
 refine wpAny_Tuple_spliced (thn (h pos pins s σ H _ I hq) fun us s1 ⟨xs, H1, I1, r, z, q⟩ => ⟨by rw [← r.length]; exact z, ?_⟩)
 have hf : H1 s1.heap.objs.size = none := I1.hok.fresh (Nat.le_refl _)
 refine ⟨.ref s1.heap.objs.size, upd H1 s1.heap.objs.size (.tup xs), I1.laid (t' := s1.toks) (fun b u e => Heap.get?_push_of_some _ e) (Nat.le_refl _) ?_, rfl, q _ hf⟩
 exact ⟨z, us, r, ⟨_, Heap.get?_push_size _ rfl, rfl, _, rfl⟩, _, Heap.get?_push_size _ rfl, rfl⟩
theorem ZI (h : PA X es t) : PE X (.List es pos) (tLst t) := by
 intro pins s σ H Q I hq
 refine wpAny_List_spliced (thn (h pos pins s σ H _ I hq) fun us s1 ⟨xs, H1, I1, r, z, q⟩ => ⟨by rw [← r.length]; exact z, ?_⟩)
 have hf : H1 s1.heap.objs.size = none := I1.hok.fresh (Nat.le_refl _)
 refine ⟨.ref s1.heap.objs.size, upd H1 s1.heap.objs.size (.lst xs), I1.laid (t' := s1.toks) (fun b u e => Heap.get?_push_of_some _ e) (Nat.le_refl _) ?_, rfl, q _ hf⟩
 exact ⟨z, us, 0, r, Heap.get?_push_size _ rfl⟩
end
abbrev Sp := List V → Hp → VK → XK → Prop
abbrev CXT := List Env → Hp → Shared → XK → Value → Shared → Prop
structure Env0 (P : Program) (w : World) (K : PySem.W.Frag) (mg : Str → Option Value) (base : Heap) (A : Around) (outer : List Env) (s : Shared) (H : Hp) : Prop where
 frames : A.frames = some outer
 mod : Mod K mg base
 bs : ∀ b o, base.get? b = some o → s.heap.get? b = some o ∧ H b = none
 bsz : base.objs.size ≤ s.heap.objs.size
 funs : s.heap.FunFrames base outer
 frf : ∀ b ∈ frs outer, H b = none
 hok : HOk P w H s.heap
 bare : AllBare s.gens
def CE (outer : List Env) (P : Program) (w : World) (H : Hp) (s : Shared) (Q : VK) (u : Value) (s' : Shared) : Prop :=
 ∃ v H', s'.os = s.os ∧ AllBare s'.gens ∧ Un (frs outer) [] H H' s.heap s'.heap ∧ HOk P w H' s'.heap ∧ RelV v u ∧ Q v H'
def CR (CX : CXT) (outer : List Env) (P : Program) (w : World) (H : Hp) (s : Shared) (Q : VK) (E : XK) (r : Result) (s' : Shared) : Prop :=
 match r with
 | .ok (.ret u) => CE outer P w H s Q u s'
 | .ok _ => False
 | .error e => CX outer H s E e s'
structure FnOk (P : Program) (w : World) (K : PySem.W.Frag) (mg : Str → Option Value) (base : Heap) (CX : CXT) (k : Nat) (f : Addr) (fd : FuncData) (ps : List Str) (sp : Sp) : Prop where
 len : ∀ vs H Q E, sp vs H Q E → vs.length = ps.length
 run : ∀ (A : Around) (outer : List Env) (s : Shared) (H : Hp) (args : Args) (us : List Value) (vs : List V) (Q : VK) (E : XK), Room k A → Env0 P w K mg base A outer s H → BindsTo s fd args (ps.zip us) → Vals vs us → sp vs H Q E →
  codeAny (model P w) A (.call (.ref f) args) (CR CX outer P w H s Q E) s
section
variable {X : Cx} {pins : List (Addr × Obj)} {σ : St} {H : Hp} {s s' : Shared}
theorem Inv.env0 (I : Inv X pins σ H s) : Env0 X.prog X.w X.K X.mg X.base X.A X.stack s H :=
 ⟨I.ok.frames, I.ok.mod, I.bs, Nat.le_trans I.ok.bsz I.sz, I.stack, I.stkFree, I.hok, I.bare⟩
theorem Inv.after {Q : VK} {u : Value} (I : Inv X pins σ H s) (h : CE X.stack X.prog X.w H s Q u s') : EP X pins σ Q u s' := by
 obtain ⟨v, H', os, bare, un, hok, r, q⟩ := h
 obtain ⟨hh, g, d, t, os'⟩ := s'
 obtain rfl : os' = s.os := os
 exact ⟨v, H', I.call (h' := hh) (g' := g) (d' := d) (t' := t) (ch := []) un hok bare (fun b z => absurd z (by simp)), r, q⟩
end
def tCall (sp : Sp) (dvs : List V) (E : XK) (t : TA) : TE := fun σ H Q => t σ H fun vs H1 => sp (vs ++ dvs) H1 Q E
def Binds (K : PySem.W.Frag) (fd : FuncData) (ps : List Str) (ds : List Value) : Prop :=
 ∀ (s : Shared) (us : List Value), K.In s.heap → (us ++ ds).length = ps.length → BindsTo s fd ⟨us, []⟩ (ps.zip (us ++ ds))
theorem Binds.all {K : PySem.W.Frag} {fd : FuncData} {ps : List Str} (h : ∀ us : List Value, us.length = ps.length → bindArgs fd ⟨us, []⟩ = pure (ps.zip us)) : Binds K fd ps [] := fun s us _ hl => by
 rw [List.append_nil] at hl ⊢
 exact .of_eq (h us hl)
def Passes (CX : CXT) (X : Cx) (E : XK) : Prop := ∀ (pins : List (Addr × Obj)) (σ : St) (H : Hp) (s : Shared) (e : Value) (s' : Shared), Inv X pins σ H s → CX X.stack H s E e s' → X.xe e s'
section
variable {X : Cx} {CX : CXT} {k : Nat} {f C : Addr} {fd : FuncData} {ps : List Str} {sp : Sp} {dvs : List V} {ds : List Value} {E : XK} {x m : Str} {p pos apos : Pos} {e o : Expr} {es : List Expr} {ta : TE} {t : TA}
theorem ZbY {pins : List (Addr × Obj)} {σ : St} {H : Hp} {s : Shared} {Q : VK} {us : List Value} {vs : List V} (F : FnOk X.prog X.w X.K X.mg X.base CX k f fd ps sp) (hr : Room k X.A) (hb : Binds X.K fd ps ds) (hd : Vals dvs ds) (hx : Passes CX X E)
  (I : Inv X pins σ H s) (r : Vals vs us) (h : sp (vs ++ dvs) H Q E) : wpAny (model X.prog X.w) X.A (call (.ref f) us) (EP X pins σ Q) X.xe s := by
 have r2 : Vals (vs ++ dvs) (us ++ ds) := r.append hd
 have hl : (us ++ ds).length = ps.length := by rw [← r2.length]; exact F.len _ _ _ _ h
 refine wpAny_call (codeAny_mono (F.run X.A X.stack s H ⟨us, []⟩ (us ++ ds) (vs ++ dvs) Q E hr I.env0 (hb s us I.kIn hl) r2 h) fun r s' hq => ?_)
 cases r with
 | error e => exact hx pins σ H s e s' I hq
 | ok fl =>
  cases fl with
  | ret u => exact I.after hq
  | next => exact False.elim hq
  | brk => exact False.elim hq
  | cont => exact False.elim hq
theorem JD (F : FnOk X.prog X.w X.K X.mg X.base CX k f fd ps sp) (hr : Room k X.A) (hg : Gl X x) (hm : X.mg x = some (.ref f)) (hk : PySem.W.keepIn X.K (.ref f) = true) (hb : Binds X.K fd ps ds) (hd : Vals dvs ds) (hx : Passes CX X E)
  (ha : PA X (e :: es) t) (hdb : (x == ("__debug__" : Str)) = false := by decide) (he : starEach (e :: es) X.env = (false, eval e X.env) :: starEach es X.env := by rfl) (hpl : (backTo pos (starEach es X.env)).any (·.1) = false := by rfl) :
  PE X (.Call (.Name x p) (e :: es) [] pos) (tCall sp dvs E t) := by
 intro pins s σ H Q I h
 refine wpAny_Call_Name_kw (YQ I hg hm ?_ hdb)
 refine PySem.W.callWith_K (h₀ := X.base) I.ok.mod.kin hk (thn (ha pos pins s σ H _ I h) fun us s1 ⟨vs, H1, I1, r, q⟩ => ⟨I1.kIn, ?_⟩) he hpl
 exact ZbY F hr hb hd hx I1 r q
structure Mk (K : PySem.W.Frag) (C f : Addr) : Prop where
 makes : PySem.W.makesIn K C = true
 init : PySem.W.findIn K (.ref C) "__init__" = some (some (.ref f))
 fn : PySem.W.isFn K (.ref f) = true
 kp : PySem.W.keepIn K (.ref C) = true
end
section
variable {X : Cx} {CX : CXT} {k : Nat} {f C : Addr} {fd : FuncData} {ps ks : List Str} {sp : Sp} {E : XK} {x m : Str} {p pos apos kpos : Pos} {e o : Expr} {es : List Expr} {kws : List Keyword} {te ta : TE} {t tk : TA} {nm : Option Str}
structure KBinds (K : PySem.W.Frag) (fd : FuncData) (ps ks : List Str) (g : List Value → List Value → List Value) (gV : List V → List V → List V) : Prop where
 to : ∀ (s : Shared) (us ws : List Value), K.In s.heap → (g us ws).length = ps.length → BindsTo s fd ⟨us, ks.zip ws⟩ (ps.zip (g us ws))
 rel : ∀ {vs : List V} {us : List Value} {zs : List V} {ws : List Value}, Vals vs us → Vals zs ws → Vals (gV vs zs) (g us ws)
variable {g : List Value → List Value → List Value} {gV : List V → List V → List V}
end
structure FnScope (N P : List Str) (sc : Scope) : Prop where
 kind : sc.kind = .function
 co : sc.isCoroutine = false
 gen : sc.isGenerator = false
 nd : N.Nodup
 pre : N.take P.length = P
 par : ∀ x ∈ P, sc.names.lookup x = some .local ∨ sc.names.lookup x = some .cell
 nofree : ∀ y ∈ sc.names, y.2 ≠ .free
theorem WU {kindOf : Str → Option NameKind} {x : Str} : ∀ {binds : List (Str × Value)} {m : Str → Option Value}, (∀ v, (x, v) ∉ binds) → bindL kindOf binds m x = m x
 | [], _, _ => rfl
 | (n, v) :: r, m, h => by
  unfold bindL
  rw [WU fun w hw => h w (List.mem_cons_of_mem _ hw)]
  split
  ·have : x ≠ n := by rintro rfl; exact h v List.mem_cons_self
   simp [this]
  ·rfl
theorem WW {kindOf : Str → Option NameKind} {x : Str} : ∀ {binds : List (Str × Value)} {m : Str → Option Value}, (∀ v, (x, v) ∉ binds) → bindC kindOf binds m x = m x
 | [], _, _ => rfl
 | (n, v) :: r, m, h => by
  unfold bindC
  rw [WW fun w hw => h w (List.mem_cons_of_mem _ hw)]
  split
  ·rfl
  ·have : x ≠ n := by rintro rfl; exact h v List.mem_cons_self
   simp [this]
theorem WV {kindOf : Str → Option NameKind} {x : Str} {v : Value} : ∀ {P : List Str} {vs : List Value} {i : Nat} {m : Str → Option Value}, P.Nodup → P[i]? = some x → vs[i]? = some v → kindOf x = some .local →
  bindL kindOf (P.zip vs) m x = some v
 | [], _, _, _, _, h, _, _ => by simp at h
 | _ :: _, [], _, _, _, _, h, _ => by simp at h
 | p :: P, w :: vs, 0, m, nd, h1, h2, hk => by
  simp at h1 h2; subst h1; subst h2
  show bindL kindOf ((p, w) :: P.zip vs) m p = _
  unfold bindL
  rw [WU fun v hv => (List.nodup_cons.mp nd).1 (List.of_mem_zip hv).1, if_pos hk]
  simp
 | p :: P, w :: vs, i + 1, m, nd, h1, h2, hk => by
  show bindL kindOf ((p, w) :: P.zip vs) m x = _
  unfold bindL
  exact WV (i := i) (List.nodup_cons.mp nd).2 (by simpa using h1) (by simpa using h2) hk
theorem WX {kindOf : Str → Option NameKind} {x : Str} {v : Value} : ∀ {P : List Str} {vs : List Value} {i : Nat} {m : Str → Option Value}, P.Nodup → P[i]? = some x → vs[i]? = some v → kindOf x ≠ some .local →
  bindC kindOf (P.zip vs) m x = some v
 | [], _, _, _, _, h, _, _ => by simp at h
 | _ :: _, [], _, _, _, _, h, _ => by simp at h
 | p :: P, w :: vs, 0, m, nd, h1, h2, hk => by
  simp at h1 h2; subst h1; subst h2
  show bindC kindOf ((p, w) :: P.zip vs) m p = _
  unfold bindC
  rw [WW fun v hv => (List.nodup_cons.mp nd).1 (List.of_mem_zip hv).1, if_neg hk]
  simp
 | p :: P, w :: vs, i + 1, m, nd, h1, h2, hk => by
  show bindC kindOf ((p, w) :: P.zip vs) m x = _
  unfold bindC
  exact WX (i := i) (List.nodup_cons.mp nd).2 (by simpa using h1) (by simpa using h2) hk
def start (N : List Str) (vs : List V) : St := vs.map some ++ List.replicate (N.length - vs.length) none
def cxOf (CX : CXT) (P : Program) (w : World) (K : PySem.W.Frag) (mg : Str → Option Value) (base : Heap) (N : List Str) (qual : Str) (scope : Scope) (f : Addr) (cd : Value) (A : Around) (outer : List Env) (s : Shared) (H : Hp) (E : XK) : Cx where
 prog := P
 w := w
 K := K
 mg := mg
 base := base
 A := A.deeper (envOfC qual scope s.heap.objs.size f cd)
 N := N
 s₀ := s
 H₀ := H
 env := envOfC qual scope s.heap.objs.size f cd
 outer := outer
 stack := envOfC qual scope s.heap.objs.size f cd :: outer
 ex := []
 calm := true
 fn := fun _ => true
 pn := []
 xe := fun e s' => wpAny (model P w) (A.deeper (envOfC qual scope s.heap.objs.size f cd)) (leaving (envOfC qual scope s.heap.objs.size f cd) e) (fun _ s'' => CX outer H s E e s'') (fun e' s'' => CX outer H s E e' s'') s'
theorem UZ {sc : Scope} {n : Nat} {x : Str} (h : sc.names.lookup x = some .cell) : ∃ c, (cellsFrom n sc.names []).lookup x = some c := by
 have q := PySem.W.cellsFrom_some sc.names n [] (.inl h)
 exact Option.isSome_iff_exists.mp q
theorem ZbJ {CX : CXT} {P : Program} {w : World} {K : PySem.W.Frag} {mg : Str → Option Value} {base : Heap} {N ps : List Str} {qual : Str} {scope : Scope} {f : Addr} {cd : Value} {A : Around} {outer : List Env} {s s1 : Shared} {H : Hp} {E : XK} {us : List Value} {vs : List V}
  (S : FnScope N ps scope) (hd : A.handled = none) (e0 : Env0 P w K mg base A outer s H) (hl : vs.length = ps.length) (r : Vals vs us)
  (x : InCallC s s.heap.objs.size (bindL (envOfC qual scope s.heap.objs.size f cd).kindOf (ps.zip us) fun _ => none) (cellsFrom (s.heap.objs.size + 1) scope.names []) (bindC (envOfC qual scope s.heap.objs.size f cd).kindOf (ps.zip us) fun _ => none) s1) :
  Inv (cxOf CX P w K mg base N qual scope f cd A outer s H E) [] (start N vs) H s1 := by
 have hpl : ps.length ≤ N.length := by have := congrArg List.length S.pre; rw [List.length_take] at this; omega
 obtain ⟨h1, tk, rfl, hk⟩ := x.done
 have noA : ∀ b : Addr, b ∉ (cxOf CX P w K mg base N qual scope f cd A outer s H E).ex := fun b z => absurd (show b ∈ ([] : List Addr) from z) (by simp)
 refine ⟨⟨e0.mod, S.kind, rfl, rfl, Nat.le_refl _, fun y z c h1 h2 => ?_, fun y hy => ?_, fun y c _ h => ?_, fun _ => hd, Around.frames_deeper e0.frames, .inr ⟨rfl, rfl⟩, fun b z => absurd z (noA b), e0.bs, e0.bsz, fun b _ _ => noA b, fun b z => absurd z (noA b), e0.funs, e0.frf⟩,
  rfl, e0.bare, Un.kept hk, ⟨_, x.toInCall.ns, fun i y v h1 h2 h3 => ?_⟩, fun y c h => ⟨_, x.cell y c h⟩, e0.hok.fresh (Nat.le_refl _), fun y c h => ?_, fun p hp => absurd (show p ∈ ([] : List (Addr × Obj)) from hp) (by simp), e0.hok.kept hk, ?_⟩
 ·exact name_of_addr x.apart (PySem.mem_of_lookup h1) (PySem.mem_of_lookup h2)
 ·have hy : scope.names.lookup y = some .cell ∨ scope.names.lookup y = some .free := hy
  rcases hy with hy | hy
  ·exact UZ hy
  ·exact absurd rfl (S.nofree _ (PySem.mem_of_lookup hy))
 ·exact Nat.le_of_lt (x.above y c (PySem.mem_of_lookup h))
 ·have hi : i < vs.length := by
   unfold start at h2
   by_cases hi : i < vs.length
   ·exact hi
   ·rw [List.getElem?_append_right (by simpa using hi)] at h2
    rw [List.getElem?_replicate] at h2
    split at h2 <;> cases h2
  have ha : vs[i]? = some v := by
   unfold start at h2
   rw [List.getElem?_append_left (by simpa using hi), List.getElem?_map] at h2
   cases e : vs[i]? with
   | none => rw [e] at h2; cases h2
   | some a => rw [e] at h2; cases h2; rfl
  obtain ⟨u, hu, rv⟩ := r.get ha
  have hp : ps[i]? = some y := by
   rw [← S.pre, List.getElem?_take_of_lt (by omega)]; exact h1
  have ndP : ps.Nodup := by rw [← S.pre]; exact S.nd.sublist (List.take_sublist _ _)
  refine ⟨u, rv, ?_⟩
  rcases S.par y (List.mem_of_getElem? hp) with k | k
  ·exact .inl ⟨k, WV ndP hp hu k⟩
  ·obtain ⟨c, e⟩ := UZ (n := s.heap.objs.size + 1) k
   refine .inr ⟨.inl k, c, e, ?_⟩
   have q := x.cell y c e
   rw [WX ndP hp hu (by show scope.names.lookup y ≠ _; rw [k]; decide)] at q
   exact q
 ·exact e0.hok.fresh (Nat.le_of_lt (x.above y c (PySem.mem_of_lookup h)))
 ·unfold start
  show _ = N.length
  rw [List.length_append, List.length_map, List.length_replicate]
  omega
theorem ZcE {CX : CXT} {P : Program} {w : World} {K : PySem.W.Frag} {mg : Str → Option Value} {base : Heap} {k : Nat} {f : Addr} {name qual : Str} {params : Arguments} {body : List Stmt} {scope : Scope} {dV kV doc pm cdv ct oc : Value} {an od : Option Addr}
    {osl : Array (Option Value)} {N ps : List Str} {sp : Sp} (lk : K.lookup f = some ⟨oc, od, .func (PySem.W.fnOf name qual params body scope dV kV doc pm an cdv ct), osl⟩) (hcd : PySem.W.codeIn K cdv qual = true) (S : FnScope N ps scope)
    (len : ∀ vs H Q E, sp vs H Q E → vs.length = ps.length)
    (hbody : ∀ (A : Around) (outer : List Env) (s : Shared) (H : Hp) (vs : List V) (Q : VK) (E : XK), Room k (A.deeper (envOfC qual scope s.heap.objs.size f cdv)) → sp vs H Q E →
      ∃ t, PSs (cxOf CX P w K mg base N qual scope f cdv A outer s H E) body t ∧ t { nx := fun _ H' => Q .non H', rt := Q } (start N vs) H) :
    FnOk P w K mg base CX (k + 1) f (PySem.W.fnOf name qual params body scope dV kV doc pm an cdv ct) ps sp := by
  refine ⟨len, fun A outer s H args us vs Q E hr e0 hb r hsp => ?_⟩
  have hl := len _ _ _ _ hsp
  have KX : K.In s.heap := e0.mod.kin.keeps fun b o e => (e0.bs b o e).1
  have lim : s.heap.NoLimit := e0.mod.nolimit.keeps fun b o e => (e0.bs b o e).1
  have hkind : ∀ y ∈ ps.zip us, scope.names.lookup y.1 = some .local ∨ (scope.names.lookup y.1 = some .cell ∧ ((cellsFrom (s.heap.objs.size + 1) scope.names []).lookup y.1).isSome = true) := fun ⟨n, v⟩ hy => by
    rcases S.par n (List.of_mem_zip hy).1 with q | q
    · exact .inl q
    · exact .inr ⟨q, PySem.W.cellsFrom_some _ _ _ (.inl q)⟩
  refine codeAny_call_function hr.depth (KX _ _ lk) rfl S.co S.gen rfl (PySem.W.codeRec_of KX hcd) (hb _ _ _ _ ?_)
  refine wpAny_newFunctionEnv_cells S.kind hkind fun env he s1 x => ?_
  subst he
  refine ⟨lim.keeps x.toInCall.keep, codeAny_func ?_⟩
  obtain ⟨t, ht, hq⟩ := hbody A outer s H vs Q E (hr.deeper _) hsp
  have I : Inv (cxOf CX P w K mg base N qual scope f cdv A outer s H E) [] (start N vs) H s1 := ZbJ S hr.hd e0 hl r x
  refine wpAny_mono (ht [] s1 (start N vs) H _ I hq) (fun fl s' hs => ?_) fun e s' hs => hs
  have fin : ∀ {σ' : St} {H' : Hp} {v : V} {u : Value}, Inv (cxOf CX P w K mg base N qual scope f cdv A outer s H E) [] σ' H' s' → RelV v u → Q v H' → CE outer P w H s Q u s' :=
    fun {σ' H' v u} J rv q => ⟨v, H', J.os, J.bare, J.base, J.hok, rv, q⟩
  cases fl with
  | ret u =>
    obtain ⟨v, σ', H', J, rv, q⟩ := hs
    exact fin J rv q
  | next =>
    obtain ⟨σ', H', J, q⟩ := hs
    exact fin (v := V.non) (u := Value.none) J rfl q
  | brk =>
    obtain ⟨_, _, _, q⟩ := hs
    exact False.elim q
  | cont =>
    obtain ⟨_, _, _, q⟩ := hs
    exact False.elim q
end L2
namespace L2
open PySem PySem.Spec PyProof.Rows
section
variable {X : Cx} {x : Str} {p pos : Pos} {e : Expr} {es : List Expr} {t : TA} {id T : String} {r : List V → Hp → VK → Prop}
def tCB (r : List V → Hp → VK → Prop) (t : TA) : TE := fun σ H Q => t σ H fun vs H1 => r vs H1 Q
theorem Zj (hc : CallR X (.builtin id) r) (hg : Gl X x) (hm : X.mg x = none) (hv : bootBuiltins x = some (.builtin id)) (ha : PA X (e :: es) t) (hn : x ≠ "__name__" := by decide) (hdb : (x == ("__debug__" : Str)) = false := by decide)
  (he : starEach (e :: es) X.env = (false, eval e X.env) :: starEach es X.env := by rfl) (hpl : (backTo pos (starEach es X.env)).any (·.1) = false := by rfl) : PE X (.Call (.Name x p) (e :: es) [] pos) (tCB r t) := by
 intro pins s σ H Q I h
 refine wpAny_Call_Name_kw (Yl I hg hm hv ?_ hn hdb)
 exact PyProof.Rows.callWith_builtin1 (thn (ha pos pins s σ H _ I h) fun us s1 ⟨vs, H1, I1, r1, q1⟩ => hc pins s1 σ H1 vs us Q I1 r1 q1) he hpl
theorem Yq (hc : CallR X (.type T) r) (hg : Gl X x) (hm : X.mg x = none) (hv : bootBuiltins x = some (.type T)) (ha : PA X (e :: es) t) (hn : x ≠ "__name__" := by decide) (hdb : (x == ("__debug__" : Str)) = false := by decide)
  (he : starEach (e :: es) X.env = (false, eval e X.env) :: starEach es X.env := by rfl) (hpl : (backTo pos (starEach es X.env)).any (·.1) = false := by rfl) : PE X (.Call (.Name x p) (e :: es) [] pos) (tCB r t) := by
 intro pins s σ H Q I h
 refine wpAny_Call_Name_kw (Yl I hg hm hv ?_ hn hdb)
 exact PyProof.Rows.callWith_type1 (thn (ha pos pins s σ H _ I h) fun us s1 ⟨vs, H1, I1, r1, q1⟩ => hc pins s1 σ H1 vs us Q I1 r1 q1) he hpl
end
end L2
namespace HT
open PySem PyProof.Rows
section
open PySem.SeqAt
open PySem.AutoSeq1 (wpAny_loadPart')
open PySem.MeetsSeq PySem.MeetsSeq2 PySem.MeetsSeq3
end
section
variable {prog : Program} {w : World} {A : Around} {E : Value → Shared → Prop} {s : Shared}
theorem cat_tup {t b : Addr} {vs ws : List Value} {Q : Value → Shared → Prop} (ht : IsTup s.heap t vs.toArray) (hb : IsTup s.heap b ws.toArray) (hv : vs ≠ [])
  (h1 : ws = [] → Q (.ref t) s) (h2 : ws ≠ [] → Q (.ref s.heap.objs.size) { s with heap := s.heap.push { cls := .type "tuple", data := .seq (vs ++ ws).toArray } })
  (hsz : vs.length + ws.length ≤ sizeLine) : wpAny (model prog w) A (binaryOp .Add (.ref t) (.ref b)) Q E s := by
 obtain ⟨⟨cls, dd, data, sl⟩, ho, hc, n, hd⟩ := id ht
 obtain ⟨⟨cls2, dd2, data2, sl2⟩, ho2, hc2, n2, hd2⟩ := id hb
 simp only at hc hd hc2 hd2
 subst hc hd hc2 hd2
 have e : vs.toArray ++ ws.toArray = (vs ++ ws).toArray := by simp
 by_cases hw : ws = []
 ·exact concat_meets ⟨_, ho, rfl⟩ ⟨_, ho2, rfl⟩ noFill_tuple_add seq_tuple_add PySem.F.slot_tuple_add PySem.F.entry_tuple_add (PySem.F.args_tuple_add_2 _ _)
   (tuple_addW1 t b vs.toArray ws.toArray n n2 dd dd2 sl sl2 (by simpa using hv) (by simp [hw])) ⟨ho, ho2, h1 hw⟩
 ·refine concat_meets ⟨_, ho, rfl⟩ ⟨_, ho2, rfl⟩ noFill_tuple_add seq_tuple_add PySem.F.slot_tuple_add PySem.F.entry_tuple_add (PySem.F.args_tuple_add_2 _ _)
   (tuple_addW2 t b vs.toArray ws.toArray n n2 dd dd2 sl sl2 (by simpa using hv) (by simpa using hw) (by rw [List.size_toArray, List.size_toArray]; exact hsz)) ⟨ho, ho2, ?_⟩
  rw [e]
  exact h2 hw
def sIx (n d : Nat) : Option Int → Nat
 | none => d
 | some v => if v < 0 then (v + (n : Int)).toNat else min v.toNat n
theorem sIx_none (n d : Nat) : sIx n d none = d := rfl
theorem sIx_nat (n d k : Nat) : sIx n d (some (k : Int)) = min k n := by
 show (if (k : Int) < 0 then ((k : Int) + (n : Int)).toNat else min (k : Int).toNat n) = min k n
 rw [if_neg (by omega), Int.toNat_natCast]
theorem ZdG (n d : Nat) (hd : d ≤ n) (o : Option Int) : sIx n d o ≤ n := by
 cases o with
 | none => exact hd
 | some v =>
  show (if v < 0 then (v + (n : Int)).toNat else min v.toNat n) ≤ n
  by_cases hv : v < 0
  ·rw [if_pos hv]; omega
  ·rw [if_neg hv]; exact Nat.min_le_right _ _
theorem clip_eq (v : Int) (n d : Nat) : (if v < 0 then max (v + (n : Int)) 0 else min v (n : Int)) = ((sIx n d (some v) : Nat) : Int) := by
 show (if v < 0 then max (v + (n : Int)) 0 else min v (n : Int)) = (((if v < 0 then (v + (n : Int)).toNat else min v.toNat n) : Nat) : Int)
 by_cases hv : v < 0
 ·simp only [if_pos hv]; omega
 ·simp only [if_neg hv]; omega
theorem Zav (lo hi : Option Int) (n : Nat) : Builtin.Slice.sliceAdjust lo hi 1 (n : Int) = (((sIx n 0 lo : Nat) : Int), ((sIx n n hi : Nat) : Int)) := by
 have h1 : ¬ ((1 : Int) < 0) := by omega
 unfold Builtin.Slice.sliceAdjust
 simp only [h1, if_false]
 refine Prod.ext ?_ ?_
 ·cases lo with
  | none => rfl
  | some v => exact clip_eq v n 0
 ·cases hi with
  | none => rfl
  | some v => exact clip_eq v n n
theorem Zaf (i j : Nat) : Builtin.Slice.slicePlaces (i : Int) (j : Int) 1 = j - i := by
 unfold Builtin.Slice.slicePlaces
 have h1 : (1 : Int) > 0 := by omega
 simp only [h1, if_true, Int.ediv_one]
 split <;> omega
theorem JK {v : Value} {o : Option Int} {Q : Option Int → Shared → Prop} (p : IsPart v o) (h : Q o s) : wpAny (model prog w) A (Builtin.Slice.slicePartIndex v) Q E s := by
 cases p with
 | none => exact slicePart_none h
 | int i t => exact slicePart_int h
theorem sliceApplied_gen {sl : Addr} {vl vu : Value} {lo hi : Option Int} {n : Nat} {Q : Int × Int × Nat → Shared → Prop} (hs : s.heap.IsSliceOf sl vl vu .none) (pl : IsPart vl lo) (pu : IsPart vu hi)
  (h : Q (((sIx n 0 lo : Nat) : Int), 1, sIx n n hi - sIx n 0 lo) s) : wpAny (model prog w) A (Builtin.Slice.sliceApplied (.ref sl) (pure (n : Int))) Q E s := by
 obtain ⟨os, hos, hcs, hds⟩ := id hs
 unfold Builtin.Slice.sliceApplied Builtin.Slice.sliceFields
 refine wpAny_bind (wpAny_bind (wpAny_field hos hds (x := vl) rfl (wpAny_bind (wpAny_field hos hds (x := vu) rfl (wpAny_bind (wpAny_field hos hds (x := .none) rfl (wpAny_pure ?_)))))))
 refine wpAny_bind (slicePart_none ?_)
 show wpAny _ _ (if ((1 : Int) == 0) = true then _ else _) _ _ s
 rw [if_neg (by decide)]
 refine wpAny_bind (JK pl (wpAny_bind (JK pu (wpAny_bind (wpAny_pure ?_)))))
 show wpAny _ _ (match Builtin.Slice.sliceAdjust lo hi 1 (n : Int) with | (lo, hi) => pure (lo, (1 : Int), Builtin.Slice.slicePlaces lo hi 1)) _ _ s
 rw [Zav lo hi n]
 show wpAny _ _ (pure (((sIx n 0 lo : Nat) : Int), (1 : Int), Builtin.Slice.slicePlaces ((sIx n 0 lo : Nat) : Int) ((sIx n n hi : Nat) : Int) 1)) _ _ s
 rw [Zaf]
 exact wpAny_pure h
theorem Zb6 (xs : Array Value) (i k : Nat) : ((List.range k).filterMap fun (m : Nat) => xs[((i : Int) + (m : Int) * 1).toNat]?).toArray = ((xs.toList.drop i).take k).toArray := by
 have e : (fun (m : Nat) => xs[((i : Int) + (m : Int) * 1).toNat]?) = fun m => xs[i + m]? := by
  funext m
  have : ((i : Int) + (m : Int) * 1).toNat = i + m := by omega
  rw [this]
 rw [e]
 have := pick_run xs i k
 rw [List.filterMap_map] at this
 have e2 : ((fun x => xs[x]?) ∘ fun x => i + x) = fun m => xs[i + m]? := rfl
 rw [e2] at this
 rw [this]
theorem getItem_tuple_cut {t sl : Addr} {items : Array Value} {vl vu : Value} {lo hi : Option Int} {Q : Value → Shared → Prop} (ht : IsTup s.heap t items) (hs : s.heap.IsSliceOf sl vl vu .none) (pl : IsPart vl lo) (pu : IsPart vu hi)
  (hw : ¬ (sIx items.size 0 lo = 0 ∧ sIx items.size items.size hi = items.size))
  (h : Q (.ref s.heap.objs.size) { s with heap := s.heap.push { cls := .type "tuple", data := .seq ((items.toList.drop (sIx items.size 0 lo)).take (sIx items.size items.size hi - sIx items.size 0 lo)).toArray } })
  (hsz : items.size ≤ sizeLine) : wpAny (model prog w) A (getItem (.ref t) (.ref sl)) Q E s := by
 have htake : sizeOk (.seq ((items.toList.drop (sIx items.size 0 lo)).take (sIx items.size items.size hi - sIx items.size 0 lo)).toArray) := by
  show ((items.toList.drop (sIx items.size 0 lo)).take (sIx items.size items.size hi - sIx items.size 0 lo)).toArray.size ≤ sizeLine
  rw [List.size_toArray, List.length_take, List.length_drop, Array.length_toList]
  omega
 have hj : sIx items.size items.size hi ≤ items.size := ZdG _ _ (Nat.le_refl _) hi
 obtain ⟨os, hos, hcs, hds⟩ := id hs
 have hTs : s.TypeIs (.ref sl) "slice" := ⟨os, hos, hcs⟩
 unfold getItem
 try with_reducible refine wpAny_holding ?_
 first | refine wpAny_bind (wpAny_pure ?_) | skip
 refine wpAny_bind (wpAny_sequenceKey ht.typeIs (by decide) ?_)
 refine wpAny_bind (wpAny_callSpecial?_slot (name := Str.ofString "__getitem__") ht.typeIs PyProof.Rows.slot_tuple_getitem
  (wpAny_call_entry PyProof.Rows.slot_tuple_getitem ht.typeIs entry_tuple_getitem ?_ (args_tuple_getitem _ _)))
 show wpAny _ _ (Builtin.Tuple.tupleItemsOf (.ref t) >>= _) _ _ s
 refine wpAny_bind (tupleItemsOf_ ht ?_)
 refine wpAny_bind (wpAny_typeOf hTs ?_)
 rw [if_pos (by decide)]
 refine wpAny_bind (sliceApplied_gen hs pl pu ?_)
 have hno : ¬ ((((sIx items.size 0 lo : Nat) : Int) == 0 && (1 : Int) == 1 && (sIx items.size items.size hi - sIx items.size 0 lo) == items.size) = true) := by
  intro q
  rw [Bool.and_eq_true, Bool.and_eq_true] at q
  have q1 : ((sIx items.size 0 lo : Nat) : Int) = 0 := eq_of_beq q.1.1
  have q2 : sIx items.size items.size hi - sIx items.size 0 lo = items.size := eq_of_beq q.2
  exact hw ⟨by omega, by omega⟩
 show wpAny _ _ (if (((sIx items.size 0 lo : Nat) : Int) == 0 && (1 : Int) == 1 && (sIx items.size items.size hi - sIx items.size 0 lo) == items.size) = true then _ else _) _ _ s
 rw [if_neg hno, Zb6]
 first
  | exact wpAny_bind (m := Builtin.Tuple.tupleExact _) (wpAny_newObj_type (wpAny_pure ⟨_, rfl, wpAny_pure h⟩) htake)
  | exact wpAny_bind (m := Builtin.Tuple.tupleExact _) (wpAny_newObj_type (wpAny_bind (wpAny_pure (wpAny_pure ⟨_, rfl, wpAny_pure h⟩))) htake)
  | exact wpAny_bind (wpAny_bind (m := Builtin.Tuple.tupleExact _) (wpAny_newObj_type (wpAny_pure (wpAny_pure ⟨_, rfl, wpAny_pure h⟩)) htake))
  | exact wpAny_bind (wpAny_bind (m := Builtin.Tuple.tupleExact _) (wpAny_newObj_type (wpAny_pure ⟨_, rfl, wpAny_pure h⟩) htake))
end
end HT
namespace L2
open PySem PySem.Spec PyProof.Rows
abbrev TO := St → Hp → (Option Int → Hp → Prop) → Prop
def PO (X : Cx) (e : Option Expr) (t : TO) : Prop :=
 ∀ (pins : List (Addr × Obj)) (s : Shared) (σ : St) (H : Hp) (Q : Option Int → Hp → Prop), Inv X pins σ H s → t σ H Q →
  wpAny (model X.prog X.w) X.A (evalPart e X.env) (fun u s' => ∃ o H', Inv X pins σ H' s' ∧ IsPart u o ∧ Q o H') X.xe s
def tNoPart : TO := fun _ H Q => Q none H
def tPart (t : TE) : TO := fun σ H Q => t σ H fun x H1 => ∃ i, x = .int i ∧ Q (some i) H1
theorem Wd {ns : List Int} : ∀ {us : List Value}, Vals (ns.map V.int) us → IntsAre us ns := by
 induction ns with
 | nil => intro us r; rw [List.map_nil] at r; cases r; exact .nil
 | cons n ns ih =>
  intro us r
  rw [List.map_cons] at r
  cases r with
  | cons r1 r2 =>
   obtain ⟨t, e⟩ := r1
   subst e
   exact .cons n t (ih r2)
section
variable {X : Cx} {e : Expr} {te : TE} {lo hi : Option Expr} {tl th : TO} {pos p2 : Pos}
theorem Yh : PO X none tNoPart := by
 intro pins s σ H Q I h
 rw [evalPart_none]
 exact wpAny_pure ⟨none, H, I, .none, h⟩
theorem Z5 (h : PE X e te) : PO X (some e) (tPart te) := by
 intro pins s σ H Q I hw
 rw [evalPart_some]
 refine thn (h pins s σ H _ I hw) fun u s1 ⟨x, H1, I1, r1, q1⟩ => ?_
 obtain ⟨i, rfl, q⟩ := q1
 obtain ⟨t, rfl⟩ := r1
 exact ⟨some i, H1, I1, .int i t, q⟩
def SlR (X : Cx) (r : V → Option Int → Option Int → Hp → VK → Prop) : Prop :=
 ∀ (pins : List (Addr × Obj)) (s : Shared) (σ : St) (H : Hp) (x : V) (v vl vu : Value) (lo hi : Option Int) (sl : Addr) (Q : VK), Inv X pins σ H s → RelV x v → s.heap.IsSliceOf sl vl vu .none → IsPart vl lo → IsPart vu hi → r x lo hi H Q →
  ∃ T id, typeLookup (.type T) "__getitem__" = pure (some (.builtin id)) ∧ s.TypeIs v T ∧ wpAny (model X.prog X.w) X.A (getItem v (.ref sl)) (EP X pins σ Q) X.xe s
def tSl (r : V → Option Int → Option Int → Hp → VK → Prop) (te : TE) (tl th : TO) : TE := fun σ H Q => te σ H fun x H1 => tl σ H1 fun l H2 => th σ H2 fun u H3 => r x l u H3 Q
theorem Z1 {r : V → Option Int → Option Int → Hp → VK → Prop} (hr : SlR X r) (he : PE X e te) (hl : PO X lo tl) (hu : PO X hi th) : PE X (.Subscript e (.Slice lo hi none p2) pos) (tSl r te tl th) := by
 intro pins s σ H Q I h
 refine Subscript_ (thn (he pins s σ H _ I h) fun v s1 ⟨x, H1, I1, r1, q1⟩ => ?_)
 refine wpAny_Slice (thn (hl pins s1 σ H1 _ I1 q1) fun vl s2 ⟨l, H2, I2, pl, q2⟩ => thn (hu pins s2 σ H2 _ I2 q2) fun vu s3 ⟨u, H3, I3, pu, q3⟩ => ?_)
 rw [evalPart_none]
 refine wpAny_pure ?_
 have I4 : Inv X pins σ H3 { s3 with heap := s3.heap.push { cls := .type "slice", data := .fields #[vl, vu, .none] } } := I3.kept (t' := s3.toks) fun b ob q => Heap.get?_push_of_some _ q
 obtain ⟨T, id, hT, ht, hg⟩ := hr pins { s3 with heap := s3.heap.push { cls := .type "slice", data := .fields #[vl, vu, .none] } } σ H3 x v vl vu l u s3.heap.objs.size Q I4 r1 (Heap.IsSliceOf.new ..) pl pu q3
 show wpAny (model X.prog X.w) X.A (subscriptTail e (.Slice lo hi none p2) v (.ref s3.heap.objs.size)) (EP X pins σ Q) X.xe { s3 with heap := s3.heap.push { cls := .type "slice", data := .fields #[vl, vu, .none] } }
 exact tail_any (ops := [.ref s3.heap.objs.size, v]) ht hT hg (by with_unfolding_all rfl)
def cutV (xs : List V) (lo hi : Option Int) : List V := (xs.drop (HT.sIx xs.length 0 lo)).take (HT.sIx xs.length xs.length hi - HT.sIx xs.length 0 lo)
theorem Z9 (xs : List V) (lo hi : Option Int) : (cutV xs lo hi).length ≤ xs.length := by
 unfold cutV
 rw [List.length_take, List.length_drop]
 omega
def rSlT (K : PySem.W.Frag) : V → Option Int → Option Int → Hp → VK → Prop := fun x lo hi H Q => ∃ a xs, x = .ref a ∧ SqT K H a xs ∧
 ¬ (HT.sIx xs.length 0 lo = 0 ∧ HT.sIx xs.length xs.length hi = xs.length) ∧ ∀ p, H p = none → Q (.ref p) (upd H p (.tup (cutV xs lo hi)))
theorem ZdE : SlR X (rSlT X.K) := by
 intro pins s σ H x v vl vu lo hi sl Q I rx hs pl pu h
 obtain ⟨a, xs, rfl, hx, hw, q⟩ := h
 cases rx
 obtain ⟨its, r, ht, hz⟩ := I.tuple hx
 have hlen : its.toArray.size = xs.length := by rw [List.size_toArray]; exact r.length.symm
 refine ⟨"tuple", _, PyProof.Rows.slot_tuple_getitem.lookup, ht.typeIs, ?_⟩
 refine HT.getItem_tuple_cut ht hs pl pu (by rw [hlen]; exact hw) ?_ (by rw [hlen]; exact hz)
 rw [hlen]
 refine ⟨.ref s.heap.objs.size, _, I.laid (t' := s.toks) (o := .tup (cutV xs lo hi)) (fun b ob q => Heap.get?_push_of_some _ q) (Nat.le_refl _) ?_, rfl, q _ (I.hok.fresh (Nat.le_refl _))⟩
 exact ⟨Nat.le_trans (Z9 xs lo hi) hz, _, (r.drop (HT.sIx xs.length 0 lo)).take (HT.sIx xs.length xs.length hi - HT.sIx xs.length 0 lo), IsTup.new _ _, _, Heap.get?_push_size _ rfl, rfl⟩
def rCatT (K : PySem.W.Frag) : R2 := fun x y H Q => ∃ a b xs ys, x = .ref a ∧ y = .ref b ∧ SqT K H a xs ∧ SqT K H b ys ∧ xs ≠ [] ∧ xs.length + ys.length ≤ sizeLine ∧
 (ys = [] → Q (.ref a) H) ∧ (ys ≠ [] → ∀ p, H p = none → Q (.ref p) (upd H p (.tup (xs ++ ys))))
theorem Vals.nil_iff {xs : List V} {us : List Value} (r : Vals xs us) : us = [] ↔ xs = [] := by
 cases r with
 | nil => simp
 | cons _ _ => simp
theorem Zda : OpR X (binaryOp .Add) (rCatT X.K) := by
 intro pins s σ H x y v u Q I rx ry h
 obtain ⟨a, b, xs, ys, rfl, rfl, ha, hb, hx, hz, q1, q2⟩ := h
 cases rx
 cases ry
 obtain ⟨its, r1, p1, _⟩ := I.tuple ha
 obtain ⟨its2, r2, p2, _⟩ := I.tuple hb
 refine HT.cat_tup p1 p2 (fun z => hx (r1.nil_iff.mp z)) (fun z => ⟨.ref a, H, I, rfl, q1 (r2.nil_iff.mp z)⟩) (fun z => ?_) (by rw [← r1.length, ← r2.length]; exact hz)
 refine ⟨.ref s.heap.objs.size, _, I.laid (t' := s.toks) (o := .tup (xs ++ ys)) (fun b ob q => Heap.get?_push_of_some _ q) (Nat.le_refl _) ?_, rfl, q2 (fun w => z (r2.nil_iff.mpr w)) _ (I.hok.fresh (Nat.le_refl _))⟩
 exact ⟨by rw [List.length_append]; exact hz, _, r1.append r2, IsTup.new _ _, _, Heap.get?_push_size _ rfl, rfl⟩
end
end L2
namespace L2
open PySem PySem.Spec PyProof.Rows
def ixN (n : Nat) (i : Int) : Option Nat := if 0 ≤ i then (if i < n then some i.toNat else none) else if -(n : Int) ≤ i then some (i + n).toNat else none
def atI {α : Type} (xs : List α) (i : Int) : Option α := (ixN xs.length i).bind fun j => xs[j]?
theorem ZaV {n : Nat} {i : Int} {j : Nat} (h : ixN n i = some j) : seqIndex? i n = some j ∧ j < n ∧ -(n : Int) ≤ i ∧ i < n := by
 unfold ixN at h
 by_cases h0 : 0 ≤ i
 ·rw [if_pos h0] at h
  by_cases h1 : i < n
  ·rw [if_pos h1] at h
   have e : i.toNat = j := Option.some.inj h
   exact ⟨by rw [seqIndex_of h0 h1, e], by omega, by omega, h1⟩
  ·rw [if_neg h1] at h; cases h
 ·rw [if_neg h0] at h
  by_cases h1 : -(n : Int) ≤ i
  ·rw [if_pos h1] at h
   have e : (i + n).toNat = j := Option.some.inj h
   exact ⟨by rw [seqIndex_neg (by omega) h1, e], by omega, h1, by omega⟩
  ·rw [if_neg h1] at h; cases h
theorem Za8 {α : Type} {xs : List α} {i : Int} {v : α} (h : atI xs i = some v) : ∃ j, seqIndex? i xs.length = some j ∧ xs[j]? = some v ∧ j < xs.length ∧ -(xs.length : Int) ≤ i ∧ i < xs.length := by
 unfold atI at h
 cases e : ixN xs.length i with
 | none => rw [e] at h; cases h
 | some j =>
  rw [e] at h
  obtain ⟨h1, h2, h3, h4⟩ := ZaV e
  exact ⟨j, h1, h, h2, h3, h4⟩
theorem YV {α : Type} {xs : List α} {j : Nat} {v : α} (h : xs[j]? = some v) : atI xs (j : Int) = some v := by
 have hj : j < xs.length := (List.getElem?_eq_some_iff.mp h).1
 have e : ixN xs.length (j : Int) = some j := by
  unfold ixN
  rw [if_pos (by omega), if_pos (by omega)]; simp
 unfold atI; rw [e]; exact h
def PlainIx (b : Expr) : Prop := ∀ o i, subscripted b false o i = operate [o, i] (getItem o i)
def IxR (X : Cx) (r : R2) : Prop :=
 ∀ (value slice : Expr) (pins : List (Addr × Obj)) (s : Shared) (σ : St) (H : Hp) (x y : V) (v u : Value) (Q : VK), Inv X pins σ H s → RelV x v → RelV y u → r x y H Q →
  subscripted slice false v u = operate [v, u] (getItem v u) → wpAny (model X.prog X.w) X.A (subscriptTail value slice v u) (EP X pins σ Q) X.xe s
def MtR (X : Cx) (id : String) (r : V → List V → Hp → VK → Prop) : Prop :=
 ∀ (pins : List (Addr × Obj)) (s : Shared) (σ : St) (H : Hp) (x : V) (xs : List V) (v : Value) (us : List Value) (Q : VK), Inv X pins σ H s → RelV x v → Vals xs us → r x xs H Q →
  wpAny (model X.prog X.w) X.A (call (.builtin id) (v :: us)) (EP X pins σ Q) X.xe s
section
variable {X : Cx} {a b : Expr} {ta tb : TE} {pos : Pos}
theorem ZP {r : R2} (hr : IxR X r) (ha : PE X a ta) (hb : PE X b tb) (hs : PlainIx b) : PE X (.Subscript a b pos) (tOp r ta tb) := by
 intro pins s σ H Q I h
 exact Subscript_ (binT ha hb I h fun v u s2 x y H2 I2 rx ry q => hr a b pins s2 σ H2 x y v u Q I2 rx ry q (hs _ _))
def rIxL (K : PySem.W.Frag) : R2 := fun x y H Q => ∃ p xs i v, x = .ref p ∧ y = .int i ∧ SqL K H p xs ∧ atI xs i = some v ∧ Q v H
def rIxT (K : PySem.W.Frag) : R2 := fun x y H Q => ∃ p xs i v, x = .ref p ∧ y = .int i ∧ SqT K H p xs ∧ atI xs i = some v ∧ Q v H
theorem ZK : IxR X (rIxL X.K) := by
 intro value slice pins s σ H x y v u Q I rx ry h hs
 obtain ⟨p, xs, i, z, rfl, rfl, hq, he, q⟩ := h
 cases rx
 obtain ⟨t, rfl⟩ := ry
 obtain ⟨its, r, pl, hz⟩ := I.list hq
 obtain ⟨j, h1, h2, h3, h4, h5⟩ := Za8 he
 obtain ⟨w, ew, rw'⟩ := r.get h2
 have hl := r.length
 have hn := line63
 have fin : EP X pins σ Q w s := ⟨z, H, I, rw', q⟩
 by_cases h0 : 0 ≤ i
 ·have hj : i.toNat = j := by
   rw [seqIndex_of h0 h5] at h1
   exact Option.some.inj h1
  exact item_listR pl.isList h0 (by omega) (by rw [hj]; simpa using ew) fin hs
 ·have hj : (i + (its.toArray.size : Int)).toNat = j := by
   rw [seqIndex_neg (by omega) h4] at h1
   rw [List.size_toArray, ← hl]
   exact Option.some.inj h1
  exact subscriptTail_builtinR (x := w) pl.isList.typeIs slot_list_getitem.lookup
   (wpAny_getItem_list_neg (Q := fun r s' => r = w ∧ EP X pins σ Q r s') pl.isList (by omega) (by rw [List.size_toArray] <;> omega) (by omega) (by rw [hj]; simpa using ew) ⟨rfl, fin⟩) hs
theorem Y4 : IxR X (rIxT X.K) := by
 intro value slice pins s σ H x y v u Q I rx ry h hs
 obtain ⟨p, xs, i, z, rfl, rfl, hq, he, q⟩ := h
 cases rx
 obtain ⟨t, rfl⟩ := ry
 obtain ⟨its, r, pl, hz⟩ := I.tuple hq
 obtain ⟨j, h1, h2, h3, h4, h5⟩ := Za8 he
 obtain ⟨w, ew, rw'⟩ := r.get h2
 have hl := r.length
 have hn := line63
 have fin : EP X pins σ Q w s := ⟨z, H, I, rw', q⟩
 exact subscriptTail_builtinR (x := w) pl.typeIs slot_tuple_getitem.lookup
  (getItem_tuple (j := j) (Q := fun r s' => r = w ∧ EP X pins σ Q r s') pl (by omega) (by omega) (by rw [List.size_toArray, ← hl]; exact h1) (by simpa using ew) ⟨rfl, fin⟩) hs
theorem Zak (its : List Value) (n j : Nat) (u : Value) : Obj.mapSeq (·.setIfInBounds j u) { cls := .type "list", data := .seq its.toArray n } = { cls := .type "list", data := .seq (its.set j u).toArray n } := by
 simp [Obj.mapSeq]
theorem Inv.lst {pins : List (Addr × Obj)} {σ : St} {H : Hp} {s : Shared} {p : Addr} {xs : List V} (I : Inv X pins σ H s) (h : H p = some (.lst xs)) :
  ∃ (its : List Value) (n : Nat), Vals xs its ∧ s.heap.get? p = some { cls := .type "list", data := .seq its.toArray n } ∧ xs.length ≤ sizeLine := by
 obtain ⟨z, its, n, r, e⟩ := I.hok p _ h
 exact ⟨its, n, r, e, z⟩
theorem Inv.lstUpd {pins : List (Addr × Obj)} {σ : St} {H : Hp} {s : Shared} {p : Addr} {xs ys : List V} {its its' : List Value} {n n' : Nat} {f : Obj → Obj} (I : Inv X pins σ H s) (h : H p = some (.lst xs))
  (ho : s.heap.get? p = some { cls := .type "list", data := .seq its.toArray n }) (hf : f { cls := .type "list", data := .seq its.toArray n } = { cls := .type "list", data := .seq its'.toArray n' }) (r : Vals ys its') (hz : ys.length ≤ sizeLine) (t : Nat) :
  Inv X pins σ (upd H p (.lst ys)) { s with heap := s.heap.update p f, toks := t } := by
 have e : (s.heap.update p f).get? p = some { cls := .type "list", data := .seq its'.toArray n' } := by
  rw [Heap.get?_update_self f ho (by rw [hf] <;> rfl), hf]
 refine I.write (x := p) (e := p) (by rw [h]; trivial) (.inl rfl) (fun b u hb q => (Heap.get?_update_other _ _ (Ne.symm hb)).trans q) ⟨_, e⟩ ?_
 exact ⟨hz, its', n', r, e⟩
def rSetL : V → V → V → Hp → (Hp → Prop) → Prop := fun o i v H Q => ∃ p xs k j, o = .ref p ∧ i = .int k ∧ H p = some (.lst xs) ∧ ixN xs.length k = some j ∧ Q (upd H p (.lst (xs.set j v)))
theorem YA : PSet X rSetL := by
 intro pins s σ H o i v ov iv u Q I ro ri rv h
 obtain ⟨p, xs, k, j, rfl, rfl, hp, hj, q⟩ := h
 cases ro
 obtain ⟨t, rfl⟩ := ri
 obtain ⟨its, n, r, ho, hz⟩ := I.lst hp
 obtain ⟨h1, h2, h3, h4⟩ := ZaV hj
 have hl := r.length
 have hn := line63
 have I' : Inv X pins σ (upd H p (.lst (xs.set j v))) { s with heap := s.heap.update p (Obj.mapSeq (·.setIfInBounds j u)) } :=
  I.lstUpd hp ho (Zak its n j u) (r.set rv j) (by rw [List.length_set]; exact hz) s.toks
 by_cases h0 : 0 ≤ k
 ·have hk : k.toNat = j := by
   rw [seqIndex_of h0 h4] at h1
   exact Option.some.inj h1
  exact PySem.W.ki_setAt ho h0 (by omega) (by rw [List.size_toArray, ← hl]; exact h4) (by rw [hk]; exact ⟨_, I', q⟩)
 ·have hk : (k + (its.toArray.size : Int)).toNat = j := by
   rw [seqIndex_neg (by omega) h3] at h1
   rw [List.size_toArray, ← hl]
   exact Option.some.inj h1
  exact PySem.W.ki_setBack ho (by omega) (by rw [List.size_toArray, ← hl]; exact h3) (by omega) (by rw [hk]; exact ⟨_, I', q⟩)
def flatV : V → Bool
 | .non => true
 | .bl _ => true
 | .int _ => true
 | .str _ => true
 | _ => false
def eqV : V → V → Bool
 | .non, .non => true
 | .bl a, .bl b => a == b
 | .bl a, .int b => (if a then 1 else 0) == b
 | .int a, .bl b => a == (if b then 1 else 0)
 | .int a, .int b => a == b
 | .str a, .str b => a == b
 | _, _ => false
theorem Zd9 {A : Around} {s : Shared} {y x : V} {u v : Value} (ry : RelV y u) (rx : RelV x v) (fy : flatV y = true) (fx : flatV x = true) : SeqAt.EqAt A s u v (eqV y x) := by
 cases y with
 | non =>
  cases ry
  cases x with
  | non => cases rx; exact SeqAt.EqAt.same _
  | bl b => cases rx; exact SeqAt.EqAt.none_bool b
  | int b => obtain ⟨t, rfl⟩ := rx; exact SeqAt.EqAt.none_int b t
  | str b => obtain ⟨t, rfl⟩ := rx; exact SeqAt.EqAt.none_str b t
  | _ => exact absurd (show false = true from fx) Bool.false_ne_true
 | bl a =>
  cases ry
  cases x with
  | non => cases rx; exact SeqAt.EqAt.bool_none a
  | bl b => cases rx; exact SeqAt.EqAt.bool_bool a b
  | int b => obtain ⟨t, rfl⟩ := rx; exact SeqAt.EqAt.bool_int a b t
  | str b => obtain ⟨t, rfl⟩ := rx; exact SeqAt.EqAt.bool_str a b t
  | _ => exact absurd (show false = true from fx) Bool.false_ne_true
 | int a =>
  obtain ⟨t', rfl⟩ := ry
  cases x with
  | non => cases rx; exact SeqAt.EqAt.int_none a t'
  | bl b => cases rx; exact SeqAt.EqAt.int_bool a t' b
  | int b => obtain ⟨t, rfl⟩ := rx; exact SeqAt.EqAt.int_int a t' b t
  | str b => obtain ⟨t, rfl⟩ := rx; exact SeqAt.EqAt.int_str a t' b t
  | _ => exact absurd (show false = true from fx) Bool.false_ne_true
 | str a =>
  obtain ⟨t', rfl⟩ := ry
  cases x with
  | non => cases rx; exact SeqAt.EqAt.str_none a t'
  | bl b => cases rx; exact SeqAt.EqAt.str_bool a t' b
  | int b => obtain ⟨t, rfl⟩ := rx; exact SeqAt.EqAt.str_int a t' b t
  | str b => obtain ⟨t, rfl⟩ := rx; exact SeqAt.EqAt.str_str a t' b t
  | _ => exact absurd (show false = true from fx) Bool.false_ne_true
 | _ => exact absurd (show false = true from fy) Bool.false_ne_true
def eqU (x : V) (u : Value) : Bool := match u with
 | .none => eqV .non x
 | .bool b => eqV (.bl b) x
 | .int i _ => eqV (.int i) x
 | .str z _ => eqV (.str z) x
 | _ => false
theorem Uc {x y : V} {u : Value} (r : RelV y u) (f : flatV y = true) : eqU x u = eqV y x := by
 cases y with
 | non => cases r; rfl
 | bl b => cases r; rfl
 | int i => obtain ⟨t, rfl⟩ := r; rfl
 | str z => obtain ⟨t, rfl⟩ := r; rfl
 | _ => exact absurd (show false = true from f) Bool.false_ne_true
theorem Uf {x : V} : ∀ {xs : List V} {us : List Value}, Vals xs us → xs.all flatV = true → us.any (eqU x) = xs.any fun y => eqV y x
 | _, _, .nil, _ => rfl
 | y :: xs, u :: us, .cons r t, f => by
  rw [List.all_cons, Bool.and_eq_true] at f
  rw [List.any_cons, List.any_cons, Uc r f.1, Uf t f.2]
theorem YI {A : Around} {s : Shared} {x : V} {v : Value} (rx : RelV x v) (fx : flatV x = true) : ∀ {xs : List V} {us : List Value}, Vals xs us → xs.all flatV = true → ∀ u ∈ us, SeqAt.EqAt A s u v (eqU x u)
 | _, _, .nil, _ => fun u hu => by cases hu
 | y :: xs, u :: us, .cons r t, f => fun u' hu => by
  rw [List.all_cons, Bool.and_eq_true] at f
  rcases List.mem_cons.mp hu with rfl | hu
  ·rw [Uc r f.1]; exact Zd9 r rx f.1 fx
  ·exact YI rx fx t f.2 u' hu
def inV (x : V) (xs : List V) : Bool := xs.any fun y => eqV y x
def rIn (K : PySem.W.Frag) (neg : Bool) : R2 := fun x y H Q => ∃ p xs, y = .ref p ∧ (SqL K H p xs ∨ SqT K H p xs) ∧ flatV x = true ∧ xs.all flatV = true ∧ Q (.bl (if neg then !inV x xs else inV x xs)) H
theorem Y9 : OpR X (compareOp .NotIn) (rIn X.K true) := by
 intro pins s σ H x y v u Q I rx ry h
 obtain ⟨p, xs, rfl, hq, fx, fs, q⟩ := h
 cases ry
 rcases hq with hq | hq
 ·obtain ⟨its, r, pl, hz⟩ := I.list hq
  refine SeqAt.notIn_listAt (eqU x) pl.isList (fun w hw => YI rx fx r fs w (by simpa using hw)) ⟨.bl _, H, I, rfl, ?_⟩
  rw [show its.toArray.any (eqU x) = its.any (eqU x) by simp, Uf r fs]
  exact q
 ·obtain ⟨its, r, pl, hz⟩ := I.tuple hq
  refine SeqAt.notIn_tupleAt (eqU x) pl (fun w hw => YI rx fx r fs w (by simpa using hw)) ⟨.bl _, H, I, rfl, ?_⟩
  rw [show its.toArray.any (eqU x) = its.any (eqU x) by simp, Uf r fs]
  exact q
theorem Zp : CallR X (.builtin "len") (fun xs H Q => ∃ p ys, xs = [.ref p] ∧ (SqL X.K H p ys ∨ SqT X.K H p ys) ∧ Q (.int ys.length) H) := by
 intro pins s σ H xs us Q I r h
 obtain ⟨p, ys, rfl, hq, q⟩ := h
 obtain ⟨u, rfl, rx⟩ := vals1 r
 cases rx
 have hn := line63
 rcases hq with hq | hq
 ·obtain ⟨its, r', pl, hz⟩ := I.list hq
  have hlen := r'.length
  exact Calls.call_len_list pl.isList (by simp only [List.size_toArray] <;> omega) ⟨.int ys.length, H, I.tok _, ⟨s.toks + 1, by rw [List.size_toArray, hlen]⟩, q⟩
 ·obtain ⟨its, r', pl, hz⟩ := I.tuple hq
  have hlen := r'.length
  exact len_tuple pl (by simp only [List.size_toArray] <;> omega) ⟨.int ys.length, H, I.tok _, ⟨s.toks + 1, by rw [List.size_toArray, hlen]⟩, q⟩
theorem Ud : CallR X (.type "list") (fun xs H Q => ∃ p ys, xs = [.ref p] ∧ (SqL X.K H p ys ∨ SqT X.K H p ys) ∧ ∀ l, H l = none → Q (.ref l) (upd H l (.lst ys))) := by
 intro pins s σ H xs us Q I r h
 obtain ⟨p, ys, rfl, hq, q⟩ := h
 obtain ⟨u, rfl, rx⟩ := vals1 r
 cases rx
 have fin : ∀ (its : List Value), Vals ys its → ys.length ≤ sizeLine → ∀ (h' : Heap) (c' : Nat), (∀ b o', s.heap.get? b = some o' → h'.get? b = some o') →
   h'.get? s.heap.objs.size = some { cls := .type "list", dict := none, data := .seq its.toArray c', slots := #[] } → EP X pins σ Q (.ref s.heap.objs.size) { s with heap := h' } := fun its r' hz h' c' kp e =>
  ⟨.ref s.heap.objs.size, _, I.laid (t' := s.toks) kp (Nat.le_refl _) (show ObjOk X.prog X.w _ h' _ (.lst ys) from ⟨hz, its, c', r', e⟩), rfl, q _ (I.hok.fresh (Nat.le_refl _))⟩
 rcases hq with hq | hq
 ·obtain ⟨its, r', pl, hz⟩ := I.list hq
  have hlen := r'.length
  obtain ⟨o, ho, hc, n, hd⟩ := pl.isList
  exact call_list_seq p (.inl rfl) ho hc hd (fun h' c' kp e => fin its r' hz h' c' kp e) (by simp only [List.size_toArray] <;> omega)
 ·obtain ⟨its, r', pl, hz⟩ := I.tuple hq
  have hlen := r'.length
  obtain ⟨o, ho, hc, n, hd⟩ := pl
  exact call_list_seq p (.inr rfl) ho hc hd (fun h' c' kp e => fin its r' hz h' c' kp e) (by simp only [List.size_toArray] <;> omega)
theorem Wp : CallR X (.type "tuple") (fun xs H Q => ∃ p ys, xs = [.ref p] ∧ ((SqL X.K H p ys ∧ ∀ l, H l = none → Q (.ref l) (upd H l (.tup ys))) ∨ (SqT X.K H p ys ∧ Q (.ref p) H))) := by
 intro pins s σ H xs us Q I r h
 obtain ⟨p, ys, rfl, h⟩ := h
 obtain ⟨u, rfl, rx⟩ := vals1 r
 cases rx
 rcases h with ⟨hq, q⟩ | ⟨hq, q⟩
 ·obtain ⟨its, r', pl, hz⟩ := I.list hq
  have hlen := r'.length
  refine call_tuple_list pl.isList (fun h' kp => ?_) (by simp only [List.size_toArray] <;> omega)
  have I1 : Inv X pins σ H { s with heap := h' } := I.kept (t' := s.toks) kp
  have I2 : Inv X pins σ (upd H h'.objs.size (.tup ys)) { s with heap := h'.push { cls := .type "tuple", data := .seq its.toArray } } :=
   I1.laid (t' := s.toks) (fun b o e => Heap.get?_push_of_some _ e) (Nat.le_refl _) (show ObjOk X.prog X.w _ _ _ (.tup ys) from ⟨hz, its, r', IsTup.new _ _, _, Heap.get?_push_size _ rfl, rfl⟩)
  exact ⟨.ref h'.objs.size, _, I2, rfl, q _ (I1.hok.fresh (Nat.le_refl _))⟩
 ·obtain ⟨its, r', pl, hz⟩ := I.tuple hq
  exact call_tuple_same pl ⟨.ref p, H, I, rfl, q⟩
def tyV (K : PySem.W.Frag) (T : String) (x : V) (H : Hp) : Prop := match x with
 | .str _ => T = "str"
 | .int _ => T = "int"
 | .ref p => (T = "list" ∧ ∃ xs, SqL K H p xs) ∨ (T = "tuple" ∧ ((∃ o, K.lookup p = some o ∧ o.cls = .type "tuple" ∧ o.dict = none) ∨ ∃ xs, H p = some (.tup xs))) ∨
   (T = "dict" ∧ ((∃ kvs, H p = some (.dK kvs)) ∨ ∃ kvs, H p = some (.dT kvs))) ∨ (T = "set" ∧ ∃ S n, H p = some (.set S n))
 | _ => False
theorem ZbT {pins : List (Addr × Obj)} {σ : St} {H : Hp} {s : Shared} {T : String} {x : V} {v : Value} (I : Inv X pins σ H s) (r : RelV x v) (ty : tyV X.K T x H) :
  s.TypeIs v T ∧ ∀ a, v = .ref a → ∃ ob, s.heap.get? a = some ob ∧ ob.dict = none := by
 cases x with
 | str z =>
  obtain ⟨t, rfl⟩ := r
  cases (show T = "str" from ty)
  exact ⟨typeIs_str s z t, fun _ e => nomatch e⟩
 | int i =>
  obtain ⟨t, rfl⟩ := r
  cases (show T = "int" from ty)
  exact ⟨typeIs_int s i t, fun _ e => nomatch e⟩
 | ref p =>
  cases r
  rcases ty with ⟨rfl, xs, hq⟩ | ⟨rfl, ⟨o, hk, hc, hd⟩ | ⟨xs, hx⟩⟩ | ⟨rfl, hk⟩ | ⟨rfl, S, n, hk⟩
  ·obtain ⟨its, _, pl, _⟩ := I.list hq
   refine ⟨pl.isList.typeIs, fun a e => ?_⟩
   cases e
   obtain ⟨o, n, e, c, hd, _⟩ := pl
   exact ⟨o, e, hd⟩
  ·refine ⟨⟨o, I.kIn p o hk, hc⟩, fun a e => ?_⟩
   cases e
   exact ⟨o, I.kIn _ o hk, hd⟩
  ·obtain ⟨_, _, _, ⟨o, e, c, _⟩, o2, e2, hd⟩ := (show ObjOk X.prog X.w H s.heap p (.tup xs) from I.hok p _ hx)
   refine ⟨⟨o, e, c⟩, fun a e3 => ?_⟩
   cases e3
   exact ⟨o2, e2, hd⟩
  ·have z : ∃ o, s.heap.get? p = some o ∧ o.ExactDict := by
    rcases hk with ⟨kvs, hk⟩ | ⟨kvs, hk⟩
    ·obtain ⟨_, _, _, _, o, _, _, e, ex, _⟩ := I.hok p _ hk
     exact ⟨o, e, ex⟩
    ·obtain ⟨_, _, _, _, o, _, _, e, ex, _⟩ := I.hok p _ hk
     exact ⟨o, e, ex⟩
   obtain ⟨o, e, ex⟩ := z
   refine ⟨⟨o, e, ex.1⟩, fun a e2 => ?_⟩
   cases e2
   exact ⟨o, e, ex.2.1⟩
  ·obtain ⟨o, _, _, _, e, ex, _⟩ := I.hok p _ hk
   refine ⟨⟨o, e, ex.1⟩, fun a e2 => ?_⟩
   cases e2
   exact ⟨o, e, ex.2.1⟩
 | _ => exact False.elim ty
def tBM0 (K : PySem.W.Frag) (T : String) (r : V → List V → Hp → VK → Prop) (to : TE) : TE := fun σ H Q => to σ H fun x H1 => tyV K T x H1 ∧ r x [] H1 Q
def tBM (K : PySem.W.Frag) (T : String) (r : V → List V → Hp → VK → Prop) (to : TE) (t : TA) : TE := fun σ H Q => to σ H fun x H1 => tyV K T x H1 ∧ t σ H1 fun xs H2 => r x xs H2 Q
variable {o e : Expr} {es : List Expr} {to : TE} {t : TA} {name : Str} {apos cpos : Pos} {T id : String} {r : V → List V → Hp → VK → Prop}
theorem ZdO (pa : PlainAttrs T) (slot : Slot T name id) (hty : typeOf (.builtin id) = pure (.type "method_descriptor")) (hm : MtR X id r) (ho : PE X o to)
  (hbase : attributeBase o name X.env (eval o X.env) = eval o X.env := by rfl) (hline : (apos.endLine == cpos.line) = true := by rfl) : PE X (.Call (.Attribute o name apos) [] [] cpos) (tBM0 X.K T r to) := by
 intro pins s σ H Q I h
 refine wpAny_Call_method0_late hbase hline (thn (ho pins s σ H _ I h) fun v s1 ⟨x, H1, I1, r1, ty, q1⟩ => ?_)
 obtain ⟨h1, h2⟩ := ZbT I1 r1 ty
 exact ⟨T, id, pa, slot, hty, h1, h2, Calls.callWith_builtin rfl (PySem.evalArgs_none (hm pins s1 σ H1 x [] v [] Q I1 r1 .nil q1))⟩
theorem JR (pa : PlainAttrs T) (slot : Slot T name id) (hty : typeOf (.builtin id) = pure (.type "method_descriptor")) (hm : MtR X id r) (ho : PE X o to) (ha : PA X (e :: es) t)
    (hbase : attributeBase o name X.env (eval o X.env) = eval o X.env := by rfl)
    (hfew : ((backTo cpos (starEach (e :: es) X.env)).all (fun x => !x.1) && (backToKw cpos (keywordEach [] X.env)).all (fun x => x.1.isSome)
      && decide ((e :: es).length + ([] : List Keyword).length + (if ([] : List Keyword).isEmpty then 0 else 1) < 30)) = true := by rfl)
    (hline : (apos.endLine == cpos.line) = true := by rfl) (hs : starEach (e :: es) X.env = (false, eval e X.env) :: starEach es X.env := by rfl) (hplain : (backTo cpos (starEach es X.env)).any (·.1) = false := by rfl) :
    PE X (.Call (.Attribute o name apos) (e :: es) [] cpos) (tBM X.K T r to t) := by
  intro pins s σ H Q I h
  refine wpAny_Call_method_late hbase hfew hline rfl (thn (ho pins s σ H _ I h) fun v s1 ⟨x, H1, I1, r1, ty, q1⟩ => ?_)
  obtain ⟨h1, h2⟩ := ZbT I1 r1 ty
  refine ⟨T, id, pa, slot, hty, h1, h2, ?_⟩
  have hA := ha cpos pins s1 σ H1 _ I1 q1
  rw [hs] at hA ⊢
  refine Calls.callWith_builtin (by show (false || (backTo cpos (starEach es X.env)).any (·.1)) = false; rw [hplain] <;> rfl) (Calls.evalArgs_plain ?_)
  exact thn hA fun us s2 ⟨vs, H2, I2, r2, q2⟩ => hm pins s2 σ H2 x vs v us Q I2 r1 r2 q2
end
end L2
namespace L2
open PySem PySem.Spec PyProof.Rows
def MtM (X : Cx) (id : String) (r : V → List V → Hp → VK → Prop) : Prop :=
 ∀ (pins : List (Addr × Obj)) (s : Shared) (σ : St) (H : Hp) (x : V) (xs : List V) (v : Value) (us : List Value) (Q : VK), Inv X pins σ H s → RelV x v → Vals xs us → r x xs H Q →
  wpAny (model X.prog X.w) X.A (call (.builtin id) (v :: us)) (EP X pins σ Q) X.xe s
theorem Vals.one : ∀ {x : V} {us : List Value}, Vals [x] us → ∃ u, us = [u] ∧ RelV x u
 | _, _, .cons r .nil => ⟨_, rfl, r⟩
theorem Vals.zero : ∀ {us : List Value}, Vals [] us → us = []
 | _, .nil => rfl
theorem Vals.eraseIdx : ∀ {xs : List V} {us : List Value} (i : Nat), Vals xs us → Vals (xs.eraseIdx i) (us.eraseIdx i)
 | _, _, _, .nil => .nil
 | _, _, 0, .cons _ t => t
 | _, _, i + 1, .cons r t => .cons r (Vals.eraseIdx i t)
theorem Vals.reverse {xs : List V} {us : List Value} (h : Vals xs us) : Vals xs.reverse us.reverse := by
 induction h with
 | nil => exact .nil
 | cons r t ih => rw [List.reverse_cons, List.reverse_cons]; exact Vals.append ih (.cons r .nil)
theorem WI {α : Type} : ∀ (l : List α) (i : Nat), (l.eraseIdx i).length ≤ l.length
 | [], _ => Nat.le_refl _
 | _ :: _, 0 => Nat.le_succ _
 | _ :: r, i + 1 => Nat.succ_le_succ (WI r i)
section
variable {X : Cx} {pins : List (Addr × Obj)} {σ : St} {H : Hp} {s : Shared} {l b : Addr} {xs ys zs : List V}
theorem Inv.lset {its its' : List Value} {n : Nat} {f : Array Value → Array Value} {t' : Nat} (I : Inv X pins σ H s) (hH : H l = some (.lst xs))
  (e : s.heap.get? l = some { cls := .type "list", data := .seq its.toArray n }) (hf : f its.toArray = its'.toArray) (hv : Vals ys its') (hz : ys.length ≤ sizeLine) :
  Inv X pins σ (upd H l (.lst ys)) { s with heap := s.heap.update l (Obj.mapSeq f), toks := t' } := by
 have q := PySem.IsL.update e f
 rw [hf] at q
 refine I.write (x := l) (e := l) (by rw [hH]; exact trivial) (.inl rfl) (fun b' u hb hu => (Heap.get?_update_other s.heap (Obj.mapSeq f) (Ne.symm hb)).trans hu) ⟨_, q⟩ ?_
 exact ⟨hz, its', _, hv, q⟩
theorem Inv.lnew {its : List Value} {t' : Nat} (I : Inv X pins σ H s) (hv : Vals ys its) (hz : ys.length ≤ sizeLine) :
  Inv X pins σ (upd H s.heap.objs.size (.lst ys)) { s with heap := s.heap.push { cls := .type "list", data := .seq its.toArray }, toks := t' } :=
 I.laid (fun _ _ q => Heap.get?_push_of_some _ q) (Nat.le_refl _) ⟨hz, its, 0, hv, Heap.get?_push_size _ rfl⟩
theorem Inv.fresh (I : Inv X pins σ H s) : H s.heap.objs.size = none := I.hok.fresh (Nat.le_refl _)
theorem Inv.lstM (I : Inv X pins σ H s) (hH : H l = some (.lst xs)) : xs.length ≤ sizeLine ∧ ∃ (its : List Value) (n : Nat), Vals xs its ∧ xs.length = its.length ∧ s.heap.get? l = some { cls := .type "list", data := .seq its.toArray n } := by
 obtain ⟨z, its, n, r, e⟩ := I.hok l _ hH
 exact ⟨z, its, n, r, r.length, e⟩
theorem notLongL {n : Nat} (h : n ≤ sizeLine) : Builtin.List.listTooLong n = false := by
 unfold Builtin.List.listTooLong
 exact decide_eq_false (by omega)
end
section
variable {X : Cx}
def rAppend : V → List V → Hp → VK → Prop := fun x vs H Q => ∃ l xs y, x = .ref l ∧ vs = [y] ∧ H l = some (.lst xs) ∧ xs.length < sizeLine ∧ Q .non (upd H l (.lst (xs ++ [y])))
theorem Jt : MtM X "list.append" rAppend := by
 intro pins s σ H x vs v us Q I rx rv h
 obtain ⟨l, xs, y, rfl, rfl, hH, hz, q⟩ := h
 cases rx
 obtain ⟨u, rfl, ru⟩ := rv.one
 obtain ⟨z, its, n, r, hl, e⟩ := I.lstM hH
 refine call_meets F.slot_list_append ⟨_, e, rfl⟩ F.entry_list_append (F.args_list_append_2 _ _) (PySem.list_append l its.toArray n u (by rw [List.size_toArray]; omega)) ⟨e, ?_⟩
 refine ⟨.non, _, I.lset (its' := its ++ [u]) hH e (by simp) (r.append (.cons ru .nil)) ?_, rfl, q⟩
 rw [List.length_append, List.length_singleton]
 omega
def rExtend : V → List V → Hp → VK → Prop := fun x vs H Q => ∃ l b xs zs, x = .ref l ∧ vs = [.ref b] ∧ H l = some (.lst xs) ∧ H b = some (.lst zs) ∧ xs.length + zs.length ≤ sizeLine ∧ Q .non (upd H l (.lst (xs ++ zs)))
theorem ZbA : MtM X "list.extend" rExtend := by
 intro pins s σ H x vs v us Q I rx rv h
 obtain ⟨l, b, xs, zs, rfl, rfl, hH, hB, hz, q⟩ := h
 cases rx
 obtain ⟨u, rfl, ru⟩ := rv.one
 cases ru
 obtain ⟨z, its, n, r, hl, e⟩ := I.lstM hH
 obtain ⟨z2, its2, n2, r2, hl2, e2⟩ := I.lstM hB
 have hsz : its.toArray.size + its2.toArray.size ≤ sizeLine := by rw [List.size_toArray, List.size_toArray]; omega
 have hlong : ¬ (!its.toArray.isEmpty && Builtin.List.listTooLong (its.toArray.size + its2.toArray.size)) = true := by
  rw [notLongL hsz, Bool.and_false]
  exact Bool.false_ne_true
 refine call_meets F.slot_list_extend ⟨_, e, rfl⟩ F.entry_list_extend (F.args_list_extend_2 _ _)
  (AutoSeq1.list_extend_list_list_0 l its.toArray n b its2.toArray n2 hlong (by rw [List.size_toArray]; omega) (by omega)) ⟨e, e2, ?_⟩
 refine ⟨.non, _, I.lset (its' := its ++ its2) hH e (by simp) (r.append r2) ?_, rfl, q⟩
 rw [List.length_append]
 omega
def rPopAt : V → List V → Hp → VK → Prop := fun x vs H Q => ∃ l xs i k y, x = .ref l ∧ vs = [.int i] ∧ H l = some (.lst xs) ∧ -(2 ^ 63) ≤ i ∧ i < 2 ^ 63 ∧ seqIndex? i xs.length = some k ∧ xs[k]? = some y ∧ Q y (upd H l (.lst (xs.eraseIdx k)))
theorem Zco : MtM X "list.pop" rPopAt := by
 intro pins s σ H x vs v us Q I rx rv h
 obtain ⟨l, xs, i, k, y, rfl, rfl, hH, h1, h2, hk, hy, q⟩ := h
 cases rx
 obtain ⟨u, rfl, ru⟩ := rv.one
 obtain ⟨t, rfl⟩ := ru
 obtain ⟨z, its, n, r, hl, e⟩ := I.lstM hH
 obtain ⟨w, hw, rw'⟩ := r.get hy
 refine call_meets F.slot_list_pop ⟨_, e, rfl⟩ F.entry_list_pop (F.args_list_pop_2 _ _)
  (MeetsSeq.list_pop_at l its.toArray n i t k w (fitsIndex_both h1 h2) (by rw [List.size_toArray, ← hl]; exact hk) (by rw [← Array.getElem?_toList]; exact hw) (by rw [List.size_toArray]; omega)) ⟨e, ?_⟩
 refine ⟨y, _, I.lset (its' := its.eraseIdx k) hH e ?_ (r.eraseIdx k) ?_, rw', q⟩
 ·show its.toArray.eraseIdxIfInBounds k = (its.eraseIdx k).toArray
  rw [List.eraseIdxIfInBounds_toArray]
 ·have := WI xs k
  omega
def rReverse : V → List V → Hp → VK → Prop := fun x vs H Q => ∃ l xs, x = .ref l ∧ vs = [] ∧ H l = some (.lst xs) ∧ Q .non (upd H l (.lst xs.reverse))
theorem Zaj : MtM X "list.reverse" rReverse := by
 intro pins s σ H x vs v us Q I rx rv h
 obtain ⟨l, xs, rfl, rfl, hH, q⟩ := h
 cases rx
 have hus := rv.zero
 subst hus
 obtain ⟨z, its, n, r, hl, e⟩ := I.lstM hH
 refine call_meets F.slot_list_reverse ⟨_, e, rfl⟩ F.entry_list_reverse (F.args_list_reverse_1 _) (AutoSeq1.list_reverse_list_0 l its.toArray n (by rw [List.size_toArray]; omega)) ⟨e, ?_⟩
 refine ⟨.non, _, I.lset (its' := its.reverse) hH e (by simp) r.reverse ?_, rfl, q⟩
 rw [List.length_reverse]
 omega
def rCat : R2 := fun x y H Q => ∃ l b xs zs, x = .ref l ∧ y = .ref b ∧ H l = some (.lst xs) ∧ H b = some (.lst zs) ∧ xs.length + zs.length ≤ sizeLine ∧ ∀ p, H p = none → Q (.ref p) (upd H p (.lst (xs ++ zs)))
theorem Yy : OpR X (binaryOp .Add) rCat := by
 intro pins s σ H x y v u Q I rx ry h
 obtain ⟨l, b, xs, zs, rfl, rfl, hH, hB, hz, q⟩ := h
 cases rx
 cases ry
 obtain ⟨z, its, n, r, hl, e⟩ := I.lstM hH
 obtain ⟨z2, its2, n2, r2, hl2, e2⟩ := I.lstM hB
 refine PySem.P.add_list e e2 ?_ (by rw [List.size_toArray, List.size_toArray]; omega)
 have ea : its.toArray ++ its2.toArray = (its ++ its2).toArray := by simp
 rw [ea]
 exact ⟨.ref _, _, I.lnew (t' := s.toks) (r.append r2) (by rw [List.length_append]; omega), rfl, q _ I.fresh⟩
end
end L2
namespace Att
open PySem PySem.W PySem.Calls PyProof.Rows
theorem JA {P : Params} {h : Heap} : ∀ (ns : List Int) (vs : List Value), WellAll P h vs (ns.map WData.int) → IntsAre vs ns := by
 intro ns
 induction ns with
 | nil =>
  intro vs w
  rw [List.map_nil] at w
  cases w
  exact .nil
 | cons n ns ih =>
  intro vs w
  rw [List.map_cons] at w
  cases w with
  | cons a b =>
   cases a
   exact .cons _ _ (ih _ b)
theorem Zbh {l : OpenLaw} {n : Nat} (hn : l.most = some n) {P : Params} {h : Heap} {args : List WData} {vals : List Value}
  (hpre : l.row.toRowW.claim.pre args = true) (hwl : WellAll P h vals args) :
  ∃ a vs ns, vals = [Value.ref a] ∧ args = [WData.list (ns.map WData.int)] ∧ h.get? a = some { cls := .type "list", data := .seq vs.toArray } ∧ IntsAre vs ns ∧ ns.length ≤ n := by
 have hsh : WShape.hasAll [] args [.list .int] = true := (pre_splitW hpre).1
 have hc : l.pre.holds [] { args := args } = true := (pre_splitW hpre).2
 obtain ⟨d, r, rfl, h1, h2⟩ := hasAllW_cons hsh
 obtain rfl := hasAllW_nil h2
 obtain ⟨xs, rfl, h3⟩ := hasW_list h1
 obtain ⟨ns, rfl⟩ := items_int h3
 have hlen : ns.length ≤ n := by
  unfold OpenLaw.pre at hc
  have h4 : (WTm.not (.lt (.lit (.int (n : Int))) (.len (.arg 0)))).holds [] { args := [.list (ns.map .int)] } = true := by
   have h4 := (holds_andW hc).1
   rw [hn] at h4
   exact h4
  have h5 := condW_of h4 (w_not (w_lt w_lit (w_len_list (w_arg rfl))))
  rw [List.length_map] at h5
  refine Nat.le_of_not_lt fun q => ?_
  have q' : (n : Int) < ((ns.length : Nat) : Int) := by omega
  first
   | (rw [decide_eq_true q'] at h5; exact absurd h5 (by decide))
   | (simp at h5; omega)
 cases hwl with
 | cons w1 w2 =>
  cases w2
  cases w1 with
  | list ho hall => exact ⟨_, _, ns, rfl, rfl, ho, JA ns _ hall, hlen⟩
theorem Zbp (l : OpenLaw) (args : List WData) : l.row.toRowW.claim.post args (.bool true) args = true :=
 postW_of (r := l.row.toRowW) (X := (true == true))
  (show WShape.has [] (.bool true) .bool = true by first | rfl | decide | simp [WShape.has, WShape.arms, WShape.armsAll])
  (show (WTm.eq .res (.lit (.bool true))).value [] { args := args, res := some (.bool true), after := args } = some (.bool (true == true)) from w_eq_bool (w_res rfl) w_lit) rfl
theorem attach_call {l : OpenLaw} {n : Nat} {q : Program} {loose : List Str} {XP : (Str → Option Value) → Heap → Prop} {YP : World → Heap → Prop} {d : DefRec}
    (hn : l.most = some n) (hdf : d.params.defaults = [])
    (call : ∀ (w : World) (s₀ s₁ : Shared) (mg mb : Str → Option Value) (fa : Addr) (o : Obj) (pm cd doc : Value) (a : Addr) (vs : List Value) (ns : List Int),
      Ground q loose [] XP w s₀ mg mb s₁.heap → YP w s₁.heap →
      s₁.heap.get? fa = some o → o.data = .func (docDef d.name d.params d.body d.scope pm cd doc) → s₁.heap.CodeRec cd d.name → mg d.name = some (.ref fa) →
      s₁.heap.get? a = some { cls := .type "list", data := .seq vs.toArray } → IntsAre vs ns → ns.length ≤ n → s₁.gens = #[] →
      codeAny (model l.prog w) callerA (.call (.ref fa) ⟨[.ref a], []⟩) (fun r s' => r = .ok (.ret (.bool true)) ∧ OldK s₁.heap s'.heap ∧ s'.os = s₁.os ∧ AllBare s'.gens) s₁) :
    WalkO q loose XP YP l.row.toRowW d [] (fun f vs => PySem.call f vs) := by
  intro w s₀ s₁ mg mb G Y fa o pm cd doc dV kV ho hd hcd hD hmg hg args vals as hpre hlay hrd hwl hlo
  obtain rfl : dV = .none := Dflts.none hD hdf
  obtain rfl : kV = .none := Dflts.noKw hD
  obtain ⟨a, vs, ns, rfl, rfl, hobj, hints, hlen⟩ := Zbh hn hpre hwl
  refine enter_call (codeAny_mono (call w s₀ s₁ mg mb fa o pm cd doc a vs ns G Y ho (fd_plain hd) hcd hmg hobj hints hlen hg) fun r s' hq => ?_)
  obtain ⟨rfl, h2, h3, h4⟩ := hq
  exact ⟨.inl ⟨.bool true, .bool true, [], rfl, fun _ => rfl, .bool true, Zbp l _, fun _ => ⟨List.Pairwise.nil, fun _ hm => (nomatch hm)⟩⟩, h2, h3, h4⟩
end Att
namespace L2
open PySem PySem.Spec PyProof.Rows
theorem Ww : ∀ {vs : List Value} {ns : List Int}, IntsAre vs ns → Vals (ns.map V.int) vs
 | _, _, .nil => .nil
 | _, _, .cons n t h => .cons ⟨t, rfl⟩ (Ww h)
end L2
namespace L2
open PySem PySem.Spec PyProof.Rows
end L2
namespace L2
open PySem PySem.Spec PyProof.Rows
def defArgs (s : Stmt) : Arguments := match s with
 | .FunctionDef _ a _ _ _ _ _ _ _ _ => a
 | _ => { posonlyargs := [], args := [], vararg := none, kwonlyargs := [], kw_defaults := [], kwarg := none, defaults := [] }
def defBody (s : Stmt) : List Stmt := match s with
 | .FunctionDef _ _ b _ _ _ _ _ _ _ => b
 | _ => []
def defScope (s : Stmt) : Scope := match s with
 | .FunctionDef _ _ _ _ _ _ sc _ _ _ => sc
 | _ => { kind := .function, names := [], isGenerator := false, isCoroutine := false }
abbrev CX0 : CXT := fun _ _ _ _ _ _ => False
abbrev E0 : XK := fun _ _ _ => False
theorem pass0 {X : Cx} : Passes CX0 X E0 := fun _ _ _ _ _ _ _ h => h.elim
structure Fun (K : PySem.W.Frag) (x qual : Str) (st : Stmt) (f : Addr) (fd : FuncData) : Prop where
 ex : ∃ (oc : Value) (od : Option Addr) (kV doc pm : Value) (an : Option Addr) (cdv ct : Value) (osl : Array (Option Value)),
  fd = PySem.W.fnOf x qual (defArgs st) (defBody st) (defScope st) .none kV doc pm an cdv ct ∧ K.lookup f = some ⟨oc, od, .func fd, osl⟩ ∧ PySem.W.codeIn K cdv qual = true
 kp : PySem.W.keepIn K (.ref f) = true
section
variable {P : Program} {w : World} {K : PySem.W.Frag} {mg : Str → Option Value} {base : Heap}
theorem Fun.ok {x qual : Str} {st : Stmt} {f : Addr} {fd : FuncData} {N ps : List Str} {k : Nat} {sp : Sp} (F : Fun K x qual st f fd) (S : FnScope N ps (defScope st)) (len : ∀ vs H Q E, sp vs H Q E → vs.length = ps.length)
    (hbody : ∀ (cdv : Value) (A : Around) (outer : List Env) (s : Shared) (H : Hp) (vs : List V) (Q : VK) (E : XK), Room k (A.deeper (envOfC qual (defScope st) s.heap.objs.size f cdv)) → sp vs H Q E →
      ∃ t, PSs (cxOf CX0 P w K mg base N qual (defScope st) f cdv A outer s H E).nox (defBody st) t ∧ t { nx := fun _ H' => Q .non H', rt := Q } (start N vs) H) : FnOk P w K mg base CX0 (k + 1) f fd ps sp := by
  obtain ⟨oc, od, kV, doc, pm, an, cdv, ct, osl, rfl, lk, hcd⟩ := F.ex
  refine ZcE lk hcd S len fun A outer s H vs Q E hr hsp => ?_
  obtain ⟨t, h, q⟩ := hbody cdv A outer s H vs Q E hr hsp
  exact ⟨t, h.nox, q⟩
theorem Fun.binds {x qual : Str} {st : Stmt} {f : Addr} {fd : FuncData} {ps : List Str} (F : Fun K x qual st f fd)
  (h : ∀ (kV doc pm : Value) (an : Option Addr) (cdv ct : Value) (us : List Value), us.length = ps.length → bindArgs (PySem.W.fnOf x qual (defArgs st) (defBody st) (defScope st) .none kV doc pm an cdv ct) ⟨us, []⟩ = pure (ps.zip us)) : Binds K fd ps [] := by
 obtain ⟨oc, od, kV, doc, pm, an, cdv, ct, osl, rfl, lk, hcd⟩ := F.ex
 exact .all (h kV doc pm an cdv ct)
theorem Zd7 {x qual : Str} {st : Stmt} {f : Addr} {oc : Value} {od an : Option Addr} {osl : Array (Option Value)} {kV doc pm cdv ct : Value} (l : K.lookup f = some ⟨oc, od, .func (PySem.W.fnOf x qual (defArgs st) (defBody st) (defScope st) .none kV doc pm an cdv ct), osl⟩)
  (c : PySem.W.codeIn K cdv qual = true) (k : PySem.W.keepIn K (.ref f) = true) : Fun K x qual st f (PySem.W.fnOf x qual (defArgs st) (defBody st) (defScope st) .none kV doc pm an cdv ct) := ⟨⟨oc, od, kV, doc, pm, an, cdv, ct, osl, rfl, l, c⟩, k⟩
end
theorem Zdy {A : Around} {k : Nat} (hr : Room k A) : A.units + 1 < cLine := Nat.lt_of_le_of_lt (Nat.add_le_add_left (by decide : 1 ≤ 64) _) hr.units
theorem small1000 {n : Nat} (h : n ≤ 1000) : n < sizeLine := Nat.lt_of_le_of_lt h (by decide)
section
variable {X : Cx}
theorem pv (i : Nat) {x : Str} {pos : Pos} (hN : X.N[i]? = some x := by rfl) (hv : Vis X.env.scope x := by first | exact Or.inl rfl | exact Or.inr (Or.inl rfl) | exact Or.inr (Or.inr rfl)) (hd : (x == ("__debug__" : Str)) = false := by decide)
  (hcd : (x == ("__classdict__" : Str)) = false := by decide) : PE X (.Name x pos) (tVar i) := Yu hN hv hd hcd
end
theorem iteF {A B : Prop} (h : B) : if false = true then A else B := by
 rw [if_neg Bool.false_ne_true]
 exact h
theorem iteT {A B : Prop} (h : A) : if true = true then A else B := by
 rw [if_pos rfl]
 exact h
def Same (H H' : Hp) : Prop := ∀ b o, H b = some o → H' b = some o
theorem Same.refl (H : Hp) : Same H H := fun _ _ h => h
theorem Same.trans {H H1 H2 : Hp} (a : Same H H1) (b : Same H1 H2) : Same H H2 := fun c o h => b c o (a c o h)
theorem Same.free {H H' : Hp} (e : Same H H') {l : Addr} (h : H' l = Option.none) : H l = Option.none := by
 cases q : H l with
 | none => rfl
 | some o =>
  rw [e l o q] at h
  cases h
end L2
set_option Elab.async false
set_option linter.all false
set_option maxRecDepth 100000
namespace L2
open PySem PySem.Spec PyProof.Rows
section
variable {κ : Type} [DecidableEq κ]
def valV (kvs : List (κ × V)) (k : κ) : Option V := (kvs.find? fun kv => decide (kv.1 = k)).map (·.2)
def putK (kvs : List (κ × V)) (k : κ) (v : V) : List (κ × V) :=
 if (kvs.any fun kv => decide (kv.1 = k)) = true then kvs.map (fun kv => if kv.1 = k then (kv.1, v) else kv) else kvs ++ [(k, v)]
theorem ZQ {p : κ × V} {r : List (κ × V)} {k : κ} (e : p.1 = k) : valV (p :: r) k = some p.2 := by simp [valV, List.find?_cons, e]
theorem ZR {p : κ × V} {r : List (κ × V)} {k : κ} (e : ¬ p.1 = k) : valV (p :: r) k = valV r k := by simp [valV, List.find?_cons, e]
theorem JI (k : κ) : ∀ kvs : List (κ × V), (kvs.any fun kv => decide (kv.1 = k)) = (valV kvs k).isSome
 | [] => rfl
 | p :: r => by
  rw [List.any_cons]
  by_cases e : p.1 = k
  ·simp only [ZQ e, decide_eq_true e, Bool.true_or, Option.isSome_some]
  ·rw [ZR e, decide_eq_false e, Bool.false_or]; exact JI k r
theorem Uk (k j : κ) (y : V) : ∀ kvs : List (κ × V), valV (kvs.map fun kv => if kv.1 = k then (kv.1, y) else kv) j = (valV kvs j).map fun x => if j = k then y else x
 | [] => rfl
 | p :: r => by
  have ih := Uk k j y r
  rw [List.map_cons]
  by_cases h : p.1 = k
  ·rw [if_pos h]
   by_cases e : p.1 = j
   ·rw [ZQ (p := (p.1, y)) e, ZQ e, Option.map_some, if_pos (e.symm.trans h)]
   ·rw [ZR (p := (p.1, y)) e, ZR e, ih]
  ·rw [if_neg h]
   by_cases e : p.1 = j
   ·rw [ZQ (p := p) e, ZQ e, Option.map_some, if_neg (fun z => h (e.trans z))]
   ·rw [ZR (p := p) e, ZR e, ih]
theorem Wx (k j : κ) (y : V) : ∀ kvs : List (κ × V), valV kvs k = none → valV (kvs ++ [(k, y)]) j = if j = k then some y else valV kvs j
 | [], _ => by
  by_cases e : k = j
  ·rw [if_pos e.symm]; exact ZQ (p := (k, y)) e
  ·rw [if_neg (fun z => e z.symm)]; exact ZR (p := (k, y)) e
 | p :: r, hn => by
  rw [List.cons_append]
  have hk : ¬ p.1 = k := fun z => by rw [ZQ z] at hn; cases hn
  rw [ZR hk] at hn
  have ih := Wx k j y r hn
  by_cases e : p.1 = j
  ·rw [ZQ e, ZQ e, if_neg (fun z => hk (e.trans z))]
  ·rw [ZR e, ZR e, ih]
theorem ZbS (kvs : List (κ × V)) (k j : κ) (y : V) : valV (putK kvs k y) j = if j = k then some y else valV kvs j := by
 unfold putK
 by_cases a : (kvs.any fun kv => decide (kv.1 = k)) = true
 ·rw [if_pos a, Uk]
  rw [JI] at a
  by_cases e : j = k
  ·obtain ⟨x, hx⟩ := Option.isSome_iff_exists.mp a
   rw [if_pos e, e, hx, Option.map_some, if_pos rfl]
  ·rw [if_neg e]
   cases valV kvs j with
   | none => rfl
   | some x => rw [Option.map_some, if_neg e]
 ·rw [if_neg a]
  refine Wx k j y kvs ?_
  rw [JI] at a
  cases q : valV kvs k with
  | none => rfl
  | some x => rw [q] at a; exact (a rfl).elim
theorem UL (kvs : List (κ × V)) (k : κ) (v : V) : (putK kvs k v).length ≤ kvs.length + 1 := by
 unfold putK
 split
 ·rw [List.length_map]; omega
 ·rw [List.length_append, List.length_cons, List.length_nil]; omega
theorem RelO.isSome_eq {o : Option V} {u : Option Value} (r : RelO o u) : o.isSome = u.isSome := by
 cases o with
 | none => cases u with
  | none => rfl
  | some _ => exact (show False from r).elim
 | some _ => cases u with
  | none => exact (show False from r).elim
  | some _ => rfl
theorem KV.val {kvs : List (κ × V)} {vs : List (κ × Value)} (r : KV kvs vs) (k : κ) : RelO (valV kvs k) (valueAt vs k) := by
 unfold KV at r
 induction r with
 | nil => exact True.intro
 | @cons p q ps qs h t ih =>
  obtain ⟨h1, h2⟩ := h
  by_cases e : p.1 = k
  ·have e' : q.1 = k := h1.symm.trans e
   have b : valueAt (q :: qs) k = some q.2 := by simp [valueAt, List.find?_cons, e']
   rw [ZQ e, b]; exact h2
  ·have e' : ¬ q.1 = k := fun z => e (h1.trans z)
   have b : valueAt (q :: qs) k = valueAt qs k := by simp [valueAt, List.find?_cons, e']
   rw [ZR e, b]; exact ih
theorem KV.any {kvs : List (κ × V)} {vs : List (κ × Value)} (r : KV kvs vs) (k : κ) : (kvs.any fun kv => decide (kv.1 = k)) = vs.any fun kv => decide (kv.1 = k) := by
 unfold KV at r
 induction r with
 | nil => rfl
 | cons h t ih => rw [List.any_cons, List.any_cons, ih, h.1]
theorem KV.repl {kvs : List (κ × V)} {vs : List (κ × Value)} (r : KV kvs vs) (k : κ) {y : V} {u : Value} (ry : RelV y u) :
  KV (kvs.map fun kv => if kv.1 = k then (kv.1, y) else kv) (vs.map fun kv => if kv.1 = k then (kv.1, u) else kv) := by
 unfold KV at r ⊢
 induction r with
 | nil => exact .nil
 | @cons p q ps qs h t ih =>
  rw [List.map_cons, List.map_cons]
  refine .cons ?_ ih
  obtain ⟨h1, h2⟩ := h
  by_cases e : p.1 = k
  ·rw [if_pos e, if_pos (h1.symm.trans e)]; exact ⟨h1, ry⟩
  ·rw [if_neg e, if_neg (fun z => e (h1.trans z))]; exact ⟨h1, h2⟩
theorem KV.put {kvs : List (κ × V)} {vs : List (κ × Value)} (r : KV kvs vs) (k : κ) {y : V} {u : Value} (ry : RelV y u) : KV (putK kvs k y) (stored vs k u) := by
 unfold putK stored
 rw [r.any k]
 by_cases e : (vs.any fun kv => decide (kv.1 = k)) = true
 ·rw [if_pos e, if_pos e]; exact r.repl k ry
 ·rw [if_neg e, if_neg e]; exact Paired.snoc r ⟨rfl, ry⟩
end
theorem ZaU {P : Program} {w : World} {k : Key} {u : Value} (r : RelV (kV k) u) : (mixKind P w).is k u = true := by
 cases k with
 | inl i => obtain ⟨t, e⟩ := (show ∃ t, u = Value.int i t from r); subst e; exact UC P w i t
 | inr x => obtain ⟨t, e⟩ := (show ∃ t, u = Value.str x t from r); subst e; exact UB P w x t
theorem WJ {P : Program} {w : World} : ∀ {ks : List Key} {us : List Value}, Vals (ks.map kV) us → ItemsAre (mixKind P w) ks us
 | [], _, r => by rw [List.map_nil] at r; cases r; exact .nil
 | k :: ks, _, r => by
  rw [List.map_cons] at r
  cases r with
  | cons h t => exact .cons (ZaU h) (WJ t)
abbrev KT (H : Hp) : List (List Key × V) → List (List Key × Addr × Value) → Prop := Paired fun p q => p.1 = q.1 ∧ H q.2.1 = some (.tup (p.1.map kV)) ∧ RelV p.2 q.2.2
theorem KT.val {H : Hp} {kvs : List (List Key × V)} {xs : List (List Key × Addr × Value)} (r : KT H kvs xs) (k : List Key) : RelO (valV kvs k) ((atKey xs k).map (·.2)) := by
 induction r with
 | nil => exact True.intro
 | @cons p q ps qs h t ih =>
  obtain ⟨h1, _, h2⟩ := h
  by_cases e : p.1 = k
  ·have e' : q.1 = k := h1.symm.trans e
   have b : atKey (q :: qs) k = some q.2 := by simp [atKey, List.find?_cons, e']
   rw [ZQ e, b]; exact h2
  ·have e' : ¬ q.1 = k := fun z => e (h1.trans z)
   have b : atKey (q :: qs) k = atKey qs k := by simp [atKey, List.find?_cons, e']
   rw [ZR e, b]; exact ih
section
variable {P : Program} {w : World} {H : Hp} {h : Heap} {a : Addr}
theorem Zds {u : HO} (ok : HOk P w H h) (e : Rd H a u) : ObjOk P w H h a u := e.ok ok
theorem Za2 {kvs : List (Key × V)} (ok : HOk P w H h) (e : Rd H a (.dK kvs)) : kvs.length ≤ sizeLine ∧ (a == sysModules) = false ∧ ∃ vs, KV kvs vs ∧ h.DictOf (mixKind P w) a vs :=
 show ObjOk P w H h a (.dK kvs) from Zds ok e
theorem Zen {kvs : List (Key × V)} (ok : HOk P w H h) (e : H a = some (.dK kvs)) : kvs.length ≤ sizeLine ∧ (a == sysModules) = false ∧ ∃ vs, KV kvs vs ∧ h.DictOf (mixKind P w) a vs := Za2 ok (.inl e)
theorem Zam {ks : List Key} (ok : HOk P w H h) (e : H a = some (.tup (ks.map kV))) : (tupleKind (mixKind P w)).is h ks a := by
 obtain ⟨_, its, r, ⟨o, h1, h2, n, h3⟩, _⟩ := (show ObjOk P w H h a (.tup (ks.map kV)) from ok a _ e)
 exact ⟨o, its.toArray, n, h1, h2, h3, by simpa using WJ r⟩
theorem ZcL {kvs : List (List Key × V)} (ok : HOk P w H h) (e : Rd H a (.dT kvs)) : kvs.length ≤ sizeLine ∧ (a == sysModules) = false ∧
  ∃ xs, KT H kvs xs ∧ h.DictOfH (tupleKind (mixKind P w)) a xs := by
 obtain ⟨z, y, xs, r, o, es, ep, h1, h2, h3, h4, h5⟩ := (show ObjOk P w H h a (.dT kvs) from Zds ok e)
 refine ⟨z, y, xs, r, o, es, ep, h1, h2, h3, h4, fun x hx => ?_, h5⟩
 have all : ∀ {l : List (List Key × V)} {m : List (List Key × Addr × Value)}, KT H l m → ∀ x ∈ m, (tupleKind (mixKind P w)).is h x.1 x.2.1 := by
  intro l m q
  induction q with
  | nil => intro x hx; exact nomatch hx
  | @cons p q ps qs hq t ih =>
   intro x hx
   rcases List.mem_cons.mp hx with e | hx
   ·subst e
    exact Zam ok (by rw [← hq.1]; exact hq.2.1)
   ·exact ih x hx
 exact all r x hx
end
def DGet (H : Hp) (a : Addr) (y : V) (r : Option V) : Prop :=
 (∃ kvs k, Rd H a (.dK kvs) ∧ y = kV k ∧ r = valV kvs k) ∨ ∃ kvs k b, Rd H a (.dT kvs) ∧ y = .ref b ∧ H b = some (.tup (k.map kV)) ∧ r = valV kvs k
theorem DGet.k {H : Hp} {a : Addr} {kvs : List (Key × V)} {k : Key} (e : H a = some (.dK kvs)) : DGet H a (kV k) (valV kvs k) := .inl ⟨kvs, k, .inl e, rfl, rfl⟩
section
variable {X : Cx} {pins : List (Addr × Obj)} {σ : St} {H : Hp} {s : Shared} {a : Addr} {y v : V} {u r : Value} {o : Option V} {A : Around} {E : Value → Shared → Prop}
theorem Inv.big (I : Inv X pins σ H s) : sysModules < s.heap.objs.size := by
 have h : mainGlobals < s.heap.objs.size := (I.mod.glob.keeps I.bk).lt
 exact Nat.lt_trans (by decide) h
theorem ZbO {Q : Value → Shared → Prop} (hu : A.units + 1 < cLine) (I : Inv X pins σ H s) (g : DGet H a y (some v)) (ry : RelV y u) (h : ∀ w' s', Inv X pins σ H s' → RelV v w' → Q w' s') :
  wpAny (model X.prog X.w) A (getItem (.ref a) u) Q E s := by
 rcases g with ⟨kvs, k, e, ey, l⟩ | ⟨kvs, k, b, e, ey, eb, l⟩
 ·subst ey
  obtain ⟨z, hd, vs, rel, dd⟩ := Za2 I.hok e
  obtain ⟨w', hw, rw'⟩ := RelO.some_of (v := v) (o := valueAt vs k) (by rw [l]; exact rel.val k)
  exact wpAny_getItem_of (ZaU ry) dd.mapOf hw (h w' _ (I.tok _) rw')
 ·subst ey
  cases (show u = Value.ref b from ry)
  obtain ⟨z, hd, xs, rel, dd⟩ := ZcL I.hok e
  obtain ⟨w', hw, rw'⟩ := RelO.some_of (v := v) (o := (atKey xs k).map (·.2)) (by rw [l]; exact rel.val k)
  obtain ⟨p, hp, hp2⟩ := Option.map_eq_some_iff.mp hw
  refine wpAny_getItem_heap (tupleKind_room_in1 hu) (Zam I.hok eb) dd hp ?_
  rw [hp2]
  exact h w' _ (I.tok _) rw'
theorem d_in {Q : Value → Shared → Prop} (hu : A.units + 1 < cLine) (I : Inv X pins σ H s) (g : DGet H a y o) (ry : RelV y u) (h : ∀ s', Inv X pins σ H s' → Q (.bool o.isSome) s') :
  wpAny (model X.prog X.w) A (compareOp .In u (.ref a)) Q E s := by
 rcases g with ⟨kvs, k, e, ey, l⟩ | ⟨kvs, k, b, e, ey, eb, l⟩
 ·subst ey
  obtain ⟨z, hd, vs, rel, dd⟩ := Za2 I.hok e
  refine wpAny_in_of (ZaU ry) hd dd.mapOf ?_
  rw [← (rel.val k).isSome_eq, ← l]
  exact h _ (I.tok _)
 ·subst ey
  cases (show u = Value.ref b from ry)
  obtain ⟨z, hd, xs, rel, dd⟩ := ZcL I.hok e
  refine wpAny_in_heap (tupleKind_room_in1 hu) (Zam I.hok eb) hd dd ?_
  have q := (rel.val k).isSome_eq
  rw [Option.isSome_map] at q
  rw [← q, ← l]
  exact h _ (I.tok _)
theorem Zdo {h' : Heap} {t' : Nat} {ob : HO} (I : Inv X pins σ H s) (mu : Mut (H a)) (hs : Heap.SameBut a s.heap h') (he : ∃ q, h'.get? a = some q) (new : ObjOk X.prog X.w (upd H a ob) h' a ob) :
  Inv X pins σ (upd H a ob) { s with heap := h', toks := t' } :=
 I.write (x := a) (e := a) mu (.inl rfl) (fun b q hb z => (hs.2 b hb).trans z) he new
theorem Zea {P : Program} {w : World} {H' : Hp} {h' : Heap} {kvs : List (Key × V)} {vs : List (Key × Value)} (z : kvs.length ≤ sizeLine) (hd : (a == sysModules) = false) (rel : KV kvs vs) (dd : h'.DictOf (mixKind P w) a vs) :
  ObjOk P w H' h' a (.dK kvs) := ⟨z, hd, vs, rel, dd⟩
end
def NoSl (i : Expr) : Prop := ∀ ov iv, subscripted i false ov iv = operate [ov, iv] (getItem ov iv)
theorem Zc0 {prog : Program} {w : World} {A : Around} {E : Value → Shared → Prop} {s : Shared} {env : Env} {value slice : Expr} {pos : Pos} {T id : String} {Q : Value → Shared → Prop}
  (hl : typeLookup (.type T) "__getitem__" = pure (some (.builtin id))) (hs : NoSl slice)
  (h : wpAny (model prog w) A (eval value env) (fun o s₁ => wpAny (model prog w) A (eval slice env) (fun i s₂ => s₂.TypeIs o T ∧ wpAny (model prog w) A (getItem o i) Q E s₂) E s₁) E s) :
  wpAny (model prog w) A (eval (.Subscript value slice pos) env) Q E s := by
 refine Subscript_ (wpAny_mono h (fun o s₁ h₁ => wpAny_mono h₁ (fun i s₂ h₂ => ?_) fun _ _ x => x) fun _ _ x => x)
 obtain ⟨hT, h₂⟩ := h₂
 unfold subscriptTail
 refine wpAny_bind ?_
 rw [getitemInPython_of_ne hT.not_modules]
 refine wpAny_bind (wpAny_specialOf hT hl ?_)
 have fin : wpAny (model prog w) A (subscripted slice false o i) (fun r s₃ => wpAny (model prog w) A (letTemporaryGo value o r >>= fun _ => pure r) Q E s₃) E s₂ := by
  rw [hs o i]
  exact wpAny_operating (wpAny_mono h₂ (fun r s₃ h₃ => wpAny_bind (wpAny_letTemporaryGo (wpAny_pure h₃))) fun _ _ x => x)
 first
  | exact wpAny_pure (wpAny_bind fin)
  | exact wpAny_bind (wpAny_pure (wpAny_bind fin))
  | exact wpAny_bind fin
theorem UW {X : Cx} {pins : List (Addr × Obj)} {σ : St} {H : Hp} {s : Shared} {a : Addr} {y : V} {o : Option V} (I : Inv X pins σ H s) (g : DGet H a y o) : s.TypeIs (.ref a) "dict" := by
 rcases g with ⟨kvs, k, e, _, _⟩ | ⟨kvs, k, b, e, _, _, _⟩
 ·obtain ⟨_, _, vs, _, dd⟩ := Za2 I.hok e
  exact dd.typeIs
 ·obtain ⟨_, _, xs, _, dd⟩ := ZcL I.hok e
  exact dd.typeIs
def tDGet (td ty : TE) : TE := fun σ H Q => td σ H fun x H1 => ty σ H1 fun y H2 => ∃ a v, x = .ref a ∧ DGet H2 a y (some v) ∧ Q v H2
def tDIn (ty td : TE) : TE := fun σ H Q => ty σ H fun y H1 => td σ H1 fun x H2 => ∃ a o, x = .ref a ∧ DGet H2 a y o ∧ Q (.bl o.isSome) H2
section
variable {X : Cx} {o i e value : Expr} {pos pos' tpos : Pos} {td ty tv : TE}
theorem Zc7 (hu : X.A.units + 1 < cLine) (ho : PE X o td) (hi : PE X i ty) (hs : NoSl i) : PE X (.Subscript o i pos) (tDGet td ty) := by
 intro pins s σ H Q I h
 refine Zc0 PySem.F.slot_dict_getitem.lookup hs (thn (ho pins s σ H _ I h) fun u s1 ⟨x, H1, I1, rx, q1⟩ => thn (hi pins s1 σ H1 _ I1 q1) fun iv s2 ⟨y, H2, I2, ry, a, v, ex, g, q2⟩ => ?_)
 subst ex
 obtain rfl : u = Value.ref a := rx
 exact ⟨UW I2 g, ZbO hu I2 g ry fun w' s3 I3 rw' => ⟨v, H2, I3, rw', q2⟩⟩
theorem ZdP (hu : X.A.units + 1 < cLine) (hi : PE X i ty) (ho : PE X o td) : PC X .In i o (tDIn ty td) := by
 intro pins s σ H Q I h
 refine thn (hi pins s σ H _ I h) fun iv s1 ⟨y, H1, I1, ry, q1⟩ => thn (ho pins s1 σ H1 _ I1 q1) fun u s2 ⟨x, H2, I2, rx, a, ov, ex, g, q2⟩ => ?_
 subst ex
 obtain rfl : u = Value.ref a := rx
 exact d_in hu I2 g ry fun s3 I3 => ⟨.bl ov.isSome, H2, I3, rfl, q2⟩
end
theorem UV {P : Program} {w : World} {H : Hp} (h : Heap) (hb : sysModules < h.objs.size) : ObjOk P w H (h.push { cls := .type "dict", data := .dict #[] }) h.objs.size (.dK []) :=
 ⟨Nat.zero_le _, beq_eq_false_iff_ne.mpr (Ne.symm (Nat.ne_of_lt hb)), [], .nil, Heap.DictOf.new h⟩
def tDNewK : TE := fun _ H Q => ∀ p, H p = none → Q (.ref p) (upd H p (.dK []))
section
variable {X : Cx} {pos : Pos}
theorem Ux : PE X (.Dict [] [] pos) tDNewK := fun pins s σ H Q I h =>
 wpAny_Dict_empty ⟨.ref s.heap.objs.size, _, I.laid (a := s.heap.objs.size) (o := .dK []) (t' := s.toks) (fun _ _ q => Heap.get?_push_of_some _ q) (Nat.le_refl _) (UV s.heap I.big), rfl, h _ (I.hok.fresh (Nat.le_refl _))⟩
end
def tPairs : List (TE × TE) → St → Hp → (List (V × V) → Hp → Prop) → Prop
 | [], _, H, Q => Q [] H
 | (tk, tv) :: r, σ, H, Q => tk σ H fun x H1 => tv σ H1 fun y H2 => tPairs r σ H2 fun ps H3 => Q ((x, y) :: ps) H3
abbrev VV : List (V × V) → List (Value × Value) → Prop := Paired fun p q => RelV p.1 q.1 ∧ RelV p.2 q.2
def PPs (X : Cx) (pos : Pos) (keys : List (Option Expr)) (values : List Expr) (trs : List (TE × TE)) : Prop :=
 ∀ (pins : List (Addr × Obj)) (s : Shared) (σ : St) (H : Hp) (Q : List (V × V) → Hp → Prop), Inv X pins σ H s → tPairs trs σ H Q →
  wpAny (model X.prog X.w) X.A (evalPairs (pairTrees keys values X.env pos)) (fun vs s' => ∃ ps H', Inv X pins σ H' s' ∧ VV ps vs ∧ Q ps H') X.xe s
theorem Zc3 {X : Cx} {pos : Pos} : PPs X pos [] [] [] := fun pins s σ H Q I h => pairTrees_nil_walk ⟨[], H, I, .nil, h⟩
theorem Zb4 {X : Cx} {pos : Pos} {k v : Expr} {ks : List (Option Expr)} {vs : List Expr} {tk tv : TE} {trs : List (TE × TE)} (hk : PE X k tk) (hv : PE X v tv) (hr : PPs X pos ks vs trs) :
  PPs X pos (some k :: ks) (v :: vs) ((tk, tv) :: trs) := fun pins s σ H Q I h =>
 pairTrees_cons_walk (thn (hk pins s σ H _ I h) fun u s1 ⟨x, H1, I1, rx, q1⟩ => thn (hv pins s1 σ H1 _ I1 q1) fun w2 s2 ⟨y, H2, I2, ry, q2⟩ =>
  thn (hr pins s2 σ H2 _ I2 q2) fun ws s3 ⟨ps, H3, I3, rel, q3⟩ => ⟨(x, y) :: ps, H3, I3, .cons ⟨rx, ry⟩ rel, q3⟩)
def mergeK (kvs more : List (Key × V)) : List (Key × V) := more.foldl (fun acc kv => putK acc kv.1 kv.2) kvs
theorem KV.merge : ∀ {more : List (Key × V)} {rs : List (Key × Value)} {kvs : List (Key × V)} {vs : List (Key × Value)}, KV more rs → KV kvs vs → KV (mergeK kvs more) (merged vs rs) := by
 intro more rs kvs vs r
 unfold KV at r
 induction r generalizing kvs vs with
 | nil => intro q; exact q
 | @cons p q ps qs h t ih =>
  intro r0
  have e : KV (putK kvs p.1 p.2) (stored vs q.1 q.2) := by
   have := r0.put p.1 h.2
   rw [← h.1]; exact this
  exact ih e
theorem YZ : ∀ (more kvs : List (Key × V)), (mergeK kvs more).length ≤ kvs.length + more.length
 | [], kvs => by show kvs.length ≤ kvs.length + 0; omega
 | p :: r, kvs => by
  have h1 := YZ r (putK kvs p.1 p.2)
  have h2 := UL kvs p.1 p.2
  show (mergeK (putK kvs p.1 p.2) r).length ≤ _
  rw [List.length_cons]; omega
theorem Wi {P : Program} {w : World} : ∀ {kvs : List (Key × V)} {ws : List (Value × Value)}, VV (kvs.map fun kv => (kV kv.1, kv.2)) ws → ∃ rs, Carries (mixKind P w) ws rs ∧ KV kvs rs
 | [], _, r => by rw [List.map_nil] at r; cases r; exact ⟨[], True.intro, .nil⟩
 | p :: kvs, _, r => by
  rw [List.map_cons] at r
  cases r with
  | @cons a b as bs h t =>
   obtain ⟨rs, c, q⟩ := Wi (P := P) (w := w) t
   obtain ⟨b1, b2⟩ := b
   exact ⟨(p.1, b2) :: rs, ⟨ZaU h.1, rfl, c⟩, .cons ⟨rfl, h.2⟩ q⟩
def tDisp (trs : List (TE × TE)) : TE := fun σ H Q => ∀ p, H p = none → tPairs trs σ (upd H p (.dK [])) fun ps H2 => H2 p = some (.dK []) ∧ ∃ kvs : List (Key × V), ps = kvs.map (fun kv => (kV kv.1, kv.2)) ∧ kvs.length ≤ 15 ∧ Q (.ref p) (upd H2 p (.dK (mergeK [] kvs)))
theorem Zc6 {X : Cx} {pos : Pos} {keys : List (Option Expr)} {values : List Expr} {trs : List (TE × TE)} (h : PPs X pos keys values trs) (hall : keys.all (·.isSome) = true) (hl : keys.length = values.length) (h0 : keys ≠ [])
  (h15 : keys.length ≤ 15) : PE X (.Dict keys values pos) (tDisp trs) := by
 intro pins s σ H Q I q
 have hn := I.hok.fresh (Nat.le_refl s.heap.objs.size)
 have I1 := I.laid (a := s.heap.objs.size) (o := .dK []) (h' := s.heap.push { cls := .type "dict", data := .dict #[] }) (t' := s.toks) (fun _ _ q => Heap.get?_push_of_some _ q) (Nat.le_refl _) (UV s.heap I.big)
 refine wpAny_Dict_walk (knd := mixKind X.prog X.w) hall hl h0 h15 (thn (h pins _ σ _ _ I1 (q _ hn)) fun ws s2 ⟨ps, H2, I2, rel, e, kvs, ep, lk, q2⟩ => ?_)
 subst ep
 obtain ⟨rs, c, rk⟩ := Wi (P := X.prog) (w := X.w) rel
 obtain ⟨z, hd, vs0, r0, dd⟩ := Zen I2.hok e
 cases r0
 refine ⟨rs, c, dd, fun h' dd' hs => ⟨.ref s.heap.objs.size, _, ?_, rfl, q2⟩⟩
 have hz : (mergeK [] kvs).length ≤ sizeLine := by
  have h1 := YZ kvs []
  rw [List.length_nil] at h1
  rw [sizeLine_eq]; omega
 have he : ∃ q, h'.get? s.heap.objs.size = some q := let ⟨q, _, _, hq, _⟩ := dd'; ⟨q, hq⟩
 exact Zdo I2 (by rw [e]; exact True.intro) hs he (Zea hz hd (rk.merge .nil) dd')
structure M1 (X : Cx) (o : Expr) (m : Str) (apos : Pos) (e : Expr) (cpos : Pos) : Prop where
 base : attributeBase o m X.env (eval o X.env) = eval o X.env
 few : ((backTo cpos (starEach [e] X.env)).all (fun x => !x.1) && (backToKw cpos (keywordEach [] X.env)).all (fun x => x.1.isSome)
  && decide (([e] : List Expr).length + ([] : List Keyword).length + (if ([] : List Keyword).isEmpty then 0 else 1) < 30)) = true
 line : (apos.endLine == cpos.line) = true
 trees : backTo cpos (starEach [e] X.env) = [(false, eval e X.env)]
structure M2 (X : Cx) (o : Expr) (m : Str) (apos : Pos) (e f : Expr) (cpos : Pos) : Prop where
 base : attributeBase o m X.env (eval o X.env) = eval o X.env
 few : ((backTo cpos (starEach [e, f] X.env)).all (fun x => !x.1) && (backToKw cpos (keywordEach [] X.env)).all (fun x => x.1.isSome)
  && decide (([e, f] : List Expr).length + ([] : List Keyword).length + (if ([] : List Keyword).isEmpty then 0 else 1) < 30)) = true
 line : (apos.endLine == cpos.line) = true
 trees : backTo cpos (starEach [e, f] X.env) = [(false, eval e X.env), (false, eval f X.env)]
end L2
namespace L2
open PySem PySem.Spec PyProof.Rows
end L2
set_option Elab.async false
set_option linter.all false
set_option maxRecDepth 100000
namespace L2
open PySem PySem.Spec PyProof.Rows
def clOf (scope : Scope) (env : Env) : List (Str × Addr) := scope.names.foldl (fun cs y => if y.2 == .free then (y.1, (env.cells.lookup y.1).getD 0) :: cs else cs) []
theorem Ym {scope : Scope} {env : Env} (h : ∀ y ∈ scope.names, y.2 = .free → ∃ c, env.cells.lookup y.1 = some c) : closureFor scope env = pure (clOf scope env) := by
 unfold closureFor clOf
 have key : ∀ (l : List (Str × NameKind)) (cs : List (Str × Addr)), (∀ y ∈ l, y.2 = .free → ∃ c, env.cells.lookup y.1 = some c) →
   (forIn l cs (fun x r => match x with | (name, kind) => if (kind == NameKind.free) = true then do let c ← cellOf env name; pure (ForInStep.yield ((name, c) :: r)) else pure (ForInStep.yield r)) : Sem (List (Str × Addr)))
    = pure (l.foldl (fun cs y => if y.2 == .free then (y.1, (env.cells.lookup y.1).getD 0) :: cs else cs) cs) := by
  intro l
  induction l with
  | nil => intro cs _; rfl
  | cons y l ih =>
   intro cs hl
   obtain ⟨n, k⟩ := y
   rw [List.forIn_cons, List.foldl_cons]
   by_cases hk : k = .free
   ·subst hk
    obtain ⟨c, hc⟩ := hl (n, .free) List.mem_cons_self rfl
    have hc' : env.cells.lookup n = some c := hc
    have e1 : cellOf env n = pure c := by unfold cellOf; rw [hc']
    simp only [beq_self_eq_true, if_true, e1, hc', Option.getD_some, pure_bind]
    exact ih _ fun y hy => hl y (List.mem_cons_of_mem _ hy)
   ·have hb : (k == NameKind.free) = false := by simpa using hk
    simp only [hb, Bool.false_eq_true, if_false, pure_bind]
    exact ih _ fun y hy => hl y (List.mem_cons_of_mem _ hy)
 simp only [key scope.names [] h, pure_bind]
 all_goals rfl
theorem Ys {scope : Scope} {env : Env} {x : Str} {c : Addr} (h : (clOf scope env).lookup x = some c) : c = (env.cells.lookup x).getD 0 ∧ (x, NameKind.free) ∈ scope.names := by
 unfold clOf at h
 have key : ∀ (l : List (Str × NameKind)) (cs : List (Str × Addr)), (l.foldl (fun cs y => if y.2 == .free then (y.1, (env.cells.lookup y.1).getD 0) :: cs else cs) cs).lookup x = some c →
   (c = (env.cells.lookup x).getD 0 ∧ (x, NameKind.free) ∈ l) ∨ cs.lookup x = some c := by
  intro l
  induction l with
  | nil => intro cs h; exact .inr h
  | cons y l ih =>
   intro cs h
   obtain ⟨n, k⟩ := y
   rw [List.foldl_cons] at h
   rcases ih _ h with ⟨h1, h2⟩ | h'
   ·exact .inl ⟨h1, List.mem_cons_of_mem _ h2⟩
   ·by_cases hk : k = .free
    ·subst hk
     simp only [beq_self_eq_true, if_true] at h'
     rw [List.lookup_cons] at h'
     cases hx : x == n with
     | true =>
      rw [hx] at h'
      have e : x = n := by simpa using hx
      subst e
      have e' : (env.cells.lookup x).getD 0 = c := Option.some.inj h'
      exact .inl ⟨e'.symm, List.mem_cons_self⟩
     | false => rw [hx] at h'; exact .inr h'
    ·have hb : (k == NameKind.free) = false := by simpa using hk
     simp only [hb, Bool.false_eq_true, if_false] at h'
     exact .inr h'
 rcases key _ _ h with h | h
 ·exact h
 ·simp at h
theorem Wh {scope : Scope} {env : Env} {x : Str} (h : (x, NameKind.free) ∈ scope.names) : ∃ c, (clOf scope env).lookup x = some c := by
 unfold clOf
 have key : ∀ (l : List (Str × NameKind)) (cs : List (Str × Addr)), ((x, NameKind.free) ∈ l ∨ ∃ c, cs.lookup x = some c) → ∃ c, (l.foldl (fun cs y => if y.2 == .free then (y.1, (env.cells.lookup y.1).getD 0) :: cs else cs) cs).lookup x = some c := by
  intro l
  induction l with
  | nil =>
   intro cs h
   rcases h with h | h
   ·simp at h
   ·exact h
  | cons y l ih =>
   intro cs h
   obtain ⟨n, k⟩ := y
   rw [List.foldl_cons]
   refine ih _ ?_
   by_cases hk : k = .free
   ·subst hk
    simp only [beq_self_eq_true, if_true]
    rw [List.lookup_cons]
    cases hx : x == n with
    | true => exact .inr ⟨_, rfl⟩
    | false =>
     rcases h with h | h
     ·rcases List.mem_cons.mp h with e | h
      ·have e1 : x = n := congrArg Prod.fst e
       simp [e1] at hx
      ·exact .inl h
     ·exact .inr h
   ·have hb : (k == NameKind.free) = false := by simpa using hk
    simp only [hb, Bool.false_eq_true, if_false]
    rcases h with h | h
    ·rcases List.mem_cons.mp h with e | h
     ·exact absurd (congrArg Prod.snd e).symm hk
     ·exact .inl h
    ·exact .inr h
 exact key _ _ (.inl h)
def rl (env : Env) (y : Str × NameKind) : Str × NameKind := if (y.2 == NameKind.free && env.scope.kind == .function && env.kindOf y.1 == some .cell) then (y.1, NameKind.cell) else y
theorem Zb1 (env : Env) (y : Str × NameKind) : (rl env y).1 = y.1 := by unfold rl; split <;> rfl
theorem Zc1 {env : Env} {y : Str × NameKind} (h : y.2 = .free) : (rl env y).2 = .cell ∨ (rl env y).2 = .free := by
 unfold rl; split
 ·exact .inl rfl
 ·exact .inr h
theorem ZdJ {env : Env} {y : Str × NameKind} (h : y.2 ≠ .free) : rl env y = y := by
 have hb : (y.2 == NameKind.free) = false := by simpa using h
 unfold rl; rw [hb]; simp
theorem YX (scope : Scope) (env : Env) : (relabel scope env).names = scope.names.map (rl env) := rfl
theorem W1 {scope : Scope} {env : Env} {x : Str} (hc : ∀ y ∈ scope.names, y.2 ≠ .cell) (h : (relabel scope env).names.lookup x = some .cell ∨ (relabel scope env).names.lookup x = some .free) : (x, NameKind.free) ∈ scope.names := by
 rw [YX] at h
 have key : ∀ (l : List (Str × NameKind)), (∀ y ∈ l, y.2 ≠ .cell) → (∃ k, (k = NameKind.cell ∨ k = .free) ∧ (l.map (rl env)).lookup x = some k) → (x, NameKind.free) ∈ l := by
  intro l
  induction l with
  | nil => rintro _ ⟨k, _, h⟩; simp at h
  | cons y l ih =>
   rintro hl ⟨k', hk', h⟩
   obtain ⟨n, k⟩ := y
   have e1 : (rl env (n, k)) = (n, (rl env (n, k)).2) := Prod.ext (Zb1 env _) rfl
   rw [List.map_cons, e1, List.lookup_cons] at h
   cases hx : x == n with
   | true =>
    have e : x = n := by simpa using hx
    subst e
    by_cases hk : k = .free
    ·subst hk; exact List.mem_cons_self
    ·rw [hx] at h
     rw [ZdJ (env := env) (y := (x, k)) hk] at h
     have e : k = k' := Option.some.inj h
     subst e
     rcases hk' with z | z
     ·exact absurd z (hl _ List.mem_cons_self)
     ·exact absurd z hk
   | false =>
    rw [hx] at h
    exact List.mem_cons_of_mem _ (ih (fun y hy => hl y (List.mem_cons_of_mem _ hy)) ⟨k', hk', h⟩)
 refine key _ hc ?_
 rcases h with h | h
 ·exact ⟨_, .inl rfl, h⟩
 ·exact ⟨_, .inr rfl, h⟩
theorem YW {scope : Scope} {env : Env} {x : Str} (h : scope.names.lookup x = some .free) : (relabel scope env).names.lookup x = some .cell ∨ (relabel scope env).names.lookup x = some .free := by
 rw [YX]
 have key : ∀ (l : List (Str × NameKind)), l.lookup x = some .free → (l.map (rl env)).lookup x = some .cell ∨ (l.map (rl env)).lookup x = some .free := by
  intro l
  induction l with
  | nil => intro h; simp at h
  | cons y l ih =>
   intro h
   obtain ⟨n, k⟩ := y
   have e1 : (rl env (n, k)) = (n, (rl env (n, k)).2) := Prod.ext (Zb1 env _) rfl
   rw [List.map_cons, e1, List.lookup_cons]
   rw [List.lookup_cons] at h
   cases hx : x == n with
   | true =>
    rw [hx] at h
    have e : k = .free := Option.some.inj h
    rcases Zc1 (env := env) (y := (n, k)) e with z | z
    ·exact .inl (congrArg some z)
    ·exact .inr (congrArg some z)
   | false => rw [hx] at h; exact ih h
 exact key _ h
def blk (X : Cx) (N' : List Str) (scope : Scope) (C : Addr) (s2 : Shared) (H2 : Hp) (fp : List Addr) : Cx :=
 { X with N := N', s₀ := s2, H₀ := H2, env := compEnvC scope (clOf scope X.env) C X.env, outer := X.stack, stack := X.stack, ex := fp, fn := fun _ => false, pn := [], xe := fun _ _ => False }
def compOk (so si : Scope) (N N' : List Str) (ts : Nat) (cap : List Nat) : Bool :=
 decide (si.kind = .function) && si.names.all (fun y => y.2 != .cell) && si.names.all (fun y => y.2 != .local || si.names.lookup y.1 == some .local)
 && si.names.all (fun y => y.2 != .free || so.names.lookup y.1 == some .cell || so.names.lookup y.1 == some .free)
 && decide N'.Nodup && decide (N'.length = ts + cap.length)
 && (List.range cap.length).all (fun k => (N'[ts + k]? == (cap[k]?.bind fun j => N[j]?)) && (N'[ts + k]?.isSome) && (N'[ts + k]?.all fun x => so.names.lookup x != some .local && si.names.lookup x == some .free))
def capSt (ts : Nat) (cap : List Nat) (σ : St) : St := List.replicate ts none ++ cap.map fun j => (σ[j]?).join
structure CompS (X : Cx) (N' : List Str) (ts : Nat) (cap : List Nat) (scope : Scope) : Prop where
 kind : scope.kind = .function
 nocell : ∀ y ∈ scope.names, y.2 ≠ .cell
 names : ∀ y ∈ scope.names, y.2 = .local → scope.names.lookup y.1 = some .local
 free : ∀ y ∈ scope.names, y.2 = .free → X.env.kindOf y.1 = some .cell ∨ X.env.kindOf y.1 = some .free
 nd : N'.Nodup
 len : N'.length = ts + cap.length
 capd : ∀ k j, cap[k]? = some j → ∃ x, N'[ts + k]? = some x ∧ X.N[j]? = some x ∧ X.env.kindOf x ≠ some .local ∧ scope.names.lookup x = some .free
theorem Y3 {x : Str} {k : NameKind} : ∀ {l : List (Str × NameKind)}, l.lookup x = some k → (x, k) ∈ l
 | [], h => by simp at h
 | (n, j) :: l, h => by
  rw [List.lookup_cons] at h
  cases hx : x == n with
  | true =>
   rw [hx] at h
   have e : x = n := by simpa using hx
   have e' : j = k := Option.some.inj h
   subst e e'
   exact List.mem_cons_self
  | false => rw [hx] at h; exact List.mem_cons_of_mem _ (Y3 h)
theorem UY {X : Cx} {N' : List Str} {ts : Nat} {cap : List Nat} {scope : Scope} (h : compOk X.env.scope scope X.N N' ts cap = true) : CompS X N' ts cap scope := by
 unfold compOk at h
 simp only [Bool.and_eq_true] at h
 obtain ⟨⟨⟨⟨⟨⟨h1, h2⟩, h3⟩, h4⟩, h5⟩, h6⟩, h7⟩ := h
 refine ⟨of_decide_eq_true h1, fun y hy z => ?_, fun y hy z => ?_, fun y hy z => ?_, of_decide_eq_true h5, of_decide_eq_true h6, fun k j hk => ?_⟩
 ·have q := List.all_eq_true.mp h2 y hy
  rw [z] at q; exact absurd q (by decide)
 ·have q := List.all_eq_true.mp h3 y hy
  rw [z] at q
  simpa using q
 ·have q := List.all_eq_true.mp h4 y hy
  rw [z] at q
  simpa [Env.kindOf] using q
 ·have hlt : k < cap.length := (List.getElem?_eq_some_iff.mp hk).1
  have q := List.all_eq_true.mp h7 k (List.mem_range.mpr hlt)
  simp only [Bool.and_eq_true] at q
  obtain ⟨⟨q1, q2⟩, q3⟩ := q
  obtain ⟨x, hx⟩ := Option.isSome_iff_exists.mp q2
  rw [hx] at q1 q3
  rw [hk] at q1
  have e1 : some x = X.N[j]? := by simpa using q1
  have q3' : (X.env.scope.names.lookup x != some .local && scope.names.lookup x == some .free) = true := q3
  simp only [Bool.and_eq_true] at q3'
  refine ⟨x, hx, e1.symm, ?_, by simpa using q3'.2⟩
  have z := q3'.1
  intro e
  have e' : X.env.scope.names.lookup x = some .local := e
  rw [e'] at z
  exact absurd z (by decide)
section
variable {X : Cx} {pins : List (Addr × Obj)} {σ : St} {H : Hp} {s : Shared}
theorem Zdl {N' : List Str} {ts : Nat} {cap : List Nat} {scope : Scope} {fp : List Addr} {h' : Heap} {t' : Nat} {m : Str → Option Value} {C : Addr} (S : CompS X N' ts cap scope) (I : Inv X pins σ H s) (hf : ∀ b ∈ fp, FpOk X pins H b)
  (ho : ∀ b ∈ fp, ∃ o, s.heap.get? b = some o) (hC : s.heap.objs.size ≤ C) (hn : h'.Ns C m) (k : ∀ b o, s.heap.get? b = some o → h'.get? b = some o) :
  Inv (blk X N' scope C s H fp) [] (capSt ts cap σ) H { s with heap := h', toks := t' } := by
 have sub : ∀ x c, (clOf scope X.env).lookup x = some c → X.env.cells.lookup x = some c := fun x c e => by
  obtain ⟨e1, e2⟩ := Ys e
  obtain ⟨c', hc'⟩ := I.ok.has x (S.free _ e2 rfl)
  rw [hc'] at e1
  rw [hc', e1]; rfl
 have neC : ∀ b o, s.heap.get? b = some o → b ≠ C := fun b o e => Nat.ne_of_lt (Nat.lt_of_lt_of_le (Heap.lt_size e) hC)
 refine ⟨⟨I.ok.mod, ?_, I.ok.glob, I.ok.blt, hC, fun x y c e1 e2 => I.ok.inj x y c (sub x c e1) (sub y c e2), fun x hx => ?_, fun x c z _ => absurd z Bool.false_ne_true, I.ok.hd, I.ok.frames, .inl rfl, fun b hb => ?_, fun b o e => I.bs b o e, Nat.le_trans I.ok.bsz I.sz, fun b o e hb => ?_, fun b hb => ?_, I.stack, I.stkFree⟩,
  rfl, I.bare, Un.kept k, ⟨m, hn, fun i x v e1 e2 e3 => ?_⟩, fun x c e => ?_, I.hok.fresh hC, fun x c e => I.freeC x c (sub x c e), fun p hp => absurd (show p ∈ ([] : List (Addr × Obj)) from hp) (by simp), I.hok.kept k, ?_⟩
 ·show (relabel scope X.env).kind = .function
  exact S.kind
 ·exact Wh (W1 S.nocell hx)
 ·obtain ⟨o, e⟩ := ho b hb
  refine ⟨neC b o e, fun x c ec => ?_⟩
  exact (hf b hb).2.2.2.2.1 x c (sub x c ec)
 ·obtain ⟨e1, e2⟩ := I.bs b o e
  obtain ⟨f0, f1, f2, f3, f4, f5⟩ := hf b hb
  rcases f3 with z | z
  ·exact I.ok.noex b o e z
  ·exact absurd (Nat.lt_of_lt_of_le (Heap.lt_size (I.ok.bs b o e).1) z) (Nat.lt_irrefl _)
 ·intro z
  obtain ⟨f0, f1, f2, f3, f4, f5⟩ := hf b hb
  rcases List.mem_cons.mp (I.stkSub b z) with q | q
  ·exact f1 q
  ·exact f2 q
 ·-- the names' values
  have hlen : ¬ i < ts := fun hlt => by
   unfold capSt at e2
   rw [List.getElem?_append_left (by simpa using hlt), List.getElem?_replicate] at e2
   split at e2 <;> cases e2
  have e2' : (cap.map fun j => (σ[j]?).join)[i - ts]? = some (some v) := by
   unfold capSt at e2
   rw [List.getElem?_append_right (by simpa using hlen), List.length_replicate] at e2
   exact e2
  rw [List.getElem?_map] at e2'
  cases hc : cap[i - ts]? with
  | none => rw [hc] at e2'; cases e2'
  | some j =>
   rw [hc] at e2'
   have e3' : (σ[j]?).join = some v := Option.some.inj e2'
   have e4 : σ[j]? = some (some v) := by
    cases q : σ[j]? with
    | none => rw [q] at e3'; cases e3'
    | some o => rw [q] at e3'; exact congrArg some e3'
   obtain ⟨x', n1, n2, n3, n4⟩ := S.capd _ _ hc
   have ei : ts + (i - ts) = i := by omega
   rw [ei] at n1
   have ex : x = x' := by
    have e1' : N'[i]? = some x := e1
    rw [n1] at e1'; exact (Option.some.inj e1').symm
   subst ex
   obtain ⟨mX, hnX, hl⟩ := I.loc
   have vis : Vis X.env.scope x := by
    rcases S.free _ (Y3 n4) rfl with z | z
    ·exact .inr (.inl z)
    ·exact .inr (.inr z)
   obtain ⟨u, ru, lk⟩ := hl j x v n2 e4 vis
   refine ⟨u, ru, ?_⟩
   rcases lk with ⟨z, _⟩ | ⟨z, c, ec, hcell⟩
   ·exact absurd z n3
   ·obtain ⟨c', hc'⟩ := Wh (env := X.env) (Y3 n4)
    have := sub x c' hc'
    rw [ec] at this
    cases this
    refine .inr ⟨?_, c, hc', hcell.keeps k⟩
    exact YW n4
 ·obtain ⟨v, z⟩ := I.cell x c (sub x c e)
  exact ⟨v, z.keeps k⟩
 ·show (capSt ts cap σ).length = N'.length
  unfold capSt
  rw [List.length_append, List.length_replicate, List.length_map, S.len]
end
def AccAt (h : Heap) (D : Addr) (ys : List V) : Prop := ys.length ≤ sizeLine ∧ ∃ (its : List Value) (n : Nat), Vals ys its ∧ h.get? D = some { cls := .type "list", data := .seq its.toArray n }
theorem AccAt.keep {h h' : Heap} {D : Addr} {ys : List V} (a : AccAt h D ys) (k : ∀ o, h.get? D = some o → h'.get? D = some o) : AccAt h' D ys := by
 obtain ⟨z, its, n, r, e⟩ := a
 exact ⟨z, its, n, r, k _ e⟩
abbrev TC := List V → St → Hp → (List V → St → Hp → Prop) → Prop
def PIn (Y : Cx) (D : Addr) (m : Sem PySem.Fin → Sem PySem.Fin) (t : TC) : Prop :=
 ∀ (pins : List (Addr × Obj)) (s : Shared) (σ : St) (H : Hp) (ys : List V) (Q : List V → St → Hp → Prop) (k : Sem PySem.Fin) (R : PySem.Fin → Shared → Prop), Inv Y pins σ H s → FpOk Y pins H D → AccAt s.heap D ys → t ys σ H Q →
  (∀ s' ys' σ' H', Inv Y pins σ' H' s' → FpOk Y pins H' D → AccAt s'.heap D ys' → Q ys' σ' H' → wpAny (model Y.prog Y.w) Y.A k R (fun _ _ => False) s') → wpAny (model Y.prog Y.w) Y.A (m k) R (fun _ _ => False) s
def testsOf (ifs : List Expr) (env : Env) : Sem Bool := forIn ifs true fun c r => if r = true then do let ok ← isTrue c env (eval c env); pure (ForInStep.yield ok) else pure (ForInStep.yield r)
def PTs (Y : Cx) (ifs : List Expr) (t : TT) : Prop :=
 ∀ (pins : List (Addr × Obj)) (s : Shared) (σ : St) (H : Hp) (Q : Bool → Hp → Prop), Inv Y pins σ H s → t σ H Q → wpAny (model Y.prog Y.w) Y.A (testsOf ifs Y.env) (TP Y pins σ Q) Y.xe s
def tTrue : TT := fun _ H Q => Q true H
section
variable {Y : Cx} {D : Addr}
theorem Yt : PTs Y [] tTrue := fun pins s σ H Q I h => wpAny_tests_nil ⟨H, I, h⟩
theorem ZaC {c : Expr} {t : TT} (hc : PT Y c t) : PTs Y [c] t := fun pins s σ H Q I h => wpAny_tests_one (hc pins s σ H Q I h)
def tEmit (te : TE) : TC := fun ys σ H Q => te σ H fun v H1 => ys.length < sizeLine ∧ Q (ys ++ [v]) σ H1
theorem AccAt.nocell {h : Heap} {ys : List V} (a : AccAt h D ys) : ∀ b ∈ [D], ∃ o, h.get? b = some o ∧ ∀ v, o.data ≠ .cell v := fun b hb => by
 have e : b = D := by simpa using hb
 subst e
 obtain ⟨z, its, n, r, e⟩ := a
 exact ⟨_, e, fun v z => by
  have z' : Data.seq its.toArray n = Data.cell v := z
  cases z'⟩
theorem AccAt.through {h : Heap} {pins : List (Addr × Obj)} {σ' : St} {H' : Hp} {s' : Shared} {ys : List V} (a : AccAt h D ys) (I : Inv Y (pins ++ pinsAt [D] h) σ' H' s') : AccAt s'.heap D ys ∧ H' D = none := by
 obtain ⟨z, its, n, r, e⟩ := a
 have q := I.pin (D, _) (List.mem_append_right _ (List.mem_append_right _ (ZN (List.mem_singleton.mpr rfl) e)))
 exact ⟨⟨z, its, n, r, q.1⟩, q.2.1⟩
theorem Z8 {elt : Expr} {te : TE} (hx : Y.xe = fun _ _ => False) (he : PE Y elt te) :
    PIn Y D (fun k => (do let _ ← call (.builtin "list.append") [.ref D, ← eval elt Y.env]) >>= fun _ => k) (tEmit te) := by
  intro pins s σ H ys Q k R I f a h hk
  refine wpAny_bind (wpAny_mono (Q := fun _ s' => ∃ ys' σ' H', Inv Y pins σ' H' s' ∧ FpOk Y pins H' D ∧ AccAt s'.heap D ys' ∧ Q ys' σ' H') ?_ (fun _ s' ⟨ys', σ', H', q1, q2, q3, q4⟩ => hk s' ys' σ' H' q1 q2 q3 q4) fun _ _ z => z)
  have I' := I.pinned (fp := [D]) (fun b hb => by have e : b = D := by simpa using hb
                                                  subst e; exact f) a.nocell
  refine wpAny_bind (wpAny_mono (he _ s σ H _ I' h) (fun u s1 ⟨v, H1, I1, ru, hz, q⟩ => ?_) fun e s1 z => by rw [hx] at z; exact z)
  obtain ⟨a1, n1⟩ := a.through I1
  have f1 : FpOk Y pins H1 D := ⟨n1, f.2⟩
  obtain ⟨z, its, n, r, e⟩ := a1
  have hl := r.length
  refine wpAny_bind (call_meets F.slot_list_append ⟨_, e, rfl⟩ F.entry_list_append (F.args_list_append_2 _ _) (PySem.list_append D its.toArray n u (by rw [List.size_toArray]; omega)) ⟨e, wpAny_pure ?_⟩)
  have q2 := PySem.IsL.update e (·.push u)
  obtain ⟨f0, g1, g2, g3, g4, g5⟩ := f1
  have I2 : Inv Y pins σ H1 { s1 with heap := s1.heap.update D (Obj.mapSeq (·.push u)) } := I1.unpinned.turned (t' := s1.toks) (it := D) (fun b o hb eb => (Heap.get?_update_other s1.heap _ (Ne.symm hb)).trans eb) f0 g1 g3 g4 g5
  refine ⟨ys ++ [v], σ, H1, I2, ⟨f0, g1, g2, g3, g4, g5⟩, ⟨by rw [List.length_append, List.length_singleton]; omega, its ++ [u], (if ((its.toArray.push u).size == its.toArray.size) = true then n else n + 1), r.append (.cons ru .nil), ?_⟩, q⟩
  have e3 : its.toArray.push u = (its ++ [u]).toArray := by simp
  rw [← e3]
  exact q2
def inner (elt : Expr) (gens : List Comprehension) (scope : Scope) (pos : Pos) (d : Nat) (acc : Value) (env : Env) (k : Sem PySem.Fin) : Sem PySem.Fin :=
 match gens[d + 1]? with
 | some g' => eval g'.iter env >>= fun x => standAt g'.iter.pos >>= fun _ => foldedSetIterable g'.iter env x >>= fun x => holding [x] (pyIter x) >>= fun itv =>
   runOwn (.compStart (.ListComp elt gens scope pos) (d + 1) itv acc env) env >>= fun _ => k
 | none => (do let _ ← call (.builtin "list.append") [acc, ← eval elt env]) >>= fun _ => k
set_option maxHeartbeats 400000 in
theorem UX (elt tg iter : Expr) (ifs : List Expr) (gens : List Comprehension) (scope : Scope) (pos : Pos) (d : Nat) (it acc : Value) (env : Env) (hg : gens[d]? = some ⟨tg, iter, ifs, 0⟩) (h2 : ∀ g', gens[d + 1]? = some g' → g'.is_async = 0) :
  compTurn (.ListComp elt gens scope pos) d it acc env = (standAt iter.pos >>= fun _ => pyNext it >>= fun r => match r with
   | none => pure (.done .next)
   | some v => letOwnedTupleGo tg it v >>= fun _ => assign tg env v >>= fun _ => testsOf ifs env >>= fun ok =>
    if ok = true then inner elt gens scope pos d acc env (again (.compLoop (.ListComp elt gens scope pos) d it acc env)) else again (.compLoop (.ListComp elt gens scope pos) d it acc env)) := by
 unfold compTurn inner
 dsimp only
 rw [hg]
 generalize hn : gens[d + 1]? = o
 cases o with
 | none => rfl
 | some g' =>
  have e := h2 g' hn
  obtain ⟨t', i', f', a'⟩ := g'
  have e' : a' = 0 := e
  subst e'
  rfl
def tNestW (g : TG) (tt : TT) (ti : TC) (J : It) : TC := fun ys σ H Q => ∃ W : Nat → Nat → List V → St → Hp → Prop, (∃ m, W 0 m ys σ H) ∧ ∀ i m ys σ H, W i m ys σ H →
 (J.stop i H ∧ Q ys σ H) ∨ (J.go i H ∧ ∃ N : List V → St → Hp → Prop, (∀ ys' σ' H', N ys' σ' H' → ∃ m', m' < m ∧ W (i + 1) m' ys' σ' H') ∧
  ∀ x H', J.yld i H x H' → g x σ H' fun σ2 H2 => tt σ2 H2 fun b H3 => if b = true then ti ys σ2 H3 N else N ys σ2 H3)
theorem WS {elt tg iter : Expr} {ifs : List Expr} {gens : List Comprehension} {scope : Scope} {pos : Pos} {d : Nat} {it : Addr} {fp : List Addr} {tn : Nat → Heap → Prop} {J : It} {g : TG} {tt : TT} {ti : TC} {pins : List (Addr × Obj)} {s : Shared} {σ : St} {H : Hp} {ys : List V} {Q : List V → St → Hp → Prop}
    (hx : Y.xe = fun _ _ => False) (hc : Y.calm = true) (hg : gens[d]? = some ⟨tg, iter, ifs, 0⟩) (T : Turn Y.prog Y.w Y.K tg J fp it tn) (hf : ∀ b ∈ fp, FpOk Y pins H b) (st : tn 0 s.heap) (hD : D ∉ fp)
    (h2 : ∀ g', gens[d + 1]? = some g' → g'.is_async = 0) (pg : PG Y tg g) (pt : PTs Y ifs tt) (pi : PIn Y D (inner elt gens scope pos d (.ref D) Y.env) ti)
    (I : Inv Y pins σ H s) (f : FpOk Y pins H D) (a : AccAt s.heap D ys) (h : tNestW g tt ti J ys σ H Q) :
    codeAny (model Y.prog Y.w) Y.A (.compLoop (.ListComp elt gens scope pos) d (.ref it) (.ref D) Y.env) (fun r s' => match r with
      | .ok _ => ∃ ys' σ' H', Inv Y pins σ' H' s' ∧ FpOk Y pins H' D ∧ AccAt s'.heap D ys' ∧ Q ys' σ' H'
      | .error _ => False) s := by
  obtain ⟨W, ⟨m0, w0⟩, turn⟩ := h
  have stat : ∀ {H' : Hp}, (∀ b ∈ fp, H' b = none) → ∀ b ∈ fp, FpOk Y pins H' b := fun hn b hb => ⟨hn b hb, (hf b hb).2⟩
  refine codeAny_loop rfl (fun n s' => ∃ i ys' σ' H', Inv Y pins σ' H' s' ∧ FpOk Y pins H' D ∧ AccAt s'.heap D ys' ∧ tn i s'.heap ∧ (∀ b ∈ fp, H' b = none) ∧ W i n ys' σ' H') (fun n s3 hI => ?_) m0 ⟨0, ys, σ, H, I, f, a, st, fun b hb => (hf b hb).1, w0⟩
  obtain ⟨i, ys3, σ3, H3, I3, f3, a3, st3, fr3, w3⟩ := hI
  show wpAny _ Y.A ((compTurn (.ListComp elt gens scope pos) d (.ref it) (.ref D) Y.env).onRaise (fun x => do noteFrame x Y.env; theTreesLotGoes x)) _ _ s3
  refine wpAny_noted (wpAny_mono (E := fun _ _ => False) ?_ (fun _ _ q => q) fun _ _ z => z.elim)
  rw [UX elt tg iter ifs gens scope pos d (.ref it) (.ref D) Y.env hg h2]
  refine wpAny_bind (wpAny_standAt (wpAny_bind ?_))
  have aD : ∀ {h h' : Heap}, (∀ b o, b ∉ fp → h.get? b = some o → h'.get? b = some o) → ∀ {zs}, AccAt h D zs → AccAt h' D zs := fun k _ q => q.keep fun o e => k D o hD e
  have I3' := I3.pinned (fp := [D]) (fun b hb => by have e : b = D := by simpa using hb
                                                    subst e; exact f3) a3.nocell
  have stat' : ∀ b ∈ fp, FpOk Y (pins ++ pinsAt [D] s3.heap) H3 b := fun b hb => by
    obtain ⟨g0, g1, g2, g3, g4, g5⟩ := stat fr3 b hb
    refine ⟨g0, g1, g2, g3, g4, fun p hp => ?_⟩
    rcases List.mem_append.mp hp with z | z
    · exact g5 p (List.mem_append_left _ z)
    · rcases List.mem_append.mp z with z | z
      · exact g5 p (List.mem_append_right _ z)
      · intro q
        have e : p.1 = D := by simpa using (Jr z).1
        exact hD (by rw [← e, q]; exact hb)
  rcases turn i n ys3 σ3 H3 w3 with ⟨stop, qn⟩ | ⟨go, N, hN, step⟩
  · refine wpAny_mono (T.done Y rfl rfl rfl hc i _ s3 σ3 H3 (fun _ _ => False) I3' stat' st3 stop) (fun r s4 ⟨hr, I4⟩ => ?_) fun _ _ z => z
    subst hr
    obtain ⟨a4, n4⟩ := a3.through I4
    exact wpAny_pure ⟨ys3, σ3, H3, I4.unpinned, f3, a4, qn⟩
  · refine wpAny_mono (T.item Y rfl rfl rfl hc i _ s3 σ3 H3 (fun _ _ => False) I3' stat' st3 go) (fun r s4 ⟨u, hr, h4⟩ => ?_) fun _ _ z => z
    subst hr
    refine wpAny_bind (wpAny_mono h4 (fun _ s5 ⟨x, H5, I5, r5, y5, st5, fr5⟩ => ?_) fun _ _ z => z)
    obtain ⟨a5, n5⟩ := a3.through I5
    have f5 : FpOk Y pins H5 D := ⟨n5, f3.2⟩
    have ho5 : ∀ b ∈ D :: fp, ∃ o, s5.heap.get? b = some o ∧ ∀ v, o.data ≠ .cell v := fun b hb => by
      rcases List.mem_cons.mp hb with e | hb
      · exact a5.nocell b (by simp [e])
      · exact T.obj _ _ st5 b hb
    have I5' := I5.unpinned.pinned (fp := D :: fp) (fun b hb => by
      rcases List.mem_cons.mp hb with e | hb
      · rw [e]; exact f5
      · exact stat fr5 b hb) ho5
    refine wpAny_bind (wpAny_mono (pg _ s5 σ3 H5 x u _ I5' r5 (step x H5 y5)) (fun _ s6 ⟨σ6, H6, I6, q6⟩ => ?_) fun _ _ z => by rw [hx] at z; exact z)
    refine wpAny_bind (wpAny_mono (pt _ s6 σ6 H6 _ I6 q6) (fun b s7 ⟨H7, I7, q7⟩ => ?_) fun _ _ z => by rw [hx] at z; exact z)
    have pinD : ∀ {σ7 : St} {H7 : Hp} {s7 : Shared}, Inv Y (pins ++ pinsAt (D :: fp) s5.heap) σ7 H7 s7 → AccAt s7.heap D ys3 ∧ H7 D = none := fun {σ7 H7 s7} J => by
      obtain ⟨z, its, n, r, e⟩ := id a5
      have q := J.pin (D, _) (List.mem_append_right _ (List.mem_append_right _ (ZN List.mem_cons_self e)))
      exact ⟨⟨z, its, n, r, q.1⟩, q.2.1⟩
    have pinF : ∀ {σ7 : St} {H7 : Hp} {s7 : Shared}, Inv Y (pins ++ pinsAt (D :: fp) s5.heap) σ7 H7 s7 → tn (i + 1) s7.heap ∧ ∀ b ∈ fp, H7 b = none := fun {σ7 H7 s7} J => by
      refine ⟨T.keep _ _ _ st5 fun b hb o e => (J.pin (b, o) (List.mem_append_right _ (List.mem_append_right _ (ZN (List.mem_cons_of_mem _ hb) e)))).1, fun b hb => ?_⟩
      obtain ⟨o, e, dd⟩ := T.obj _ _ st5 b hb
      exact (J.pin (b, o) (List.mem_append_right _ (List.mem_append_right _ (ZN (List.mem_cons_of_mem _ hb) e)))).2.1
    cases b with
    | false =>
      simp only [Bool.false_eq_true, if_false] at q7 ⊢
      obtain ⟨m', hm, w7⟩ := hN _ _ _ q7
      obtain ⟨a7, n7⟩ := pinD I7
      obtain ⟨t7, r7⟩ := pinF I7
      exact wpAny_pure ⟨rfl, m', hm, i + 1, ys3, σ6, H7, I7.unpinned, ⟨n7, f3.2⟩, a7, t7, r7, w7⟩
    | true =>
      simp only [if_true] at q7 ⊢
      obtain ⟨a7, n7⟩ := pinD I7
      obtain ⟨t7, r7⟩ := pinF I7
      have I7' := I7.unpinned.pinned (fp := fp) (stat r7) (T.obj _ _ t7)
      have f7 : FpOk Y (pins ++ pinsAt fp s7.heap) H7 D := by
        obtain ⟨g0, g1, g2, g3, g4, g5⟩ := f3
        refine ⟨n7, g1, g2, g3, g4, fun p hp => ?_⟩
        rcases List.mem_append.mp hp with z | z
        · exact g5 p (List.mem_append_left _ z)
        · rcases List.mem_append.mp z with z | z
          · exact g5 p (List.mem_append_right _ z)
          · intro q
            exact hD (by rw [← q]; exact (Jr z).1)
      refine pi _ s7 σ6 H7 ys3 N _ _ I7' f7 a7 q7 fun s8 ys8 σ8 H8 I8 f8 a8 q8 => ?_
      obtain ⟨m', hm, w8⟩ := hN _ _ _ q8
      refine wpAny_pure ⟨rfl, m', hm, i + 1, ys8, σ8, H8, I8.unpinned, ⟨f8.1, f3.2⟩, a8, T.keep _ _ _ t7 fun b hb o e => (I8.pin (b, o) (List.mem_append_right _ (List.mem_append_right _ (ZN hb e)))).1, fun b hb => ?_, w8⟩
      obtain ⟨o, e, dd⟩ := T.obj _ _ t7 b hb
      exact (I8.pin (b, o) (List.mem_append_right _ (List.mem_append_right _ (ZN hb e)))).2.1
theorem Wf {elt tg iter : Expr} {ifs : List Expr} {gens : List Comprehension} {scope : Scope} {pos : Pos} {d : Nat} {it : Addr} {R : Result → Shared → Prop} {s : Shared} {A : Around} {prog : Program} {w : World} {env : Env} {acc : Value} {fp : List Addr} {tn : Nat → Heap → Prop} {J : It} {K : PySem.W.Frag}
  (hg : gens[d]? = some ⟨tg, iter, ifs, 0⟩) (T : Turn prog w K tg J fp it tn) {i : Nat} (st : tn i s.heap) (h : codeAny (model prog w) A (.compLoop (.ListComp elt gens scope pos) d (.ref it) acc env) R s) :
  codeAny (model prog w) A (.compStart (.ListComp elt gens scope pos) d (.ref it) acc env) R s := by
 refine codeAny_of_tree ?_
 show wpAny _ _ ((compStart (.ListComp elt gens scope pos) d (.ref it) acc env).onRaise (fun x => do noteFrame x env; standAt theWindowsPlace)) _ _ s
 refine wpAny_notedAt ?_
 have hg' : (clausesOf (.ListComp elt gens scope pos))[d]? = some ⟨tg, iter, ifs, 0⟩ := hg
 unfold compStart
 rw [hg']
 show wpAny _ _ (ask >>= _) _ _ s
 refine wpAny_bind (wpAny_askSetting (wpAny_ite ?_))
 split
 ·first
   | exact wpAny_bind (wpAny_pure (wpAny_pure (And.intro rfl h)))
   | exact wpAny_pure (And.intro rfl h)
 ·refine wpAny_bind (wpAny_rule ?_)
  show wpAny _ _ (standAt iter.pos >>= _) _ _ s
  exact wpAny_bind (wpAny_standAt (wpAny_bind (T.self A i s _ _ st (wpAny_pure (And.intro rfl h)))))
def tNest (wi : TI) (g : TG) (tt : TT) (ti : TC) : TC := fun ys σ H Q => wi σ H fun J H1 => tNestW g tt ti J ys σ H1 Q
theorem Zb5 {elt tg iter : Expr} {ifs : List Expr} {gens : List Comprehension} {scope : Scope} {pos : Pos} {d : Nat} {wi : TI} {g : TG} {tt : TT} {ti : TC}
    (hx : Y.xe = fun _ _ => False) (hc : Y.calm = true) (hg : gens[d + 1]? = some ⟨tg, iter, ifs, 0⟩) (hi : PI Y tg iter wi) (pg : PG Y tg g) (pt : PTs Y ifs tt) (pi : PIn Y D (inner elt gens scope pos (d + 1) (.ref D) Y.env) ti)
    (hs : ∀ x, foldedSetIterable iter Y.env x = pure x) (h2 : ∀ g', gens[d + 1 + 1]? = some g' → g'.is_async = 0) : PIn Y D (inner elt gens scope pos d (.ref D) Y.env) (tNest wi g tt ti) := by
  intro pins s σ H ys Q k R I f a h hk
  unfold inner
  rw [hg]
  have I' := I.pinned (fp := [D]) (fun b hb => by have e : b = D := by simpa using hb
                                                  subst e; exact f) a.nocell
  refine wpAny_bind (wpAny_mono (hi _ s σ H _ I' h) (fun v s1 h1 => ?_) fun _ _ z => by rw [hx] at z; exact z)
  refine wpAny_bind (wpAny_standAt (wpAny_bind (wpAny_of_eq (hs v) (wpAny_bind (wpAny_holding (wpAny_mono h1 (fun itv s2 h2 => ?_) fun _ _ z => by rw [hx] at z; exact z))))))
  obtain ⟨it, fp, tn, J, H2, e, I2, T, st2, f2, q2⟩ := h2
  subst e
  obtain ⟨a2, n2⟩ := a.through I2
  have fD : FpOk Y pins H2 D := ⟨n2, f.2⟩
  have hD : D ∉ fp := fun z => by
    obtain ⟨z1, its, n, r, e⟩ := a
    exact (f2 D z).2.2.2.2.2 (D, _) (List.mem_append_right _ (List.mem_append_right _ (ZN (List.mem_singleton.mpr rfl) e))) rfl
  have f2' : ∀ b ∈ fp, FpOk Y pins H2 b := fun b hb => by
    obtain ⟨g0, g1, g2, g3, g4, g5⟩ := f2 b hb
    exact ⟨g0, g1, g2, g3, g4, fun p hp => g5 p (by
      rcases List.mem_append.mp hp with z | z
      · exact List.mem_append_left _ z
      · exact List.mem_append_right _ (List.mem_append_left _ z))⟩
  refine wpAny_bind (wpAny_runOwn (codeAny_mono (Wf hg T st2 (WS (Q := Q) hx hc hg T f2' st2 hD h2 pg pt pi I2.unpinned fD a2 q2)) fun r s' hr => ?_))
  cases r with
  | ok fl =>
    obtain ⟨ys', σ', H', q1, q2, q3, q4⟩ := hr
    exact hk s' ys' σ' H' q1 q2 q3 q4
  | error e => exact hr.elim
end
section
variable {X : Cx} {pins : List (Addr × Obj)} {σ : St} {H H' : Hp} {s s' : Shared}
theorem U4 {N' : List Str} {scope : Scope} {C D : Addr} {fp : List Addr} {σ' : St} {ys : List V} {pl : List (Addr × Obj)} {h' : Heap} (I : Inv X pins σ H s) (hf : ∀ b ∈ fp, FpOk X pins H b) (hC : s.heap.objs.size ≤ C) (hD : s.heap.objs.size ≤ D) (hDC : D ≠ C)
  (J : Inv (blk X N' scope C s H fp) pl σ' H' s') (n : H' D = none) (a : AccAt s'.heap D ys) (sb : Heap.SameBut C s'.heap h') : Inv X pins σ (upd H' D (.lst ys)) { s' with heap := h' } := by
 have neC : ∀ b o, s.heap.get? b = some o → b ≠ C := fun b o e => Nat.ne_of_lt (Nat.lt_of_lt_of_le (Heap.lt_size e) hC)
 have neD : ∀ b o, s.heap.get? b = some o → b ≠ D := fun b o e => Nat.ne_of_lt (Nat.lt_of_lt_of_le (Heap.lt_size e) hD)
 have neD' : ∀ b o, H b = some o → b ≠ D := fun b o e => Nat.ne_of_lt (Nat.lt_of_lt_of_le (I.hok.lt e) hD)
 have fC : H' C = none := J.free
 have u : Un (frs X.stack) fp H H' s.heap s'.heap := J.base
 refine I.call' (s' := { s' with heap := h' }) (ch := fp) J.os ⟨fun b o e nb hb hx => (sb.2 b (neC b o e)).trans (u.keep b o e nb hb hx), fun b o e nb hb hx => ?_, fun b o e nb hx => by rw [Zh (neD b o e)]; exact u.free b o e nb hx, fun b o e hx => ?_,
  fun b xs e => by rw [Zh (neD' b _ e)]; exact u.tups b xs e, fun b o xs e => by rw [Zh (neD' b _ e)]; exact u.frzs b o xs e, fun b ps e => by rw [Zh (neD' b _ e)]; exact u.tbls b ps e⟩ (fun b v e => ?_) J.bare fun b hb => ?_
 ·obtain ⟨sl, q⟩ := u.slot b o e nb hb hx
  exact ⟨sl, (sb.2 b (neC b o e)).trans q⟩
 ·obtain ⟨o', q⟩ := u.there b o e hx
  exact ⟨o', (sb.2 b (neC b o e)).trans q⟩
 ·by_cases hb : b = D
  ·subst hb
   rw [Zc] at e
   cases e
   obtain ⟨z, its, k, r, q⟩ := a
   exact ⟨z, its, k, r, (sb.2 b hDC).trans q⟩
  ·rw [Zh hb] at e
   refine (J.hok b v e).stay (fun c w hc q => (sb.2 c ?_).trans q) (fun c q => by rw [Zh (Zk q n)]; exact q) fun c xs q => by rw [Zh (Zk q n)]; exact q
   rcases hc with z | z
   ·rw [z]; exact Zk e fC
   ·exact Zk z fC
 ·obtain ⟨f0, f1, f2, f3, f4, f5⟩ := hf b hb
  exact ⟨f3, f1, f4, f5⟩
theorem Wg {elt tg iter : Expr} {ifs : List Expr} {rest : List Comprehension} {scope : Scope} {pos : Pos} {N' : List Str} {ts : Nat} {cap : List Nat} {it : Addr} {fp : List Addr} {tn : Nat → Heap → Prop} {J : It} {g : TG} {tt : TT} {ti : TC} {Q : List V → Hp → Prop} {E : Value → Shared → Prop} {RR : Value → Addr → Result → Shared → Prop}
  (S : CompS X N' ts cap scope) (hc : X.calm = true) (I : Inv X pins σ H s) (T : Turn X.prog X.w X.K tg J fp it tn) (st : tn 0 s.heap) (hf : ∀ b ∈ fp, FpOk X pins H b)
  (h2 : ∀ g', (Comprehension.mk tg iter ifs 0 :: rest)[0 + 1]? = some g' → g'.is_async = 0)
  (pg : ∀ C, PG (blk X N' scope C s H fp) tg g) (pt : ∀ C, PTs (blk X N' scope C s H fp) ifs tt)
  (pi : ∀ C D, PIn (blk X N' scope C s H fp) D (inner elt (⟨tg, iter, ifs, 0⟩ :: rest) scope pos 0 (.ref D) (blk X N' scope C s H fp).env) ti)
  (h : tNestW g tt ti J [] (capSt ts cap σ) H fun ys _ H2 => Q ys H2)
  (hRR : ∀ C D s' σ' H' ys fl, s.heap.objs.size ≤ C → s.heap.objs.size ≤ D → D ≠ C → Inv (blk X N' scope C s H fp) [] σ' H' s' → H' D = none → AccAt s'.heap D ys → Q ys H' → RR (.ref D) C (.ok fl) s') :
  wpAny (model X.prog X.w) X.A (newList []) (fun acc s₃ => wpAny (model X.prog X.w) X.A (newFunctionEnv scope X.env.globals (clOf scope X.env) [] X.env.qual none .none (some X.env)) (fun cenv s₄ =>
   codeAny (model X.prog X.w) X.A (.compStart (.ListComp elt (⟨tg, iter, ifs, 0⟩ :: rest) scope pos) 0 (.ref it) acc { cenv with scope := relabel scope X.env }) (RR acc cenv.locals) s₄) E s₃) E s := by
 refine wpAny_newObj_type (wpAny_newFunctionEnv S.nocell (by intro y hy; simp at hy) (fun h₁ hns₁ hsb₁ => ?_) S.kind)
 dsimp only at hns₁ hsb₁ ⊢
 generalize hH2 : s.heap.push { cls := .type "list", dict := none, data := .seq ([] : List Value).toArray } = h0 at hns₁ hsb₁ ⊢
 have hC : h0.objs.size = s.heap.objs.size + 1 := by rw [← hH2, Heap.size_push]
 have hDC : s.heap.objs.size ≠ h0.objs.size := by rw [hC]; exact Nat.ne_of_lt (Nat.lt_succ_self _)
 have hCle : s.heap.objs.size ≤ h0.objs.size := by rw [hC]; exact Nat.le_succ _
 have neC : ∀ b o, s.heap.get? b = some o → b ≠ h0.objs.size := fun b o e => Nat.ne_of_lt (Nat.lt_of_lt_of_le (Heap.lt_size e) hCle)
 have old : ∀ b o, s.heap.get? b = some o → h₁.get? b = some o := fun b o e => hsb₁.extBut b o (neC b o e) (Heap.get?_push_of_some _ (hH2 ▸ Heap.get?_push_of_some _ e))
 have hacc : h₁.get? s.heap.objs.size = some { cls := .type "list", data := .seq ([] : List Value).toArray 0 } := hsb₁.extBut _ _ hDC (Heap.get?_push_of_some _ (hH2 ▸ Heap.get?_push_size _ rfl))
 have ho : ∀ b ∈ fp, ∃ o, s.heap.get? b = some o := fun b hb => let ⟨o, e, _⟩ := T.obj _ _ st b hb; ⟨o, e⟩
 have I1 : Inv (blk X N' scope h0.objs.size s H fp) [] (capSt ts cap σ) H { s with heap := h₁, toks := s.toks + ([] : List (Str × Value)).length } := Zdl S I hf ho hCle hns₁ old
 have fresh := I.hok.fresh (a := s.heap.objs.size) (Nat.le_refl _)
 have fpY : ∀ b ∈ fp, FpOk (blk X N' scope h0.objs.size s H fp) [] H b := fun b hb => by
  obtain ⟨f0, f1, f2, f3, f4, f5⟩ := hf b hb
  refine ⟨f0, (I1.ok.exf b hb).1, I1.ok.exfs b hb, .inl hb, (I1.ok.exf b hb).2, fun p hp => absurd (show p ∈ ([] : List (Addr × Obj)) from hp) (by simp)⟩
 have fD : FpOk (blk X N' scope h0.objs.size s H fp) [] H s.heap.objs.size := by
  refine ⟨fresh, hDC, fun z => ?_, .inr (Nat.le_refl _), fun x c e z => ?_, fun p hp => absurd (show p ∈ ([] : List (Addr × Obj)) from hp) (by simp)⟩
  ·obtain ⟨_, o, ho', _⟩ := I.stack.mem z
   exact absurd (Heap.lt_size ho') (Nat.lt_irrefl _)
  ·obtain ⟨e1, e2⟩ := Ys e
   obtain ⟨c', hc'⟩ := I.ok.has x (S.free _ e2 rfl)
   obtain ⟨v, q⟩ := I.cell x c' hc'
   rw [hc'] at e1
   have e3 : c = c' := e1
   have l := q.lt
   rw [← e3, z] at l
   exact absurd l (Nat.lt_irrefl _)
 have aD : AccAt h₁ s.heap.objs.size [] := ⟨Nat.zero_le _, [], 0, .nil, hacc⟩
 have hDf : s.heap.objs.size ∉ fp := fun z => by obtain ⟨o, e⟩ := ho _ z; exact absurd (Heap.lt_size e) (Nat.lt_irrefl _)
 have st1 : tn 0 h₁ := T.keep _ _ _ st fun b _ o e => old b o e
 have run := Wf (elt := elt) (gens := ⟨tg, iter, ifs, 0⟩ :: rest) (scope := scope) (pos := pos) (d := 0) rfl T st1
  (WS (Y := blk X N' scope h0.objs.size s H fp) (D := s.heap.objs.size) (Q := fun ys _ H2 => Q ys H2) (elt := elt) (gens := ⟨tg, iter, ifs, 0⟩ :: rest) (scope := scope) (pos := pos) (d := 0) rfl hc rfl T fpY st1 hDf h2 (pg _) (pt _) (pi _ _) I1 fD aD h)
 refine codeAny_mono run fun r s' hr => ?_
 cases r with
 | error e => exact hr.elim
 | ok fl =>
  obtain ⟨ys', σ', H', q1, q2, q3, q4⟩ := hr
  exact hRR _ _ s' σ' H' ys' fl hCle (Nat.le_refl _) hDC q1 q2.1 q3 q4
end
def tComp (wi : TI) (ts : Nat) (cap : List Nat) (g : TG) (tt : TT) (ti : TC) : TE := fun σ H Q => wi σ H fun J H1 => tNestW g tt ti J [] (capSt ts cap σ) H1 fun ys _ H2 => ∀ p, H2 p = none → Q (.ref p) (upd H2 p (.lst ys))
section
variable {X : Cx} {elt tg iter : Expr} {ifs : List Expr} {rest : List Comprehension} {scope : Scope} {pos : Pos} {wi : TI} {g : TG} {tt : TT} {ti : TC}
theorem YO (N' : List Str) (ts : Nat) (cap : List Nat) (hi : PI X tg iter wi) (pg : ∀ C s H fp, PG (blk X N' scope C s H fp) tg g) (pt : ∀ C s H fp, PTs (blk X N' scope C s H fp) ifs tt)
  (pi : ∀ C s H fp D, PIn (blk X N' scope C s H fp) D (inner elt (⟨tg, iter, ifs, 0⟩ :: rest) scope pos 0 (.ref D) (blk X N' scope C s H fp).env) ti)
  (ok : compOk X.env.scope scope X.N N' ts cap = true := by rfl) (hc : X.calm = true := by rfl) (h2 : ∀ g', (Comprehension.mk tg iter ifs 0 :: rest)[0 + 1]? = some g' → g'.is_async = 0 := by (intro g' h; cases h <;> rfl))
  (hs : ∀ x, foldedSetIterable iter X.env x = pure x := by intro _; rfl) :
  PE X (.ListComp elt (⟨tg, iter, ifs, 0⟩ :: rest) scope pos) (tComp wi ts cap g tt ti) := by
 intro pins s σ H Q I h
 have S := UY ok
 rw [eval_ListComp]
 refine wpAny_comprehension_free (use := none) rfl hs (Ym fun y hy e => I.ok.has _ (S.free y hy e)) S.kind S.names (thn (hi pins s σ H _ I h) fun v s1 h1 => thn h1 fun itv s2 h2' => ?_)
 obtain ⟨it, fp, tn, J, H2, e, I2, T, st2, f2, q2⟩ := h2'
 subst e
 refine Wg (RR := fun acc C => compPost (model X.prog X.w) X.A X.xe none _ acc C) S hc I2 T st2 f2 h2 (fun C => pg C _ _ _) (fun C => pt C _ _ _) (fun C D => pi C _ _ _ D) q2 ?_
 intro C D s' σ' H' ys fl hC hD hDC J' n a q
 obtain ⟨m, hn, _⟩ := J'.loc
 exact ⟨m, hn, fun h' sb => ⟨.ref D, _, U4 I2 f2 hC hD hDC J' n a sb, rfl, q D n⟩⟩
theorem ZaD (N' : List Str) (ts : Nat) (cap : List Nat) {i : Nat} {x : Str} {px spos : Pos} (hN : X.N.Nodup) (hix : X.N[i]? = some x) (hx : Loc X.env.scope x) (hi : PI X tg iter wi) (pg : ∀ C s H fp, PG (blk X N' scope C s H fp) tg g) (pt : ∀ C s H fp, PTs (blk X N' scope C s H fp) ifs tt)
  (pi : ∀ C s H fp D, PIn (blk X N' scope C s H fp) D (inner elt (⟨tg, iter, ifs, 0⟩ :: rest) scope pos 0 (.ref D) (blk X N' scope C s H fp).env) ti)
  (hsw : swapsWith (.ListComp elt (⟨tg, iter, ifs, 0⟩ :: rest) scope pos) (some (.Name x px)) spos.line X.env = pure true := by rfl)
  (ok : compOk X.env.scope scope X.N N' ts cap = true := by rfl) (hc : X.calm = true := by rfl) (h2 : ∀ g', (Comprehension.mk tg iter ifs 0 :: rest)[0 + 1]? = some g' → g'.is_async = 0 := by (intro g' h; cases h <;> rfl))
  (hs : ∀ x, foldedSetIterable iter X.env x = pure x := by intro _; rfl) (hfn : X.fn x = true ∨ X.env.scope.names.lookup x = some .local := by first | exact .inl rfl | exact .inr rfl | assumption) :
  PS X (.Assign [.Name x px] (.ListComp elt (⟨tg, iter, ifs, 0⟩ :: rest) scope pos) spos) (tAsg (tComp wi ts cap g tt ti) (gName i)) := by
 intro pins s σ H D I h
 have S := UY ok
 rw [exec_Assign_Name_used _ _ _ _ hsw]
 refine wpAny_bind (wpAny_standAt (wpAny_bind ?_))
 show wpAny _ X.A (do let _ ← comprehension (.ListComp elt (⟨tg, iter, ifs, 0⟩ :: rest) scope pos) scope X.env _ (newList []) false (eval iter X.env) (some (assign (.Name x px) X.env))) _ _ s
 refine wpAny_bind (wpAny_mono (wpAny_comprehension_free (use := some (assign (.Name x px) X.env)) (Q := fun _ s' => ∃ σ' H', Inv X pins σ' H' s' ∧ D.nx σ' H') rfl hs (Ym fun y hy e => I.ok.has _ (S.free y hy e)) S.kind S.names
  (thn (hi pins s σ H _ I h) fun v s1 h1 => thn h1 fun itv s2 h2' => ?_)) (fun _ s' hq => wpAny_pure (wpAny_pure hq)) fun _ _ e => e)
 obtain ⟨it, fp, tn, J, H2, e, I2, T, st2, f2, q2⟩ := h2'
 subst e
 refine Wg (RR := fun acc C => compPost (model X.prog X.w) X.A X.xe (some (assign (.Name x px) X.env)) _ acc C) S hc I2 T st2 f2 h2 (fun C => pg C _ _ _) (fun C => pt C _ _ _) (fun C D => pi C _ _ _ D) q2 ?_
 intro C B s' σ' H' ys fl hC hB hBC J' n a q
 obtain ⟨m, hn, _⟩ := J'.loc
 have IX : Inv X pins σ (upd H' B (.lst ys)) s' := U4 I2 f2 hC hB hBC J' n a (Heap.SameBut.refl C s'.heap)
 have fC := I2.fpOk (H' := upd H' B (.lst ys)) (b := C) hC (by rw [Zh (Ne.symm hBC)]; exact J'.free)
 obtain ⟨f0, f1, f2', f3, f4, f5⟩ := fC
 show wpAny _ X.A (assign (.Name x px) X.env (.ref B)) _ _ s'
 refine wpAny_assign_Name (Wz (v := .ref B) (u := .ref B) IX hN hix hx rfl (fun s'' I'' ⟨c, sb, hcc⟩ => ?_) hfn)
 have hCc : C ≠ c := by
  rcases hcc with z | z
  ·rw [z]; exact f1
  ·exact (f4 x c z).symm
 refine ⟨m, Heap.Ns.sameBut hn sb hCc, fun h' sb' => ?_⟩
 refine ⟨σ.set i (some (.ref B)), _, I''.turned (t' := s''.toks) (it := C) (fun b o hb e => (sb'.2 b hb).trans e) f0 f1 f3 f4 f5, q B n⟩
end
end L2
set_option Elab.async false
set_option linter.all false
set_option maxRecDepth 100000
namespace L2
open PySem PySem.Spec PyProof.Rows
section
variable {X : Cx}
theorem Zw {c : String} : CallR X (.builtin "isinstance") (fun xs H Q => ∃ x t b, xs = [x, .ty c] ∧ TyOf X.K H x t ∧ PySem.W.kitOne X.K t (.type c) = some b ∧ Q (.bl b) H) := by
 intro pins s σ H xs us Q I r h
 obtain ⟨x, t, b, rfl, ty, e, q⟩ := h
 obtain ⟨u, v, rfl, ru, rv⟩ := vals2 r
 cases rv
 exact ZbI I ru ty e fun tk => ⟨.bl b, H, I.tok tk, rfl, q⟩
theorem Jm (hc : X.calm = true := by rfl) : CallR X (.builtin "all") (fun xs H Q => ∃ (p : Addr) (bs : List Bool), xs = [.ref p] ∧ SqL X.K H p (bs.map V.bl) ∧ Q (.bl (bs.all id)) H) := by
 intro pins s σ H xs us Q I r h
 obtain ⟨p, bs, rfl, hp, q⟩ := h
 obtain ⟨u, rfl, ru⟩ := vals1 r
 cases ru
 obtain ⟨its, rv, pl, hz⟩ := I.list hp
 have hb : ∀ (i : Nat) (v : Value), its.toArray[i]? = some v → v = .bool (bs.getD i false) := fun i v e => by
  have e' : its[i]? = some v := by simpa using e
  have hl := rv.length
  have hi : i < its.length := (List.getElem?_eq_some_iff.mp e').1
  have hi' : i < (bs.map V.bl).length := by omega
  obtain ⟨u, hu, ru⟩ := rv.get (i := i) (x := (bs.map V.bl)[i]) (by simp)
  rw [e'] at hu
  cases hu
  rw [List.getElem_map] at ru
  have hi2 : i < bs.length := by simpa using hi'
  have e2 : bs.getD i false = bs[i] := by simp [List.getD_eq_getElem?_getD, hi2]
  rw [e2]
  exact ru
 refine call_all_walk (wpAny_pyIter_list pl.isList ?_)
 have hne : p ≠ s.heap.objs.size := Nat.ne_of_lt (by obtain ⟨o, n, e, _⟩ := pl; exact Heap.lt_size e)
 refine ⟨s.heap.objs.size, _, _, _, _, _, fun i => bs.getD i false, rfl, Walks.list (A := X.A.in1) (show X.A.in1.handled = none from I.ok.hd hc) s.heap.objs.size p hne its.toArray, ⟨⟨_, Heap.get?_push_size _ rfl, rfl, rfl⟩, pl.isList.at fun o e => Heap.get?_push_of_some _ e⟩, fun i v s' Q' E' hP hQ => ?_, fun h' tk hk => ?_⟩
 ·rw [hb i v hP]
  exact wpAny_truthy_bool hQ
 ·have e : (List.range its.toArray.size).all (fun i => bs.getD i false) = bs.all id := by
   have hl : its.toArray.size = bs.length := by have := rv.length; rw [List.length_map] at this; simpa using this.symm
   rw [hl, Bool.eq_iff_iff, List.all_eq_true, List.all_eq_true]
   constructor
   ·intro h b hb
    obtain ⟨i, hi, e⟩ := List.mem_iff_getElem.mp hb
    have := h i (List.mem_range.mpr hi)
    rw [List.getD_eq_getElem?_getD, List.getElem?_eq_getElem hi, Option.getD_some, e] at this
    exact this
   ·intro h i hi
    have hi' := List.mem_range.mp hi
    rw [List.getD_eq_getElem?_getD, List.getElem?_eq_getElem hi', Option.getD_some]
    exact h _ (List.getElem_mem hi')
  rw [e]
  refine ⟨.bl (bs.all id), H, I.kept fun b o eb => hk b o ?_ (Heap.get?_push_of_some _ eb), rfl, q⟩
  intro z
  have e1 : b = s.heap.objs.size := by simpa using z
  exact absurd (Heap.lt_size eb) (by rw [e1]; exact Nat.lt_irrefl _)
def setN (ns : List Int) : Nat := (PyProof.Rows.firstMet (fun i => ns.getD i 0) ns.length).length
theorem Wq (hc : X.calm = true := by rfl) : CallR X (.type "set") (fun xs H Q => ∃ (p : Addr) (ns : List Int), xs = [.ref p] ∧ SqL X.K H p (ns.map V.int) ∧ ns.length ≤ 1000 ∧ ∀ q S, H q = none → Q (.ref q) (upd H q (.set S (setN ns)))) := by
 intro pins s σ H xs us Q I r h
 obtain ⟨p, ns, rfl, hp, hn, q⟩ := h
 obtain ⟨u, rfl, ru⟩ := vals1 r
 cases ru
 obtain ⟨its, rv, pl, hz⟩ := I.list hp
 have hl := rv.length
 rw [List.length_map] at hl
 refine call_set_list (I.ok.hd hc) pl.isList (Wd rv) (by rw [List.size_toArray, ← hl]; unfold scanBound; omega) fun h' tk hs hk => ?_
 have e : its.toArray.size = ns.length := by simp [hl]
 rw [e] at hs
 exact ⟨.ref s.heap.objs.size, _, I.laid (a := s.heap.objs.size) (o := .set _ (setN ns)) (fun b o eb => hk b o (Heap.lt_size eb) eb) (Nat.le_refl _) hs, rfl, q _ _ I.fresh⟩
theorem Ws : CallR X (.builtin "len") (fun xs H Q => ∃ p S n, xs = [.ref p] ∧ H p = some (.set S n) ∧ Q (.int n) H) := by
 intro pins s σ H xs us Q I r h
 obtain ⟨p, S, n, rfl, hp, q⟩ := h
 obtain ⟨u, rfl, ru⟩ := vals1 r
 cases ru
 obtain ⟨o, es, ep, t, h1, h2, h3, h4, h5, h6, h7, h8⟩ := (show ObjOk X.prog X.w H s.heap p (.set S n) from I.hok p _ hp)
 refine call_len_set h1 h2 h3 h7 (by have : scanBound = 4096 := rfl; omega) ⟨.int n, H, I.tok _, ⟨_, by rw [h8]⟩, q⟩
theorem U0 : CallR X (.type "range") (fun xs H Q => ∃ j : Int, xs = [.int j] ∧ ∀ q, H q = none → Q (.ref q) (upd H q (.rng 0 j))) := by
 intro pins s σ H xs us Q I r h
 obtain ⟨j, rfl, q⟩ := h
 obtain ⟨u, rfl, ru⟩ := vals1 r
 obtain ⟨t, rfl⟩ := ru
 refine call_range_1 ?_
 exact ⟨.ref s.heap.objs.size, _, I.laid (a := s.heap.objs.size) (o := .rng 0 j) (fun b o eb => Heap.get?_push_of_some _ eb) (Nat.le_refl _) ⟨_, _, _, Heap.get?_push_size _ rfl⟩, rfl, q _ I.fresh⟩
def upTo (n : Nat) : List V := (List.range n).map fun (i : Nat) => V.int (i : Int)
theorem Ua {acc : Array Value} {n : Nat} (h : ItemsOf (fun i v => ∃ t, v = .int (0 + i * 1) t) acc n) : Vals (upTo n) acc.toList := by
 obtain ⟨h1, h2⟩ := h
 obtain ⟨l⟩ := acc
 have h1 : l.length = n := h1
 have h2 : ∀ (j : Nat) (v : Value), l[j]? = some v → ∃ t, v = .int (j : Int) t := fun j v e => by
  obtain ⟨t, q⟩ := h2 j v (by simpa using e)
  exact ⟨t, by rw [q]; congr 1; omega⟩
 have key : ∀ (l : List Value) (k : Nat), (∀ (j : Nat) (v : Value), l[j]? = some v → ∃ t, v = .int ((k + j : Nat) : Int) t) → Vals ((List.range' k l.length).map fun (i : Nat) => V.int (i : Int)) l := by
  intro l
  induction l with
  | nil => intro k _; exact .nil
  | cons v l ih =>
   intro k h
   rw [List.length_cons, List.range'_succ, List.map_cons]
   obtain ⟨t, e⟩ := h 0 v rfl
   refine .cons ⟨t, by rw [e]; simp⟩ (ih (k + 1) fun j w q => ?_)
   obtain ⟨t', e'⟩ := h (j + 1) w (by simpa using q)
   exact ⟨t', by rw [e']; congr 1; omega⟩
 have := key l 0 (fun j v e => by simpa using h2 j v e)
 unfold upTo
 rw [← h1, List.range_eq_range']
 exact this
theorem Wr (hc : X.calm = true := by rfl) : CallR X (.type "list") (fun xs H Q => ∃ (p : Addr) (j : Int), xs = [.ref p] ∧ H p = some (.rng 0 j) ∧ 0 ≤ j ∧ j ≤ 1000 ∧ ∀ q, H q = none → Q (.ref q) (upd H q (.lst (upTo j.toNat)))) := by
 intro pins s σ H xs us Q I r h
 obtain ⟨p, j, rfl, hp, h0, h1, q⟩ := h
 obtain ⟨u, rfl, ru⟩ := vals1 r
 cases ru
 obtain ⟨t, u, v, e⟩ := (show ObjOk X.prog X.w H s.heap p (.rng 0 j) from I.hok p _ hp)
 refine call_list_range (n := j.toNat) (I.ok.hd hc) e (small_one (by omega) (by omega) (by omega) (by omega)) (by rw [rangeSize_one]; split <;> omega) (by omega) fun h' tk acc c' hk hS hacc => ?_
 have r2 := Ua hacc
 have hlen : (upTo j.toNat).length ≤ sizeLine := by unfold upTo; rw [List.length_map, List.length_range, sizeLine_eq]; omega
 exact ⟨.ref s.heap.objs.size, _, I.laid (a := s.heap.objs.size) (o := .lst (upTo j.toNat)) hk (Nat.le_refl _) ⟨hlen, acc.toList, c', r2, by simpa using hS⟩, rfl, q _ I.fresh⟩
theorem Zcc : OpR X (binaryOp .Add) (fun x y H Q => ∃ a b ys, x = .ref a ∧ y = .ref b ∧ SqT X.K H a [] ∧ SqT X.K H b ys ∧ Q (.ref b) H) := by
 intro pins s σ H x y u v Q I rx ry h
 obtain ⟨a, b, ys, rfl, rfl, ha, hb, q⟩ := h
 cases rx
 cases ry
 obtain ⟨its, rv, pl, hz⟩ := I.tuple ha
 obtain ⟨its2, rv2, pl2, hz2⟩ := I.tuple hb
 cases rv
 obtain ⟨⟨cls, dd, data, sl⟩, ho, hcl, n, hd⟩ := id pl
 obtain ⟨⟨cls2, dd2, data2, sl2⟩, ho2, hc2, n2, hd2⟩ := id pl2
 simp only at hcl hd hc2 hd2
 subst hcl hd hc2 hd2
 exact concat_meets ⟨_, ho, rfl⟩ ⟨_, ho2, rfl⟩ noFill_tuple_add seq_tuple_add PySem.F.slot_tuple_add PySem.F.entry_tuple_add (PySem.F.args_tuple_add_2 _ _)
   (tuple_addW0 a b #[] its2.toArray n n2 dd dd2 sl sl2 rfl) ⟨ho, ho2, ⟨.ref b, H, I, rfl, q⟩⟩
end
end L2
set_option Elab.async false
set_option linter.all false
set_option maxRecDepth 100000
namespace L2
open PySem PySem.Spec PyProof.Rows
theorem Uz {K : PySem.W.Frag} {a : Addr} {xs : List V} {g : TG} {tt : TT} {ti : TC} {ys : List V} {σ : St} {H : Hp} {Q : List V → St → Hp → Prop} (Pv : Nat → List V → St → Hp → Prop) (h0 : Pv 0 ys σ H)
  (hl : ∀ i ys σ H, i ≤ xs.length → Pv i ys σ H → SqT K H a xs)
  (hs : ∀ i x ys σ H, xs[i]? = some x → Pv i ys σ H → g x σ H fun σ2 H2 => tt σ2 H2 fun b H3 => if b = true then ti ys σ2 H3 (Pv (i + 1)) else Pv (i + 1) ys σ2 H3)
  (hd : ∀ ys σ H, Pv xs.length ys σ H → Q ys σ H) : tNestW g tt ti (Itt K a) ys σ H Q := by
 refine ⟨fun i m ys σ H => m = xs.length - i ∧ i ≤ xs.length ∧ Pv i ys σ H, ⟨xs.length, by simp, Nat.zero_le _, h0⟩, ?_⟩
 rintro i m ys σ H ⟨rfl, hi, p⟩
 have q := hl i ys σ H hi p
 by_cases hlt : i < xs.length
 ·refine .inr ⟨⟨xs, xs[i], q, by simp [hlt]⟩, Pv (i + 1), fun ys' σ' H' p' => ⟨xs.length - (i + 1), by omega, rfl, hlt, p'⟩, fun x H' y => ?_⟩
  obtain ⟨e, y⟩ := y
  subst e
  exact hs i x ys σ _ (y xs q) p
 ·have e : i = xs.length := by omega
  subst e
  exact .inl ⟨⟨xs, q, Nat.le_refl _⟩, hd ys σ H p⟩
theorem Zby {K : PySem.W.Frag} {a : Addr} {xs : List V} {g : TG} {tt : TT} {ti : TC} {ys : List V} {σ : St} {H : Hp} {Q : List V → St → Hp → Prop} (Pv : Nat → List V → St → Hp → Prop) (h0 : Pv 0 ys σ H)
  (hl : ∀ i ys σ H, i ≤ xs.length → Pv i ys σ H → SqL K H a xs)
  (hs : ∀ i x ys σ H, xs[i]? = some x → Pv i ys σ H → g x σ H fun σ2 H2 => tt σ2 H2 fun b H3 => if b = true then ti ys σ2 H3 (Pv (i + 1)) else Pv (i + 1) ys σ2 H3)
  (hd : ∀ ys σ H, Pv xs.length ys σ H → Q ys σ H) : tNestW g tt ti (Itl K a) ys σ H Q := by
 refine ⟨fun i m ys σ H => m = xs.length - i ∧ i ≤ xs.length ∧ Pv i ys σ H, ⟨xs.length, by simp, Nat.zero_le _, h0⟩, ?_⟩
 rintro i m ys σ H ⟨rfl, hi, p⟩
 have q := hl i ys σ H hi p
 by_cases hlt : i < xs.length
 ·refine .inr ⟨⟨xs, xs[i], q, by simp [hlt]⟩, Pv (i + 1), fun ys' σ' H' p' => ⟨xs.length - (i + 1), by omega, rfl, hlt, p'⟩, fun x H' y => ?_⟩
  obtain ⟨e, y⟩ := y
  subst e
  exact hs i x ys σ _ (y xs q) p
 ·have e : i = xs.length := by omega
  subst e
  exact .inl ⟨⟨xs, q, Nat.le_refl _⟩, hd ys σ H p⟩
theorem JZ {lo : Int} {n : Nat} {g : TG} {tt : TT} {ti : TC} {ys : List V} {σ : St} {H : Hp} {Q : List V → St → Hp → Prop} (Pv : Nat → List V → St → Hp → Prop) (h0 : Pv 0 ys σ H)
  (hs : ∀ i ys σ H, i < n → Pv i ys σ H → g (.int (lo + i)) σ H fun σ2 H2 => tt σ2 H2 fun b H3 => if b = true then ti ys σ2 H3 (Pv (i + 1)) else Pv (i + 1) ys σ2 H3)
  (hd : ∀ ys σ H, Pv n ys σ H → Q ys σ H) : tNestW g tt ti (Itr lo n) ys σ H Q := by
 refine ⟨fun i m ys σ H => m = n - i ∧ i ≤ n ∧ Pv i ys σ H, ⟨n, by simp, Nat.zero_le _, h0⟩, ?_⟩
 rintro i m ys σ H ⟨rfl, hi, p⟩
 by_cases hlt : i < n
 ·refine .inr ⟨hlt, Pv (i + 1), fun ys' σ' H' p' => ⟨n - (i + 1), by omega, rfl, hlt, p'⟩, fun x H' y => ?_⟩
  obtain ⟨e, y⟩ := y
  subst e y
  exact hs i ys σ _ hlt p
 ·have e : i = n := by omega
  subst e
  exact .inl ⟨Nat.le_refl _, hd ys σ H p⟩
theorem pb {X : Cx} {N' : List Str} {scope : Scope} {C : Addr} {s : Shared} {H : Hp} {fp : List Addr} (i : Nat) {x : Str} {pos : Pos} (hN : N'.Nodup := by decide +kernel) (hi : N'[i]? = some x := by rfl) (hx : (relabel scope X.env).names.lookup x = some .local := by rfl) :
  PG (blk X N' scope C s H fp) (.Name x pos) (gName i) := ZV (X := blk X N' scope C s H fp) hN hi (.inl hx) (.inr hx)
def Def (P : Program) (w : World) (K : PySem.W.Frag) (mg : Str → Option Value) (base : Heap) (k : Nat) (x : Str) (ps : List Str) (sp : Sp) : Prop :=
 ∃ f fd, FnOk P w K mg base CX0 k f fd ps sp ∧ mg x = some (.ref f) ∧ PySem.W.keepIn K (.ref f) = true ∧ Binds K fd ps []
section
variable {X : Cx} {k : Nat} {x : Str} {ps : List Str} {sp : Sp} {e : Expr} {es : List Expr} {t : TA} {p pos : Pos}
theorem Zl (d : Def X.prog X.w X.K X.mg X.base k x ps sp) (hr : Room k X.A) (ha : PA X (e :: es) t) (hg : Gl X x := by rfl) (hdb : (x == ("__debug__" : Str)) = false := by decide)
  (he : starEach (e :: es) X.env = (false, eval e X.env) :: starEach es X.env := by rfl) (hpl : (backTo pos (starEach es X.env)).any (·.1) = false := by rfl) :
  PE X (.Call (.Name x p) (e :: es) [] pos) (tCall sp [] E0 t) := by
 obtain ⟨f, fd, F, hm, hk, hb⟩ := d
 exact JD F hr hg hm hk hb .nil pass0 ha hdb he hpl
end
def PlT (K : PySem.W.Frag) (H : Hp) (x : V) : Prop := ∃ T, TyOf K H x (.type T)
def whole : V → Bool
 | .int _ => true
 | _ => false
def wholeIn : V → Int → Int → Bool
 | .int i, a, b => decide (a ≤ i) && decide (i ≤ b)
 | _, _, _ => false
def tupH : Option HO → Option (List V)
 | some (.tup xs) => some xs
 | _ => none
def tupOf (H : Hp) : V → Option (List V)
 | .ref a => tupH (H a)
 | _ => none
theorem Zx {H : Hp} {a : Addr} : tupOf H (.ref a) = tupH (H a) := rfl
theorem Zm {H : Hp} {a : Addr} {xs : List V} (h : H a = some (.tup xs)) : tupOf H (.ref a) = some xs := by rw [Zx, h]; rfl
theorem Zbe {o : Option HO} {xs : List V} (h : tupH o = some xs) : o = some (.tup xs) := by
 cases o with
 | none => cases h
 | some o => cases o <;> first | (cases h; rfl) | cases h
theorem ZH {H : Hp} {x : V} {xs : List V} (h : tupOf H x = some xs) : ∃ a, x = .ref a ∧ H a = some (.tup xs) := by
 cases x with
 | ref a => exact ⟨a, rfl, Zbe h⟩
 | _ => cases h
theorem Same.tupOf {H H' : Hp} (s : Same H H') {x : V} {xs : List V} (h : L2.tupOf H x = some xs) : L2.tupOf H' x = some xs := by
 obtain ⟨a, rfl, q⟩ := ZH h
 exact Zm (s _ _ q)
theorem Same.plT {K : PySem.W.Frag} {H H' : Hp} (s : Same H H') {x : V} (h : PlT K H x) : PlT K H' x := by
 obtain ⟨T, t⟩ := h
 cases t with
 | non => exact ⟨_, .non⟩
 | bl y => exact ⟨_, .bl y⟩
 | int i => exact ⟨_, .int i⟩
 | str y => exact ⟨_, .str y⟩
 | flt y => exact ⟨_, .flt y⟩
 | lst e => exact ⟨_, .lst (s _ _ e)⟩
 | frz e => exact ⟨_, .frz (s _ _ e)⟩
 | tup e => exact ⟨_, .tup (s _ _ e)⟩
 | dK e => exact ⟨_, .dK (s _ _ e)⟩
 | dT e => exact ⟨_, .dT (s _ _ e)⟩
def isIntV : V → Bool
 | .int _ => true
 | .bl _ => true
 | _ => false
def isBlV : V → Bool
 | .bl _ => true
 | _ => false
theorem Zdk {K : PySem.W.Frag} {H : Hp} {x : V} {T : String} (t : TyOf K H x (.type T)) : PySem.W.kitOne K (.type T) (.type "int") = some (isIntV x) := by cases t <;> rfl
theorem Zcx {K : PySem.W.Frag} {H : Hp} {x : V} {T : String} (t : TyOf K H x (.type T)) : PySem.W.kitOne K (.type T) (.type "bool") = some (isBlV x) := by cases t <;> rfl
theorem ZbF {K : PySem.W.Frag} {H : Hp} {x : V} {T : String} (t : TyOf K H x (.type T)) : PySem.W.kitOne K (.type T) (.type "tuple") = some (tupOf H x).isSome := by
 cases t with
 | tup e => rw [Zm e]; rfl
 | lst e => rw [Zx, e]; rfl
 | frz e => rw [Zx, e]; rfl
 | dK e => rw [Zx, e]; rfl
 | dT e => rw [Zx, e]; rfl
 | _ => rfl
theorem UQ (x : V) : whole x = (isIntV x && !isBlV x) := by cases x <;> rfl
end L2
set_option Elab.async false
set_option linter.all false
set_option maxRecDepth 100000
namespace L2
open PySem PySem.Spec PyProof.Rows
def SameX (p : Addr) (H H' : Hp) : Prop := ∀ b o, H b = some o → b ≠ p → H' b = some o
theorem SameX.trans {p : Addr} {H H1 H2 : Hp} (a : SameX p H H1) (b : SameX p H1 H2) : SameX p H H2 := fun c o h n => b c o (a c o h n) n
theorem Same.x {p : Addr} {H H1 : Hp} (a : Same H H1) : SameX p H H1 := fun c o h _ => a c o h
theorem SameX.upd {p : Addr} {H : Hp} {o : HO} : SameX p H (L2.upd H p o) := fun b u h n => by rw [Zh n]; exact h
end L2
set_option Elab.async false
set_option linter.all false
set_option maxRecDepth 100000
namespace L2
open PySem PySem.Spec PyProof.Rows
section
variable {prog : Program} {w : World} {A : Around} {E : Value → Shared → Prop} {s : Shared}
theorem Zai {j t : Addr} {i : Nat} {its : Array Value} {x : Value} {Q : Value → Shared → Prop} (h1 : s.heap.IsTupleIter j t i) (h2 : s.heap.IsTuple t its) (hx : its[i]? = some x)
  (k : ∀ h', h'.IsTupleIter j t (i + 1) → Heap.SameBut j s.heap h' → Q x { s with heap := h' }) : wpAny (model prog w) A (Builtin.SmallTypes.nextOf (.ref j)) Q E s := by
 obtain ⟨o, eo, co, dO⟩ := id h1
 obtain ⟨ot, et, _, nt, dt⟩ := h2
 unfold Builtin.SmallTypes.nextOf
 refine wpAny_bind (wpAny_callSpecial?_slot (name := Str.ofString "__next__") h1.typeIs F.slot_tuple_iterator_next (wpAny_call_entry F.slot_tuple_iterator_next h1.typeIs F.entry_tuple_iterator_next ?_ (F.args_tuple_iterator_next_1 _)))
 show wpAny _ _ (field (.ref j) 0 >>= _) _ _ s
 refine wpAny_bind (wpAny_field eo dO (x := .ref t) rfl ?_)
 show wpAny _ _ (if (Value.ref t == Value.none) = true then _ else _) _ _ s
 rw [if_neg (show ¬ ((Value.ref t == Value.none) = true) from Bool.false_ne_true)]
 show wpAny _ _ (field (.ref j) 1 >>= _) _ _ s
 refine wpAny_bind (wpAny_field eo dO (x := .int i 0) rfl ?_)
 show wpAny _ _ (seqItems? (.ref t) >>= _) _ _ s
 refine wpAny_bind (wpAny_seqItems et dt ?_)
 simp only [Int.toNat_natCast, hx]
 refine wpAny_bind (wpAny_setField eo dO (by simp) (wpAny_pure ⟨x, rfl, wpAny_pure (k _ ⟨_, Heap.get?_update_self _ eo (Obj.isFreed_of_fields (Obj.data_mapFields dO _)), (Obj.cls_mapFields ..).trans co, ?_⟩ (Heap.SameBut.update ..))⟩))
 rw [Obj.data_mapFields dO]
 simp [rawInt]
theorem Zbw {j t : Addr} {i : Nat} {its : Array Value} {Q : Value → Shared → Prop} (hh : A.handled = none) (h1 : s.heap.IsTupleIter j t i) (h2 : s.heap.IsTuple t its) (hx : its[i]? = none)
  (k : ∀ h' e, Heap.ExtBut j s.heap h' → (∃ o, h'.get? e = some o ∧ o.cls = .type "StopIteration") → E (.ref e) { s with heap := h' }) : wpAny (model prog w) A (Builtin.SmallTypes.nextOf (.ref j)) Q E s := by
 obtain ⟨o, eo, co, dO⟩ := id h1
 obtain ⟨ot, et, _, nt, dt⟩ := h2
 unfold Builtin.SmallTypes.nextOf
 refine wpAny_bind (wpAny_callSpecial?_slot (name := Str.ofString "__next__") h1.typeIs F.slot_tuple_iterator_next (wpAny_call_entry F.slot_tuple_iterator_next h1.typeIs F.entry_tuple_iterator_next ?_ (F.args_tuple_iterator_next_1 _)))
 show wpAny _ _ (field (.ref j) 0 >>= _) _ _ s
 refine wpAny_bind (wpAny_field eo dO (x := .ref t) rfl ?_)
 show wpAny _ _ (if (Value.ref t == Value.none) = true then _ else _) _ _ s
 rw [if_neg (show ¬ ((Value.ref t == Value.none) = true) from Bool.false_ne_true)]
 show wpAny _ _ (field (.ref j) 1 >>= _) _ _ s
 refine wpAny_bind (wpAny_field eo dO (x := .int i 0) rfl ?_)
 show wpAny _ _ (seqItems? (.ref t) >>= _) _ _ s
 refine wpAny_bind (wpAny_seqItems et dt ?_)
 simp only [Int.toNat_natCast, hx]
 refine wpAny_bind (wpAny_rule (wpAny_bind (wpAny_setField eo dO (by simp) ?_)))
 show wpAny _ _ (newExc (.type "StopIteration") [] >>= _) _ _ _
 refine wpAny_bind ?_
 simp only [newExc, newTuple]
 refine wpAny_bind (wpAny_newObj_type ?_ (by size_fits))
 refine wpAny_bind (m := firstArgMember _ _) (wpAny_of_eq (a := Value.none) (by first | rfl | (simp only [firstArgMember]; rfl)) (wpAny_newObj_type ?_ (by size_fits)))
 simp only [raiseNew]
 refine wpAny_bind (wpAny_handled ?_)
 first | rw [show A.in1.handled = none from hh] | rw [hh]
 exact wpAny_bind (wpAny_pure (wpAny_throw (k _ _ (((Heap.SameBut.update ..).extBut.push _).push _) ⟨_, Heap.get?_push_size _ rfl, rfl⟩)))
end
theorem drawsT {prog : Program} {w : World} {A : Around} (hh : A.handled = none) (j t : Addr) (hne : t ≠ j) (its : Array Value) :
  Draws prog w A j [j, t] its.size (fun i v => its[i]? = some v) (fun i h => h.IsTupleIter j t i ∧ h.IsTuple t its) where
 live := fun _ _ st => let ⟨o, ho, _⟩ := st.1; ⟨o, ho⟩
 frame := fun _ _ _ st hk => ⟨st.1.at fun o e => hk j (by simp) o e, st.2.at fun o e => hk t (by simp) o e⟩
 item := fun i s Q E hi st hQ => Zai st.1 st.2 (x := its[i]) (by simp [hi]) fun h' a b => hQ _ h' s.toks (by simp [hi]) ⟨a, st.2.extBut b.extBut hne⟩ b
 done := fun s Q E st hE => Zbw hh st.1 st.2 (by simp) hE
section
variable {prog : Program} {w : World} {A : Around} {E : Value → Shared → Prop} {s : Shared}
theorem ZbM (l : Addr) (its : Array Value) (n : Nat) (dct : Option Addr) (sl : Array (Option Value)) :
  Meets (Builtin.«enumerate.__new__» ⟨[.type "enumerate", .ref l], []⟩) (fun _ R s => s.heap.get? l = some { cls := .type "tuple", dict := dct, data := .seq its n, slots := sl } ∧
   R (.ok (.ret (.ref (s.heap.push { cls := .type "tuple_iterator", data := .fields #[.ref l, .int 0 0] }).objs.size)))
    { s with heap := (s.heap.push { cls := .type "tuple_iterator", data := .fields #[.ref l, .int 0 0] }).push { cls := .type "enumerate", data := .fields #[.none, .bool false, .ref s.heap.objs.size, rawInt 0, .none, .none] } }) :=
 .of_wp fun prog w A R s h => by
  obtain ⟨hp, g, d, tk, os⟩ := s
  obtain ⟨hl, h⟩ := h
  have hsub := sub_enumerate
  have hL : Heap.IsTuple (Shared.heap ⟨hp, g, d, tk, os⟩) l its := ⟨_, hl, rfl, n, rfl⟩
  wp_walk using AutoSeq1.wpAny_loadPart' hl
  refine wpAny_stack_any fun st => wpAny_pure ?_
  split
  ·rename_i c _ _ _ _ _
   cases (c == Value.type "enumerate") <;> (wp_walk using AutoSeq1.wpAny_loadPart' hl, wpAny_pyIter_tuple hL; exact ⟨_, rfl, h⟩)
  ·wp_walk using AutoSeq1.wpAny_loadPart' hl, wpAny_pyIter_tuple hL
   exact ⟨_, rfl, h⟩
theorem Zat {l : Addr} {its : Array Value} {Q : Value → Shared → Prop} (hL : s.heap.IsTuple l its)
  (h : ∀ h', IsEnum h' (s.heap.objs.size + 1) s.heap.objs.size 0 .none → h'.IsTupleIter s.heap.objs.size l 0 → (∀ b o, s.heap.get? b = some o → h'.get? b = some o) → Q (.ref (s.heap.objs.size + 1)) { s with heap := h' }) :
  wpAny (model prog w) A (call (.type "enumerate") [.ref l]) Q E s := by
 obtain ⟨⟨c, dct, dt, sl⟩, hl, hc, n, hd⟩ := hL
 replace hc : c = .type "tuple" := hc
 replace hd : dt = .seq its n := hd
 subst hc hd
 refine callType_new F.called_enumerate (by decide) (F.typeCall_enumerate_1 _) (F.newCall_enumerate_1 _) (fun obj => F.args_object_init_2 obj _) F.entry_enumerate_new (ZbM l its n dct sl) ⟨hl, ?_⟩
 have hz : (s.heap.push { cls := .type "tuple_iterator", data := .fields #[.ref l, .int 0 0] }).objs.size = s.heap.objs.size + 1 := Heap.size_push ..
 show _ ∧ _
 rw [hz]
 have he : IsEnum ((s.heap.push { cls := .type "tuple_iterator", data := .fields #[.ref l, .int 0 0] }).push { cls := .type "enumerate", data := .fields #[.none, .bool false, .ref s.heap.objs.size, rawInt 0, .none, .none] }) (s.heap.objs.size + 1) s.heap.objs.size 0 .none := by
  have q := Heap.get?_push_size (s.heap.push { cls := .type "tuple_iterator", data := .fields #[.ref l, .int 0 0] }) (o := { cls := .type "enumerate", data := .fields #[.none, .bool false, .ref s.heap.objs.size, rawInt 0, .none, .none] }) rfl
  rw [hz] at q
  exact q
 exact ⟨⟨_, he, rfl⟩, h _ he ⟨_, Heap.get?_push_of_some _ (Heap.get?_push_size _ rfl), rfl, rfl⟩ fun b o x => Heap.get?_push_of_some _ (Heap.get?_push_of_some _ x)⟩
end
def Ite (K : PySem.W.Frag) (t : Addr) : It :=
 ⟨fun i H => ∃ xs x, SqT K H t xs ∧ xs[i]? = some x, fun i H x H' => ∃ (T : Addr) (y : V), x = .ref T ∧ H T = none ∧ H' = upd H T (.par [.int (i : Int), y]) ∧ ∀ xs, SqT K H t xs → xs[i]? = some y, fun i H => ∃ xs, SqT K H t xs ∧ xs.length = i⟩
theorem Zbd {P : Program} {w : World} {K : PySem.W.Frag} {elts : List Expr} {kk : Nat} {pos : Pos} (t e j : Addr) (hej : e ≠ j) (hte : t ≠ e) (htj : t ≠ j) :
  Turn P w K (.Tuple elts kk pos) (Ite K t) [e, j] e (fun i h => (∃ old, IsEnum h e j i old) ∧ h.IsTupleIter j t i) where
 mem := by simp
 obj := fun i h st b hb => by
  obtain ⟨⟨old, he⟩, o, ho, hc, hd⟩ := st
  rcases List.mem_cons.mp hb with rfl | hb
  ·exact ⟨_, he, fun v z => by cases z⟩
  ·rw [List.mem_singleton.mp hb]
   exact ⟨o, ho, fun v z => by rw [hd] at z; cases z⟩
 keep := fun i h h' st k => ⟨let ⟨old, he⟩ := st.1; ⟨old, k e (by simp) _ he⟩, st.2.at fun o q => k j (by simp) o q⟩
 item := by
  intro X hP hw hK hc i pins s σ H E I hf st hg
  subst hP hw hK
  obtain ⟨xs, x, hq, hx⟩ := hg
  obtain ⟨its, rv, p, hz⟩ := I.tuple hq
  obtain ⟨u, hu, ru⟩ := rv.get hx
  have hl := rv.length
  have hil : i < its.toArray.size := by
   have := (List.getElem?_eq_some_iff.mp hu).1
   simpa using this
  have W := WalksT.enumerateD (prog := X.prog) (w := X.w) (A := X.A) (drawsT (A := X.A.in1) (show X.A.in1.handled = none from I.ok.hd hc) j t htj its.toArray) e hej (by simp [hej, hte.symm]) (by simp)
  have hT : s.heap.IsTuple t its.toArray := p
  refine W.item i s _ _ hil ⟨st.1, st.2, hT⟩ fun T vals h' tk hP hTs hTup hmid hk => ⟨_, rfl, W.go elts kk pos i T _ _ _ hmid fun h'' st'' hk'' => ?_⟩
  obtain ⟨tk2, x2, hx2, rfl⟩ := hP
  have hx2' : its[i]? = some x2 := by simpa using hx2
  rw [hu] at hx2'
  cases hx2'
  have hTn : H T = none := I.hok.fresh hTs
  have both : ∀ b o, b ∉ [e, j] → s.heap.get? b = some o → h''.get? b = some o := fun b o hb q => hk'' b o hb (hk b o hb q)
  have hTw : T ∉ [e, j] := W.apart _ _ _ hmid
  have hTT : h''.IsTuple T #[.int i tk2, u] := hTup.at fun o q => hk'' T o hTw q
  have neT : ∀ b o, s.heap.get? b = some o → b ≠ T := fun b o q => Nat.ne_of_lt (Nat.lt_of_lt_of_le (Heap.lt_size q) hTs)
  have neT' : ∀ b o, H b = some o → b ≠ T := fun b o q => Zk q hTn
  have trk : ∀ b o, H b = some o → b ∉ [e, j] := fun b o q z => by
   have := (hf b z).1
   rw [this] at q; cases q
  refine ⟨.ref T, upd H T (.par [.int (i : Int), x]), ?_, rfl, ⟨T, x, rfl, hTn, rfl, fun ys hy => by rw [I.tuple_inj hy hq]; exact hx⟩, ⟨st''.1, st''.2.1⟩, fun b hb => ?_⟩
  ·refine (show Inv X pins σ (upd H T (.par [.int (i : Int), x])) { s with heap := h'', toks := tk } from ?_)
   refine I.call (g' := s.gens) (d' := s.drawn) (t' := tk) (h' := h'') (ch := [e, j]) ⟨fun b o q _ _ hx => both b o hx q, fun b o q _ _ hx => ⟨o.slots, both b o hx q⟩, fun b o q n hx => by rw [Zh (neT b o q)]; exact n, fun b o q hx => ⟨o, both b o hx q⟩,
    fun b ys q => by rw [Zh (neT' b _ q)]; exact q, fun b o u q => by rw [Zh (neT' b _ q)]; exact q, fun b ps q => ⟨#[], by rw [Zh (neT' b _ q), q]; simp⟩⟩ (fun b v q => ?_) I.bare fun b hb => ?_
   ·by_cases hb : b = T
    ·subst hb
     rw [Zc] at q
     cases q
     exact ⟨by show 2 ≤ sizeLine; decide, [.int i tk2, u], .cons ⟨tk2, rfl⟩ (.cons ru .nil), hTT⟩
    ·rw [Zh hb] at q
     refine (I.hok b v q).stay (fun c z hc' q' => both c z ?_ q') (fun c q' => by rw [Zh (neT' c _ q')]; exact q') fun c ys q' => by rw [Zh (neT' c _ q')]; exact q'
     rcases hc' with z' | z'
     ·rw [z']; exact trk b v q
     ·exact trk c _ z'
   ·obtain ⟨f0, f1, f2, f3, f4, f5⟩ := hf b hb
    exact ⟨f3, f1, f4, f5⟩
  ·rw [Zh (fun z => hTw (by rw [← z]; exact hb))]
   exact (hf b hb).1
 done := by
  intro X hP hw hK hc i pins s σ H E I hf st hg
  subst hP hw hK
  obtain ⟨xs, hq, hx⟩ := hg
  obtain ⟨its, rv, p, hz⟩ := I.tuple hq
  have hl := rv.length
  have W := WalksT.enumerateD (prog := X.prog) (w := X.w) (A := X.A) (drawsT (A := X.A.in1) (show X.A.in1.handled = none from I.ok.hd hc) j t htj its.toArray) e hej (by simp [hej, hte.symm]) (by simp)
  have hn : i = its.toArray.size := by rw [List.size_toArray]; omega
  have hT : s.heap.IsTuple t its.toArray := p
  rw [hn] at st
  refine W.done s _ _ ⟨st.1, st.2, hT⟩ fun h' tk hk => ⟨rfl, ?_⟩
  have trk : ∀ b o, H b = some o → b ∉ [e, j] := fun b o q z => by
   have := (hf b z).1
   rw [this] at q; cases q
  refine I.call (g' := s.gens) (d' := s.drawn) (t' := tk) (h' := h') (ch := [e, j]) ⟨fun b o q _ _ hx => hk b o hx q, fun b o q _ _ hx => ⟨o.slots, hk b o hx q⟩, fun b o q n hx => n, fun b o q hx => ⟨o, hk b o hx q⟩, fun b ys q => q, fun b o u q => q, fun b ps q => ⟨#[], by rw [q]; simp⟩⟩ (fun b v q => ?_) I.bare fun b hb => ?_
  ·refine (I.hok b v q).stay (fun c z hc' q' => hk c z ?_ q') (fun _ q' => q') fun _ _ q' => q'
   rcases hc' with z' | z'
   ·rw [z']; exact trk b v q
   ·exact trk c _ z'
  ·obtain ⟨f0, f1, f2, f3, f4, f5⟩ := hf b hb
   exact ⟨f3, f1, f4, f5⟩
 self := fun A i s Q E st h => let ⟨old, he⟩ := st.1; wpAny_pyIter_enum he h
section
variable {X : Cx} {elts : List Expr} {kk : Nat} {tp : Pos}
def iEnum (K : PySem.W.Frag) (ta : TA) : TI := fun σ H R => ta σ H fun vs H1 => ∃ t, vs = [.ref t] ∧ (∃ xs, SqT K H1 t xs) ∧ R (Ite K t) H1
theorem ZaH {a : Expr} {ta : TA} {p pos : Pos} (hg : Gl X "enumerate") (hm : X.mg "enumerate" = none) (ha : PA X [a] ta) (hs : starEach [a] X.env = [(false, eval a X.env)] := by rfl) : PI X (.Tuple elts kk tp) (.Call (.Name "enumerate" p) [a] [] pos) (iEnum X.K ta) := by
 intro pins s σ H R I h
 refine Call_ (Yl I hg hm boot_enumerate (PyProof.Rows.callWith_type1 (thn (ha pos pins s σ H _ I h) fun us s1 ⟨vs, H1, I1, r1, q1⟩ => ?_) hs rfl))
 obtain ⟨t, e, ⟨xs, hq⟩, q⟩ := q1
 subst e
 obtain ⟨u, rfl, ru⟩ := vals1 r1
 cases ru
 obtain ⟨its, rv, pl, hz⟩ := I1.tuple hq
 have hT : s1.heap.IsTuple t its.toArray := pl
 have ht : t < s1.heap.objs.size := by obtain ⟨o, ho, _⟩ := hT; exact Heap.lt_size ho
 refine Zat hT fun h' he hj hk => wpAny_pyIter_enum he ?_
 have I2 : Inv X pins σ H1 { s1 with heap := h' } := I1.kept (t' := s1.toks) hk
 refine ⟨s1.heap.objs.size + 1, [s1.heap.objs.size + 1, s1.heap.objs.size], _, _, H1, rfl, I2, Zbd t _ _ (Nat.succ_ne_self _) (Nat.ne_of_lt (Nat.lt_succ_of_lt ht)) (Nat.ne_of_lt ht), ⟨⟨_, he⟩, hj⟩, fun b hb => ?_, q⟩
 have hbs : s1.heap.objs.size ≤ b := by
  rcases List.mem_cons.mp hb with z | z
  ·rw [z]; exact Nat.le_succ _
  ·rw [List.mem_singleton.mp z]; exact Nat.le_refl _
 exact I1.fpOk hbs (I1.hok.fresh hbs)
end
theorem WG {K : PySem.W.Frag} {a : Addr} {xs : List V} {g : TG} {tt : TT} {ti : TC} {ys : List V} {σ : St} {H : Hp} {Q : List V → St → Hp → Prop} (Pv : Nat → List V → St → Hp → Prop) (h0 : Pv 0 ys σ H)
  (hl : ∀ i ys σ H, i ≤ xs.length → Pv i ys σ H → SqT K H a xs)
  (hs : ∀ i x T ys σ H, xs[i]? = some x → H T = none → Pv i ys σ H → g (.ref T) σ (upd H T (.par [.int (i : Int), x])) fun σ2 H2 => tt σ2 H2 fun b H3 => if b = true then ti ys σ2 H3 (Pv (i + 1)) else Pv (i + 1) ys σ2 H3)
  (hd : ∀ ys σ H, Pv xs.length ys σ H → Q ys σ H) : tNestW g tt ti (Ite K a) ys σ H Q := by
 refine ⟨fun i m ys σ H => m = xs.length - i ∧ i ≤ xs.length ∧ Pv i ys σ H, ⟨xs.length, by simp, Nat.zero_le _, h0⟩, ?_⟩
 rintro i m ys σ H ⟨rfl, hi, p⟩
 have q := hl i ys σ H hi p
 by_cases hlt : i < xs.length
 ·refine .inr ⟨⟨xs, xs[i], q, by simp [hlt]⟩, Pv (i + 1), fun ys' σ' H' p' => ⟨xs.length - (i + 1), by omega, rfl, hlt, p'⟩, fun x H' y => ?_⟩
  obtain ⟨T, z, e1, e2, e3, e4⟩ := y
  subst e1 e3
  exact hs i z T ys σ H (e4 xs q) e2 p
 ·have e : i = xs.length := by omega
  subst e
  exact .inl ⟨⟨xs, q, rfl⟩, hd ys σ H p⟩
end L2
set_option Elab.async false
set_option linter.all false
set_option maxRecDepth 100000
namespace L2
open PySem PySem.Spec PyProof.Rows
structure Fl (P : Program) (w : World) (outer : List Env) (H : Hp) (s : Shared) (e C : Addr) (H' : Hp) (s' : Shared) : Prop where
 os : s'.os = s.os
 bare : AllBare s'.gens
 un : Un (frs outer) [] H H' s.heap s'.heap
 hok : HOk P w H' s'.heap
 fly : ∃ B a0, Heap.FlyingW B outer e (.ref C) a0 s'.heap ∧ (∀ b o, s.heap.get? b = some o → b ∉ frs outer → ∃ u, B.get? b = some u) ∧ ∀ b o, H' b = some o → ∃ u, B.get? b = some u
def CXR (P : Program) (w : World) : CXT := fun outer H s E ev s' => ∃ e C H', ev = .ref e ∧ Fl P w outer H s e C H' s' ∧ E (.ref e) (some C) H'
section
variable {P : Program} {w : World} {base : Heap} {env : Env} {outer : List Env} {s0 s1 s2 : Shared} {H0 H1 H2 : Hp} {e C L : Addr} {A : Around}
theorem YR {B h1 h2 : Heap} {H : Hp} (x : HOk P w H h1) (cov : ∀ b o, H b = some o → ∃ u, B.get? b = some u) (k1 : B.StaysIn h1) (k2 : B.StaysIn h2) : HOk P w H h2 := fun a o ha =>
  (x a o ha).stay (fun b u hb hq => by
    have : ∃ u', B.get? b = some u' := by
      rcases hb with rfl | hb
      · exact cov _ _ ha
      · exact cov _ _ hb
    obtain ⟨u', hu⟩ := this
    have e1 := k1 b u' hu
    rw [hq] at e1
    cases e1
    exact k2 b _ hu) (fun _ q => q) fun _ _ q => q
theorem JJ {B h' : Heap} (u0 : Un (frs outer) [] H0 H1 s0.heap s1.heap) (u1 : Un (frs (env :: outer)) [] H1 H2 s1.heap s2.heap) (hf : env.frame = some L) (ab : s0.heap.objs.size ≤ L) (fu : s0.heap.FunFrames base outer) (fz : ∀ b ∈ frs outer, H0 b = none)
  (cov : ∀ b o, s1.heap.get? b = some o → b ∉ frs (env :: outer) → ∃ u, B.get? b = some u) (k1 : B.StaysIn s2.heap) (k2 : B.StaysIn h') (up : s2.heap.UpToSlots h') : Un (frs outer) [] H0 H2 s0.heap h' := by
 have hmem : ∀ b, b ∈ frs (env :: outer) ↔ b = L ∨ b ∈ frs outer := fun b => by
  show b ∈ (env :: outer).filterMap (·.frame) ↔ _
  rw [List.filterMap_cons_some (f := fun (x : Env) => x.frame) (a := env) (b := L) hf, List.mem_cons]
  exact Iff.rfl
 have out : ∀ b o, s0.heap.get? b = some o → b ∉ frs outer → b ∉ frs (env :: outer) := fun b o hb hn hm => by
  rcases (hmem b).mp hm with q | q
  ·rw [q] at hb
   exact absurd (Nat.lt_of_lt_of_le (Heap.lt_size hb) ab) (Nat.lt_irrefl _)
  ·exact hn q
 have keepB : ∀ b o u, s2.heap.get? b = some o → B.get? b = some u → h'.get? b = some o := fun b o u hb hu => by
  have e1 := k1 b u hu
  rw [hb] at e1
  cases e1
  exact k2 b _ hu
 have slotF : ∀ b o, s0.heap.get? b = some o → b ∈ frs outer → ∃ sl, h'.get? b = some { o with slots := sl } := fun b o hb hm => by
  obtain ⟨_, o', ho', nf⟩ := fu.mem hm
  rw [hb] at ho'
  cases ho'
  obtain ⟨sl1, e1⟩ := u0.slot b o hb (fz b hm) hm (by simp)
  have n1 := u0.free b o hb (fz b hm) (by simp)
  obtain ⟨sl2, e2⟩ := u1.slot b _ e1 n1 ((hmem b).mpr (.inr hm)) (by simp)
  obtain ⟨sl3, e3⟩ := up b _ e2 nf
  exact ⟨sl3, e3⟩
 refine ⟨fun b o hb hn hnf _ => ?_, fun b o hb hn hm _ => slotF b o hb hm, fun b o hb hn hx => ?_, fun b o hb _ => ?_, fun b xs hb => u1.tups b xs (u0.tups b xs hb), fun b o u hb => u1.frzs b o u (u0.frzs b o u hb), fun b ps hb => ?_⟩
 ·have e1 := u0.keep b o hb hn hnf (by simp)
  have n1 := u0.free b o hb hn (by simp)
  have hb' := out b o hb hnf
  have e2 := u1.keep b o e1 n1 hb' (by simp)
  obtain ⟨u, hu⟩ := cov b o e1 hb'
  exact keepB b o u e2 hu
 ·obtain ⟨o1, e1⟩ := u0.there b o hb (by simp)
  have n1 := u0.free b o hb hn (by simp)
  exact u1.free b o1 e1 n1 (by simp)
 ·by_cases hm : b ∈ frs outer
  ·obtain ⟨sl, q⟩ := slotF b o hb hm
   exact ⟨_, q⟩
  ·obtain ⟨o1, e1⟩ := u0.there b o hb (by simp)
   obtain ⟨u, hu⟩ := cov b o1 e1 (out b o hb hm)
   exact ⟨u, k2 b u hu⟩
 ·obtain ⟨m1, q1⟩ := u0.tbls b ps hb
  obtain ⟨m2, q2⟩ := u1.tbls b _ q1
  exact ⟨m1 ++ m2, by rw [q2, Array.append_assoc]⟩
end
theorem passR {P : Program} {w : World} {K : PySem.W.Frag} {mg : Str → Option Value} {base : Heap} {N : List Str} {qual : Str} {scope : Scope} {f : Addr} {cd : Value} {A : Around} {outer : List Env} {s : Shared} {H : Hp} {E : XK} :
  Passes (CXR P w) (cxOf (CXR P w) P w K mg base N qual scope f cd A outer s H E) E := by
 intro pins σ H1 s1 ev s2 I h
 obtain ⟨e, C, H', rfl, F, hE⟩ := h
 obtain ⟨B, a0, fl, cov, covT⟩ := F.fly
 refine wpAny_leaves_onW (L := s.heap.objs.size) I.ok.frames rfl fl fun h' fl' up => ?_
 refine ⟨e, C, H', rfl, ⟨F.os.trans I.os, F.bare, JJ (base := base) (L := s.heap.objs.size) I.base F.un rfl (Nat.le_refl _) I.ok.funs I.ok.frf cov fl.1 fl'.1 up, YR F.hok covT fl.1 fl'.1, B, a0, fl', fun b o hb hn => ?_, covT⟩, hE⟩
 obtain ⟨o1, e1⟩ := I.base.there b o hb (by simp [cxOf])
 refine cov b o1 e1 fun hm => ?_
 have hm' : b ∈ (envOfC qual scope s.heap.objs.size f cd :: outer).filterMap (·.frame) := hm
 rw [List.filterMap_cons_some (f := fun (x : Env) => x.frame) (a := envOfC qual scope s.heap.objs.size f cd) (b := s.heap.objs.size) rfl] at hm'
 rcases List.mem_cons.mp hm' with q | q
 ·rw [q] at hb
  exact absurd (Heap.lt_size hb) (Nat.lt_irrefl _)
 ·exact hn q
theorem Zdn {K : PySem.W.Frag} {h : Heap} {C : Addr} {bmB : List Value} {newId : String} (X : K.In h) (q : PySem.W.excIn K C bmB newId = true) :
  ∃ bm N nm qn bs hdct sn sub ab col dd k0 k1 k2 k3 k5 mN, h.get? C = some (excClassObj nm qn C N bs bm hdct sn sub ab col dd k0 k1 k2 k3 k5 newId) ∧ h.Ns N mN ∧ mN "__init__" = none ∧ OwnTail h bmB bm := by
 unfold PySem.W.excIn at q
 split at q
 ·rename_i dd cd sl lk
  split at q
  ·rename_i c2 bm j0 j1 j2 j3 nn j5 em es
   rw [Bool.and_eq_true, Bool.and_eq_true, Bool.and_eq_true, Bool.and_eq_true, Bool.and_eq_true] at q
   obtain ⟨⟨⟨⟨⟨q1, q2⟩, q3⟩, q4⟩, q5⟩, q6⟩ := q
   have z1 := beq_iff_eq.mp q1
   have z2 := beq_iff_eq.mp q2
   have z6 := beq_iff_eq.mp q6
   subst z1 z2
   have ob := X _ _ lk
   have z3 : cd.hasDel = false := by revert q3; cases cd.hasDel <;> simp
   have zs : sl = #[j0, j1, j2, j3, some (.builtin nn), j5] := by
    apply Array.toList_inj.mp
    rw [es]
   refine ⟨bm, cd.ns, cd.name, cd.qualname, cd.bases, cd.hasDict, cd.slotNames, cd.subclasses, cd.abstract, cd.collection, dd, j0, j1, j2, j3, j5, h.nsMap cd.ns, ?_, .of_isNs (PySem.W.isNs_of_in X q5), PySem.W.nsMap_none_of_in X q5 z6, PySem.W.tail_of_in X q4⟩
   rw [ob, zs]
   obtain ⟨a1, a2, a3, a4, a5, a6, a7, a8, a9, a10, a11⟩ := cd
   cases em
   cases z3
   rfl
  ·cases q
 ·cases q
def tRaise (C : Addr) (E : XK) (ta : TA) : TS := fun _ σ H => ta σ H fun vs H1 => vs.length ≤ sizeLine ∧ ∀ e, E (.ref e) (some C) H1
theorem UE {P : Program} {w : World} {K : PySem.W.Frag} {mg : Str → Option Value} {base : Heap} {N : List Str} {qual : Str} {scope : Scope} {f : Addr} {cd : Value} {A : Around} {outer : List Env} {s s1 : Shared} {H H1 : Hp} {E : XK}
  {pins : List (Addr × Obj)} {σ : St} {h' : Heap} {e C : Addr} {vs : List Value} (I : Inv (cxOf (CXR P w) P w K mg base N qual scope f cd A outer s H E) pins σ H1 s1) (mk : Heap.MadeExcOf s1.heap h' e (.ref C) vs) (hE : E (.ref e) (some C) H1) :
  (cxOf (CXR P w) P w K mg base N qual scope f cd A outer s H E).xe (.ref e) { s1 with heap := h' } := by
 have hin : ∀ env ∈ (envOfC qual scope s.heap.objs.size f cd :: outer), ∀ b, env.frame = some b → b ∈ frs (envOfC qual scope s.heap.objs.size f cd :: outer) := fun env he b hb => List.mem_filterMap.mpr ⟨env, he, hb⟩
 have st := I.stack
 refine wpAny_leaves_madeW (L := s.heap.objs.size) (base := PySem.W.hideAll s1.heap (frs (envOfC qual scope s.heap.objs.size f cd :: outer))) (h := s1.heap) I.ok.frames rfl (fun b o q => PySem.W.of_hideAll _ q) (PySem.W.funFrames_hide st hin) mk fun h2 t fl tp _ up => ?_
 have cov : ∀ b o, s1.heap.get? b = some o → b ∉ frs (envOfC qual scope s.heap.objs.size f cd :: outer) → ∃ u, (PySem.W.hideAll s1.heap (frs (envOfC qual scope s.heap.objs.size f cd :: outer))).get? b = some u := fun b o hb hn => ⟨o, PySem.W.hideAll_get _ hb hn⟩
 have covT : ∀ b o, H1 b = some o → ∃ u, (PySem.W.hideAll s1.heap (frs (envOfC qual scope s.heap.objs.size f cd :: outer))).get? b = some u := fun b o hb => by
  have hl := I.hok.lt hb
  have hx : ∃ u, s1.heap.get? b = some u := by
   have ok := I.hok b o hb
   cases o with
   | lst xs => obtain ⟨_, _, _, _, q⟩ := ok; exact ⟨_, q⟩
   | tup xs => obtain ⟨_, _, _, ⟨ob, q, _⟩, _⟩ := ok; exact ⟨_, q⟩
   | par xs => obtain ⟨_, _, _, ob, q, _⟩ := ok; exact ⟨_, q⟩
   | dK kvs => obtain ⟨_, _, _, _, ob, _, _, q, _⟩ := ok; exact ⟨_, q⟩
   | dT kvs => obtain ⟨_, _, _, _, ob, _, _, q, _⟩ := ok; exact ⟨_, q⟩
   | set S n => obtain ⟨ob, _, _, _, q, _⟩ := ok; exact ⟨_, q⟩
   | ins C dx fs => obtain ⟨_, _, _, q, _⟩ := ok; exact ⟨_, q⟩
   | own y => exact ok
   | xd fs => obtain ⟨_, ⟨_, _, _, q, _⟩, _⟩ := ok; exact ⟨_, q⟩
   | rng lo hi => obtain ⟨_, _, _, q⟩ := ok; exact ⟨_, q⟩
   | frz ob u => exact ⟨_, ok.1⟩
   | tbl ps => exact ⟨_, (show s1.heap.get? b = some _ from ok)⟩
   | met f y => exact ⟨_, (show s1.heap.get? b = some _ from ok)⟩
   | ext φ => exact ok.2.1
  obtain ⟨u, hu⟩ := hx
  exact cov b u hu fun hm => by
   have := I.stkFree b hm
   rw [this] at hb
   cases hb
 have k1 : Heap.StaysIn (PySem.W.hideAll s1.heap (frs (envOfC qual scope s.heap.objs.size f cd :: outer))) h' := fun b o q => mk.keeps b o (PySem.W.of_hideAll _ q)
 refine ⟨e, C, H1, rfl, ⟨I.os, I.bare, JJ (s1 := s1) (s2 := { s1 with heap := h' }) (base := base) (L := s.heap.objs.size) I.base (Un.kept mk.keeps) rfl (Nat.le_refl _) I.ok.funs I.ok.frf cov k1 fl.1 up, YR (I.hok.kept mk.keeps) covT k1 fl.1, _, _, fl, fun b o hb hn => ?_, covT⟩, hE⟩
 obtain ⟨o1, e1⟩ := I.base.there b o hb (by simp [cxOf])
 refine cov b o1 e1 fun hm => ?_
 have hm' : b ∈ (envOfC qual scope s.heap.objs.size f cd :: outer).filterMap (·.frame) := hm
 rw [List.filterMap_cons_some (f := fun (x : Env) => x.frame) (a := envOfC qual scope s.heap.objs.size f cd) (b := s.heap.objs.size) rfl] at hm'
 rcases List.mem_cons.mp hm' with q | q
 ·rw [q] at hb
  exact absurd (Heap.lt_size hb) (Nat.lt_irrefl _)
 ·exact hn q
theorem Ur {P : Program} {w : World} {K : PySem.W.Frag} {mg : Str → Option Value} {base : Heap} {N : List Str} {qual : Str} {scope : Scope} {f : Addr} {cd : Value} {A : Around} {outer : List Env} {s : Shared} {H : Hp} {E : XK} {x : Str} {C : Addr} {B newId initId : String} {bmB : List Value}
  {e₀ : Expr} {rest : List Expr} {np cpos pos : Pos} {ta : TA} (FB : ExcBaseFacts B newId initId bmB) (hmg : mg x = some (.ref C)) (hex : PySem.W.excIn K C bmB newId = true) (hg : Gl (cxOf (CXR P w) P w K mg base N qual scope f cd A outer s H E) x)
  (ha : PA (cxOf (CXR P w) P w K mg base N qual scope f cd A outer s H E) (e₀ :: rest) ta)
  (he : starEach (e₀ :: rest) (envOfC qual scope s.heap.objs.size f cd) = (false, eval e₀ (envOfC qual scope s.heap.objs.size f cd)) :: starEach rest (envOfC qual scope s.heap.objs.size f cd) := by rfl)
  (hpl : (backTo cpos (starEach rest (envOfC qual scope s.heap.objs.size f cd))).any (·.1) = false := by rfl) (hd : (x == ("__debug__" : Str)) = false := by decide) :
  PS (cxOf (CXR P w) P w K mg base N qual scope f cd A outer s H E) (.Raise (some (.Call (.Name x np) (e₀ :: rest) [] cpos)) none pos) (tRaise C E ta) := by
 intro pins s1 σ H1 D I h
 obtain ⟨bm, Nn, nm, qn, bs, hdct, sn, sub, ab, col, dd, k0, k1, k2, k3, k5, mN, hC, hN, hni, T⟩ := Zdn I.mod.kin hex
 refine wpAny_Raise_call_subT (C := C) (nm := nm) (q := qn) (N := Nn) (bs := bs) (bm := bm) (hdct := hdct) (sn := sn) (sub := sub) (ab := ab) (col := col) (dd := dd) (k0 := k0) (k1 := k1) (k2 := k2) (k3 := k3) (k5 := k5)
  FB (mN := mN) (T.hasType FB.hasBase) (I.ok.hd rfl) ?_ hni (YQ I hg hmg ⟨rfl, ?_⟩ hd)
 ·show (backTo cpos (starEach (e₀ :: rest) (envOfC qual scope s.heap.objs.size f cd))).any (·.1) = false
  rw [he]
  show (false || (backTo cpos (starEach rest (envOfC qual scope s.heap.objs.size f cd))).any (·.1)) = false
  rw [hpl]
  rfl
 ·have q := ha cpos pins s1 σ H1 _ I h
  show wpAny _ _ (evalArgs (.ref C) true (backTo cpos (starEach (e₀ :: rest) (envOfC qual scope s.heap.objs.size f cd))) []) _ _ _
  have q' : wpAny (model P w) (A.deeper (envOfC qual scope s.heap.objs.size f cd)) (spliced (backTo cpos (starEach (e₀ :: rest) (envOfC qual scope s.heap.objs.size f cd)))) _ _ s1 := q
  rw [he] at q' ⊢
  refine Calls.evalArgs_plain (wpAny_mono q' (fun us s2 h2 => ?_) fun _ _ y => y)
  obtain ⟨vs, H2, I2, r, hz, hE⟩ := h2
  refine ⟨rfl, by rw [← r.length]; exact hz, I2.bk _ _ hC, hN.keeps I2.bk, T.keeps I2.bk, fun h' e mk => ?_⟩
  exact UE I2 mk (hE e)
end L2
set_option Elab.async false
set_option linter.all false
set_option maxRecDepth 100000
namespace L2
open PySem PySem.Spec PyProof.Rows
section
variable {X : Cx}
def tFs (ta tb : TE) : TE := fun σ H Q => ta σ H fun v H1 => ∃ x, v = .str x ∧ (Str.empty ++ x).length ≤ sizeLine ∧ tb σ H1 fun u H2 => ∃ n : Int, u = .int n ∧ n.natAbs.log2 < 1920 ∧ (Str.empty ++ x ++ (Str.ofString (toString n))).length ≤ sizeLine ∧ ∀ z, Q (.str z) H2
theorem Zc5 {a b : Expr} {ta tb : TE} {p pos : Pos} (ha : PE X a ta) (hb : PE X b tb) : PE X (.JoinedStr [a, .FormattedValue b (-1) none p] pos) (tFs ta tb) := by
 intro pins s σ H Q I h
 refine JoinedStr_many (joinParts_cons (wpAny_mono (ha pins s σ H _ I h) (fun u s1 h1 => ?_) fun _ _ y => y))
 obtain ⟨v, H1, I1, r1, x, rfl, hz, h2⟩ := h1
 obtain ⟨t, rfl⟩ := r1
 refine ⟨hz, joinParts_cons (FormattedValue_plain (wpAny_mono (hb pins s1 σ H1 _ I1 h2) (fun u s2 h3 => ?_) fun _ _ y => y))⟩
 obtain ⟨v, H2, I2, r2, n, rfl, hn, hz2, q⟩ := h3
 obtain ⟨t2, rfl⟩ := r2
 refine formatField_int_small hn ⟨hz2, ?_⟩
 refine joinParts_nil ?_ hz2
 exact ⟨.str _, H2, (I2.tok _).tok _, ⟨_, rfl⟩, q _⟩
end
section
variable {P : Program} {w : World} {K : PySem.W.Frag} {mg : Str → Option Value} {base : Heap}
theorem Fun.okR {x qual : Str} {st : Stmt} {f : Addr} {fd : FuncData} {N ps : List Str} {k : Nat} {sp : Sp} (F : Fun K x qual st f fd) (S : FnScope N ps (defScope st)) (len : ∀ vs H Q E, sp vs H Q E → vs.length = ps.length)
    (hb : ∀ (cdv : Value) (A : Around) (outer : List Env) (s : Shared) (H : Hp) (vs : List V) (Q : VK) (E : XK), Room k (A.deeper (envOfC qual (defScope st) s.heap.objs.size f cdv)) → sp vs H Q E →
      ∃ t, PSs (cxOf (CXR P w) P w K mg base N qual (defScope st) f cdv A outer s H E) (defBody st) t ∧ t { nx := fun _ H' => Q .non H', rt := Q } (start N vs) H) : FnOk P w K mg base (CXR P w) (k + 1) f fd ps sp := by
  obtain ⟨oc, od, kV, doc, pm, an, cdv, ct, osl, rfl, lk, hcd⟩ := F.ex
  exact ZcE lk hcd S len fun A outer s H vs Q E hr hsp => hb cdv A outer s H vs Q E hr hsp
def DefR (P : Program) (w : World) (K : PySem.W.Frag) (mg : Str → Option Value) (base : Heap) (k : Nat) (x : Str) (ps : List Str) (sp : Sp) : Prop :=
 ∃ f fd, FnOk P w K mg base (CXR P w) k f fd ps sp ∧ mg x = some (.ref f) ∧ PySem.W.keepIn K (.ref f) = true ∧ Binds K fd ps []
theorem YF {N : List Str} {qual : Str} {scope : Scope} {f : Addr} {cd : Value} {A : Around} {outer : List Env} {s : Shared} {H : Hp} {E : XK} {k : Nat} {x : Str} {ps : List Str} {sp : Sp} {e : Expr} {es : List Expr} {t : TA} {p pos : Pos}
  (d : DefR P w K mg base k x ps sp) (hr : Room k (A.deeper (envOfC qual scope s.heap.objs.size f cd))) (ha : PA (cxOf (CXR P w) P w K mg base N qual scope f cd A outer s H E) (e :: es) t) (hg : Gl (cxOf (CXR P w) P w K mg base N qual scope f cd A outer s H E) x := by rfl)
  (hdb : (x == ("__debug__" : Str)) = false := by decide)
  (he : starEach (e :: es) (envOfC qual scope s.heap.objs.size f cd) = (false, eval e (envOfC qual scope s.heap.objs.size f cd)) :: starEach es (envOfC qual scope s.heap.objs.size f cd) := by rfl)
  (hpl : (backTo pos (starEach es (envOfC qual scope s.heap.objs.size f cd))).any (·.1) = false := by rfl) :
  PE (cxOf (CXR P w) P w K mg base N qual scope f cd A outer s H E) (.Call (.Name x p) (e :: es) [] pos) (tCall sp [] E t) := by
 obtain ⟨g, fd, F, hm, hk, hb⟩ := d
 exact JD F hr hg hm hk hb .nil passR ha hdb he hpl
end
end L2
set_option Elab.async false
set_option linter.all false
set_option maxRecDepth 100000
namespace L2
open PySem PySem.Spec PyProof.Rows PySem.Builtin PySem.Builtin.ObjectAttr PySem.Builtin.Getset_descriptor
def excO (e C : Addr) : HO := .ext fun h => ∃ o, h.get? e = some o ∧ o.cls = .ref C
structure ExcK (K : PySem.W.Frag) (C : Addr) : Prop where
 ga : PySem.W.findIn K (.ref C) "__getattribute__" = some (some (.builtin "BaseException.__getattribute__"))
 hook : PySem.W.findIn K (.ref C) "__getattr__" = some none
 cl : PySem.W.findIn K (.ref C) "__class__" = some (some (.builtin "object.__class__"))
 ob : PySem.W.mroIn K C (.type "object") = some true
 bx : PySem.W.mroIn K C (.type "BaseException") = some true
 cls : (PySem.W.clsIn K C).isSome = true
section
variable {prog : Program} {w : World} {A : Around} {E : Value → Shared → Prop} {s : Shared} {K : PySem.W.Frag} {e C : Addr} {o : Obj} {R : Result → Shared → Prop}
theorem Jv {M : Model} {h : Heap} (hx : h.get? e = some o) (hc : o.cls = .ref C) : PySem.W.Looks M h (typeOf (.ref e)) (.ref C) := hc ▸ (PySem.W.Looks.ld hx).andThen .now
theorem ZcG {tp : Value} (X : K.In s.heap) (hx : s.heap.get? e = some o) (hc : o.cls = .ref C) (Z : ExcK K C) (h : R (.ok (.ret (.ref C))) s) :
  codeAny (model prog w) A (.call (.builtin "getset_descriptor.__get__") ⟨[.builtin "object.__class__", .ref e, tp], []⟩) R s := by
 obtain ⟨h0, g0, d0, t0, o0⟩ := s
 have LT := Jv (M := model prog w) hx hc
 have LM := PySem.W.looks_mroIn (M := model prog w) X Z.ob
 refine codeAny_call_builtin PySem.W.KF.slot_gs.plain PySem.W.KF.entry_gs (PySem.W.KF.slot_gs.check _ _ _ _ _ _ _ _ PySem.W.KF.type_class (PySem.W.KF.args_gs _ _ _) ?_)
 unfold Builtin.«getset_descriptor.__get__» descrGet
 rw [PySem.W.dga_obj]
 refine wpAny_bind (wpAny_pure ?_)
 unfold descrGetter descrCheckInstance descrNameAndClass isInstance
 simp only [PySem.W.KF.owner_class]
 repeat lk
 refine ⟨Code.quiet_builtin _ (by decide +kernel), codeAny_builtin PySem.W.KF.entry_class ?_⟩
 unfold Builtin.«object.__class__» shownTypeOf
 repeat lk
 exact h
theorem ZbL {tk : Tok} {Q : PySem.Fin → Shared → Prop} (X : K.In s.heap) (hx : s.heap.get? e = some o) (hc : o.cls = .ref C) (Z : ExcK K C) (hq : Q (.done (.ret (.ref C))) s) :
  wpAny (model prog w) A (Builtin.«object.__getattribute__» ⟨[.ref e, .str "__class__" tk], []⟩) Q E s := by
 obtain ⟨h0, g0, d0, t0, o0⟩ := s
 have LT := Jv (M := model prog w) hx hc
 have LC := PySem.W.looks_findIn (M := model prog w) X Z.cl
 have hT5 : (⟨h0, g0, d0, t0, o0⟩ : Shared).TypeIs (.builtin "object.__class__") "getset_descriptor" := F.typeOf_object_class
 have f5 := F.typeOf_object_class
 have f6 := F.slot_gs_get.lookup
 have f7 := F.slot_gs_set.lookup
 repeat (any_goals (first | assumption | with_reducible refine LT.at ?_ | with_reducible refine LC.at ?_ | wp_step))
 refine ZcG (s := ⟨h0, g0, d0, t0, o0⟩) X hx hc Z ?_
 exact wpAny_pure hq
theorem ZcH {tk : Tok} (X : K.In s.heap) (hx : s.heap.get? e = some o) (hc : o.cls = .ref C) (Z : ExcK K C) (hq : R (.ok (.ret (.ref C))) s) :
  codeAny (model prog w) A (.call (.builtin "BaseException.__getattribute__") ⟨[.ref e, .str "__class__" tk], []⟩) R s := by
 refine codeAny_call_builtin F.attr_ValueError.ga.plain F.entry_bexc_ga ?_
 obtain ⟨h0, g0, d0, t0, o0⟩ := s
 have LT := Jv (M := model prog w) hx hc
 have LB := PySem.W.looks_mroIn (M := model prog w) X Z.bx
 have hk : builtinKind "BaseException.__getattribute__" = some .slot := by decide +kernel
 have hsp : splitId "BaseException.__getattribute__" = some ("BaseException", "__getattribute__") := by decide +kernel
 have ha := F.args_bexc_ga (.ref e) (.str "__class__" tk)
 simp only [checkBuiltinCall, hk, hsp]
 have LI : PySem.W.Looks (model prog w) h0 (isInstance (.ref e) (.type "BaseException")) true := LT.andThen LB
 refine wpAny_bind (LI.at ?_)
 repeat (first | exact ZbL (s := ⟨h0, g0, d0, t0, o0⟩) X hx hc Z hq | assumption | wp_step)
theorem ZcI {Q : Option Value → Shared → Prop} (X : K.In s.heap) (hx : s.heap.get? e = some o) (hc : o.cls = .ref C) (Z : ExcK K C) (hq : Q (some (.ref C)) { s with toks := s.toks + 1 }) :
  wpAny (model prog w) A (getAttr? (.ref e) "__class__") Q E s := by
 obtain ⟨h0, g0, d0, t0, o0⟩ := s
 have LT := Jv (M := model prog w) hx hc
 have L1 := PySem.W.looks_findIn (M := model prog w) X Z.ga
 have L2 := PySem.W.looks_findIn (M := model prog w) X Z.hook
 have f3 := F.attr_ValueError.ga.bind (.ref e)
 have hx2 : (Value.builtin "BaseException.__getattribute__" == Value.builtin "object.__getattribute__") = false := by decide +kernel
 have hx1 : (onTheHeap (Value.ref C) && Value.builtin "BaseException.__getattribute__" == Value.builtin "object.__getattribute__") = false := by rw [hx2]; rfl
 unfold getAttr? getAttrBy? getAttrBy
 refine wpAny_bind (wpAny_mkText (wpAny_bind (wpAny_attempt (wpAny_holding (wpAny_bind (LT.at (wpAny_bind (L1.at ?_))))))))
 repeat (any_goals (first | assumption | with_reducible refine L2.at ?_ | wp_step))
 refine ZcH (s := ⟨h0, g0, d0, t0 + 1, o0⟩) X hx hc Z ?_
 repeat (any_goals (first | assumption | wp_step))
theorem Zcw (Z : ExcK K C) : PySem.W.KitX K (.ref e) (.ref C) (fun h => ∃ o, h.get? e = some o ∧ o.cls = .ref C) where
 ty := fun M h _ ⟨o, hx, hc⟩ => Jv hx hc
 it := fun M h X _ => by
  obtain ⟨cd, hcd⟩ := Option.isSome_iff_exists.mp Z.cls
  unfold PySem.W.clsIn at hcd
  split at hcd
  ·rename_i lk
   intro A2 Q2 E2 s2 k q
   unfold isType loadHead
   exact wpAny_bind (wpAny_loadPart (k _ _ (X _ _ lk)) (wpAny_pure q))
  ·cases hcd
 ne := fun h tp dd its n sl X htp => by
  obtain ⟨cd, hcd⟩ := Option.isSome_iff_exists.mp Z.cls
  refine Bool.eq_false_iff.mpr fun q => ?_
  have z : C = tp := Value.ref.inj (beq_iff_eq.mp q)
  rw [← z] at htp
  unfold PySem.W.clsIn at hcd
  split at hcd
  ·rename_i lk
   have y := (X _ _ lk).symm.trans htp
   cases y
  ·cases hcd
 ca := fun X ⟨o, hx, hc⟩ k => ZcI X hx hc Z k
end
section
variable {X : Cx}
theorem Jl : CallR X (.builtin "isinstance") (fun xs H Q => ∃ e C y c b, xs = [.ref e, y] ∧ H e = some (excO e C) ∧ ExcK X.K C ∧ (∀ u, RelV y u → u = c) ∧ PySem.W.kitOne X.K (.ref C) c = some b ∧ Q (.bl b) H) := by
 rintro pins s σ H vs us Q I r ⟨e, C, y, c, b, rfl, he, Z, hy, hk, q⟩
 cases r with
 | cons r1 r2 =>
  cases r2 with
  | cons r3 r4 =>
   cases r4
   rw [hy _ r3]
   rw [show _ = Value.ref e from r1]
   obtain ⟨p, _, _⟩ := (show ObjOk X.prog X.w H s.heap e (excO e C) from I.hok e _ he)
   exact PySem.W.kia_one (Zcw Z) I.kIn p hk (fun z => nomatch z) fun tk => ⟨.bl b, H, I.tok _, rfl, q⟩
end
end L2
set_option Elab.async false
set_option linter.all false
set_option maxRecDepth 100000
namespace L2
open PySem PySem.Spec PyProof.Rows
abbrev Cx.hnd (X : Cx) (e : Value) : Cx := { X with A := X.A.mark (some e), calm := false, xe := fun _ _ => False }
section
variable {X : Cx} {pins : List (Addr × Obj)} {σ : St} {H H' : Hp} {s s' : Shared}
theorem Inv.hnd (I : Inv X pins σ H s) (e : Value) : Inv (X.hnd e) pins σ H s :=
 ⟨⟨I.ok.mod, I.ok.kind, I.ok.glob, I.ok.blt, I.ok.above, I.ok.inj, I.ok.has, I.ok.cab, fun h => Bool.noConfusion h, I.ok.frames, I.ok.stk, I.ok.exf, I.ok.bs, I.ok.bsz, I.ok.noex, I.ok.exfs, I.ok.funs, I.ok.frf⟩, I.os, I.bare, I.base, I.loc, I.cell, I.free, I.freeC, I.pin, I.hok, I.len⟩
theorem Inv.unhnd {e : Value} (I : Inv (X.hnd e) pins σ H s) (hd : X.calm = true → X.A.handled = none) : Inv X pins σ H s :=
 ⟨⟨I.ok.mod, I.ok.kind, I.ok.glob, I.ok.blt, I.ok.above, I.ok.inj, I.ok.has, I.ok.cab, hd, I.ok.frames, I.ok.stk, I.ok.exf, I.ok.bs, I.ok.bsz, I.ok.noex, I.ok.exfs, I.ok.funs, I.ok.frf⟩, I.os, I.bare, I.base, I.loc, I.cell, I.free, I.freeC, I.pin, I.hok, I.len⟩
theorem Inv.caught {e C : Addr} {B h' : Heap} {o : Obj} (I : Inv X pins σ H s) (un : Un (frs X.stack) [] H H' s.heap s'.heap) (os : s'.os = s.os) (bare : AllBare s'.gens) (hok : HOk X.prog X.w H' s'.heap)
  (cov : ∀ b o, s.heap.get? b = some o → b ∉ frs X.stack → ∃ u, B.get? b = some u) (covT : ∀ b o, H' b = some o → ∃ u, B.get? b = some u) (be : B.get? e = none) (k1 : B.StaysIn s'.heap) (k2 : B.StaysIn h') (up : s'.heap.UpToSlots h')
  (he : h'.get? e = some o) (hc : o.cls = .ref C) (hd : ∃ vs, o.data = .fields vs) : Inv X pins σ (upd H' e (excO e C)) { s' with heap := h' } ∧ H' e = none := by
 have n0 : H' e = none := by
  cases q : H' e with
  | none => rfl
  | some u =>
   obtain ⟨u', hu⟩ := covT e u q
   rw [be] at hu
   cases hu
 have slotF : ∀ b o, s.heap.get? b = some o → b ∈ frs X.stack → ∃ sl, h'.get? b = some { o with slots := sl } := fun b o hb hm => by
  obtain ⟨_, o', ho', nf⟩ := I.stack.mem hm
  rw [hb] at ho'
  cases ho'
  obtain ⟨sl1, e1⟩ := un.slot b o hb (I.stkFree b hm) hm (by simp)
  obtain ⟨sl2, e2⟩ := up b _ e1 nf
  exact ⟨sl2, e2⟩
 have nold : ∀ b u, s.heap.get? b = some u → b ≠ e := fun b u hb z => by
  rw [z] at hb
  by_cases hm : e ∈ frs X.stack
  ·obtain ⟨_, o', ho', nf⟩ := I.stack.mem hm
   rw [hb] at ho'
   cases ho'
   obtain ⟨sl, q⟩ := slotF e u hb hm
   rw [he] at q
   cases q
   obtain ⟨vs, hv⟩ := hd
   exact nf vs hv
  ·obtain ⟨u', hu⟩ := cov e u hb hm
   rw [be] at hu
   cases hu
 have keepB : ∀ b o u, s'.heap.get? b = some o → B.get? b = some u → h'.get? b = some o := fun b o u hb hu => by
  have e1 := k1 b u hu
  rw [hb] at e1
  cases e1
  exact k2 b _ hu
 refine ⟨I.call' (s' := { s' with heap := h' }) (ch := []) os ⟨fun b u hb hn hf _ => ?_, fun b u hb hn hm _ => slotF b u hb hm, fun b u hb hn _ => ?_, fun b u hb _ => ?_, fun b xs hb => ?_, fun b u v hb => ?_, fun b ps hb => ?_⟩ ?_ bare (fun b hb => absurd hb (by simp)), n0⟩
 ·have e1 := un.keep b u hb hn hf (by simp)
  obtain ⟨u', hu⟩ := cov b u hb hf
  exact keepB b u u' e1 hu
 ·rw [Zh (nold b u hb)]
  exact un.free b u hb hn (by simp)
 ·by_cases hm : b ∈ frs X.stack
  ·obtain ⟨sl, q⟩ := slotF b u hb hm
   exact ⟨_, q⟩
  ·obtain ⟨u', hu⟩ := cov b u hb hm
   exact ⟨u', k2 b u' hu⟩
 ·have q := un.tups b xs hb
  rw [Zh (Zk q n0)]
  exact q
 ·have q := un.frzs b u v hb
  rw [Zh (Zk q n0)]
  exact q
 ·obtain ⟨m, q⟩ := un.tbls b ps hb
  exact ⟨m, by rw [Zh (Zk q n0)]; exact q⟩
 ·intro b u hb
  by_cases hbe : b = e
  ·subst hbe
   rw [Zc] at hb
   cases hb
   refine ⟨⟨o, he, hc⟩, ⟨o, he⟩, fun h1 h2 p k => ?_⟩
   obtain ⟨o1, q1, q2⟩ := p
   exact ⟨o1, k _ q1, q2⟩
  ·rw [Zh hbe] at hb
   have x := YR hok covT k1 k2 b u hb
   refine x.stay (fun c w' hcc q => q) (fun c q => ?_) fun c xs q => ?_
   ·rw [Zh (Zk q n0)]; exact q
   ·rw [Zh (Zk q n0)]; exact q
end
def tTry (X : Cx) (ic ie : Nat) (cS : Addr) (k : Nat) (ts : TS) : TS := fun D σ H => ∃ f fd sp, σ[ic]? = some (some (.ref f)) ∧ (∀ s, HOk X.prog X.w H s → PySem.W.FnAt f s) ∧ FnOk X.prog X.w X.K X.mg X.base (CXR X.prog X.w) k f fd [] sp ∧ (∀ s, BindsTo s fd ⟨[], []⟩ []) ∧
 sp [] H (fun _ _ => False) fun ev c H' => ∃ e C, ev = .ref e ∧ c = some C ∧ PySem.W.exmOne X.K (.ref C) (.ref cS) = some true ∧ (H' e = none → ts { nx := fun σ' H2 => D.nx (σ'.set ie none) H2, rt := fun _ _ => False } (σ.set ie (some (.ref e))) (upd H' e (excO e C)))
theorem Zac {X : Cx} {ic ie k : Nat} {c n S : Str} {cS : Addr} {b0 : Stmt} {suite : List Stmt} {ts : TS} {p1 p2 p3 p4 p5 p6 : Pos} (hcm : X.calm = true) (hst : X.stack = X.env :: X.outer) (hfr : X.env.frame = some X.env.locals) (hN : X.N.Nodup) (hic : X.N[ic]? = some c) (hvc : Vis X.env.scope c)
  (hie : X.N[ie]? = some n) (hln : X.env.scope.names.lookup n = some .local) (hS : X.mg S = some (.ref cS)) (hgS : Gl X S) (hr : Room k X.A) (hsu : ∀ e, PSs (X.hnd (.ref e)) (b0 :: suite) ts)
  (hdc : (c == ("__debug__" : Str)) = false := by decide) (hdc2 : (c == ("__classdict__" : Str)) = false := by decide) (hdS : (S == ("__debug__" : Str)) = false := by decide)
  (hsw : swapsWith (.Call (.Name c p1) [] [] p2) none p3.line X.env = pure false := by rfl) :
  PS X (.Try [.Expr (.Call (.Name c p1) [] [] p2) p3] [.ExceptHandler (some (.Name S p4)) (some n) (b0 :: suite) p5] [] [] p6) (tTry X ic ie cS k ts) := by
 intro pins s σ H D I h
 obtain ⟨f, fd, sp, hσ, hfn, F, hb, hsp⟩ := h
 refine wpAny_Try_except ?_
 refine wpAny_execs_cons (wpAny_Expr_any ?_ I.quiet hsw)
 refine wpAny_Call_Name_kw ?_
 have nm := Yu (X := X.wish (fun _ _ => False)) (i := ic) (x := c) (pos := p1) hic hvc hdc hdc2 pins s σ H (fun v H2 => v = .ref f ∧ H2 = H) (I.wish _) ⟨_, hσ, rfl, rfl⟩
 refine wpAny_mono nm (fun u s1 h1 => ?_) (fun _ _ z => z.elim)
 obtain ⟨v, H1, I1, r1, rfl, rfl⟩ := h1
 have I1 := I1.unwish
 obtain rfl : u = Value.ref f := r1
 refine PySem.W.callWith_F0 (hfn _ I1.hok) ?_
 refine wpAny_call (codeAny_mono (F.run X.A X.stack s1 H1 ⟨[], []⟩ [] [] _ _ hr I1.env0 (hb s1) .nil hsp) fun r s2 hq => ?_)
 cases r with
 | ok fl =>
  cases fl with
  | ret u => obtain ⟨_, _, _, _, _, _, _, z⟩ := hq; exact z.elim
  | next => exact hq.elim
  | brk => exact hq.elim
  | cont => exact hq.elim
 | error ev =>
  obtain ⟨e, C, H2, rfl, FL, e', C', q1, q2, hx, hk⟩ := hq
  cases q1
  cases q2
  obtain ⟨B, a0, fl, cov, covT⟩ := FL.fly
  rw [hst] at fl
  show wpAny (model X.prog X.w) X.A (noteFrame (.ref e) X.env) _ X.xe s2
  have fr0 : X.A.frames = some (X.env :: X.outer) := by rw [← hst]; exact I.ok.frames
  refine wpAny_looks_onW (L := X.env.locals) fr0 hfr fl fun h4 held up4 => ?_
  refine wpAny_landsW held fun h5 fl5 up5 => ?_
  have at5 : ∃ o vs, h5.get? e = some o ∧ o.cls = .ref C ∧ o.data = .fields vs := by
   obtain ⟨oe, vs, g1, g2, g3, _⟩ := fl5.first
   exact ⟨oe, vs, g1, g2, g3⟩
  obtain ⟨o5, vs5, g51, g52, g53⟩ := at5
  have c5 := I1.caught (h' := h5) FL.un FL.os FL.bare FL.hok cov covT fl.2.1 fl.1 fl5.1 (up4.trans up5) g51 g52 ⟨_, g53⟩
  have I5 := c5.1.hnd (.ref e)
  refine wpAny_handleBy_cons (codeAny_handlers_test ?_) (by intro q; cases q)
  refine YQ (X := X.hnd (.ref e)) I5 hgS hS ?_ hdS
  have LX := PySem.W.exm_one (M := model X.prog X.w) (c := .ref cS) (e := e) I5.kIn (Jv g51 g52) hx
  refine LX.at ?_
  refine codeAny_handlers_suite_as ?_
  refine lands_againW (s := { s2 with heap := h5 }) fl5 fun h6 fl6 up6 => ?_
  obtain ⟨o6, vs6, g61, g62, g63, _⟩ := fl6.first
  obtain ⟨I6, n6⟩ := I1.caught (h' := h6) FL.un FL.os FL.bare FL.hok cov covT fl.2.1 fl.1 fl6.1 ((up4.trans up5).trans up6) g61 g62 ⟨_, g63⟩
  have I6 := I6.hnd (.ref e)
  have hts := hk n6
  refine Yo (X := X.hnd (.ref e)) (i := ie) I6 hN hie (.inl hln) (v := .ref e) (u := .ref e) rfl (fun s7 I7 => ?_) (.inr hln)
  refine wpAny_mono (hsu e pins s7 _ _ _ I7 hts) (fun fl8 s8 h8 => ?_) fun _ _ z => z.elim
  cases fl8 with
  | ret u => obtain ⟨_, _, _, _, _, z⟩ := h8; exact z.elim
  | brk => obtain ⟨_, _, _, z⟩ := h8; exact z.elim
  | cont => obtain ⟨_, _, _, z⟩ := h8; exact z.elim
  | next =>
   obtain ⟨σ8, H8, I8, q8⟩ := h8
   have I8 := I8.unhnd (fun z => I.ok.hd z)
   obtain ⟨m8, hn8, hl8⟩ := I8.loc
   have hcls : (X.env.scope.kind == .class || (X.env.scope.kind == .module && X.env.locals != X.env.globals)) = false := by rw [I8.ok.kind]; rfl
   refine wpAny_nameGoes_keeps hln hn8 hcls fun h9 v9 hn9 hs9 => ?_
   have st := Yo (M := model X.prog X.w) (A := X.A) (E := fun _ _ => False) (X := X) (i := ie) I8 hN hie (.inl hln) (v := .non) (u := .none) rfl (Q := fun _ _ => True) (fun _ _ => trivial) (.inr hln)
   refine ⟨σ8.set ie none, H8, ?_, q8⟩
   have hlt : ie < σ8.length := by rw [I8.len]; exact (List.getElem?_eq_some_iff.mp hie).1
   obtain ⟨oL, _, _, hoL, _⟩ := id hn8
   have cne := I8.cne
   refine ⟨I8.ok, I8.os, I8.bare, ⟨fun b o eb nb hb hx => ?_, fun b o eb nb hb hx => ?_, I8.base.free, fun b o eb hx => ?_, I8.base.tups, I8.base.frzs, I8.base.tbls⟩, ⟨_, hn9, fun j y v' e1 e2 e3 => ?_⟩, fun y cc ec => ?_, I8.free, I8.freeC, fun p hp => ?_, fun b ob eb => ?_, by simpa using I8.len⟩
   ·exact (hs9.2 b (Nat.ne_of_lt (Nat.lt_of_lt_of_le (Heap.lt_size eb) I8.ok.above))).trans (I8.base.keep b o eb nb hb hx)
   ·obtain ⟨sl, q⟩ := I8.base.slot b o eb nb hb hx
    exact ⟨sl, (hs9.2 b (Nat.ne_of_lt (Nat.lt_of_lt_of_le (Heap.lt_size eb) I8.ok.above))).trans q⟩
   ·obtain ⟨o', q⟩ := I8.base.there b o eb hx
    exact ⟨o', (hs9.2 b (Nat.ne_of_lt (Nat.lt_of_lt_of_le (Heap.lt_size eb) I8.ok.above))).trans q⟩
   ·by_cases hj : j = ie
    ·subst hj
     rw [List.getElem?_set_self hlt] at e2
     cases e2
    ·rw [List.getElem?_set_ne (Ne.symm hj)] at e2
     obtain ⟨u', r', q⟩ := hl8 j y v' e1 e2 e3
     refine ⟨u', r', ?_⟩
     rcases q with ⟨kk, q⟩ | ⟨kk, c', ec, z⟩
     ·refine .inl ⟨kk, ?_⟩
      have ne : y ≠ n := fun z => hj (JX hN e1 (z ▸ hie))
      simp [ne, q]
     ·exact .inr ⟨kk, c', ec, z.sameBut hs9 (cne y c' ec)⟩
   ·obtain ⟨w', z⟩ := I8.cell y cc ec
    exact ⟨w', z.sameBut hs9 (cne y cc ec)⟩
   ·obtain ⟨e1, n1, ne1, nf1, d1⟩ := I8.pin p hp
    exact ⟨(hs9.2 p.1 ne1).trans e1, n1, ne1, nf1, d1⟩
   ·refine (I8.hok b ob eb).stay (fun cc w' hcc q => (hs9.2 cc ?_).trans q) (fun _ q => q) fun _ _ q => q
    rintro rfl
    rcases hcc with rfl | hcc
    ·rw [I8.free] at eb; cases eb
    ·rw [I8.free] at hcc; cases hcc
end L2
set_option Elab.async false
set_option linter.all false
set_option maxRecDepth 100000
namespace L2
open PySem PySem.Spec PyProof.Rows
def codeO (c : Addr) (q : Str) : HO := .ext fun h => h.CodeRec (.ref c) q
def lamO (f : Addr) (q : Str) (params : Arguments) (body : Expr) (scope : Scope) (cl : List (Str × Addr)) (pm : Value) (c : Addr) (ct : Value) : HO := .ext fun h => h.get? f = some (PySem.W.kla_obj "<lambda>" q params body scope cl pm c ct)
def LamAt (H : Hp) (f : Addr) (q : Str) (params : Arguments) (body : Expr) (scope : Scope) (cl : List (Str × Addr)) : Prop := ∃ pm c ct, H f = some (lamO f q params body scope cl pm c ct) ∧ H c = some (codeO c q)
def TabOk (H : Hp) (q : Str) (ps : Array Value) : Prop := TriplesOk ps.toList ∧ ∀ pos cv, codeAmong pos ps.toList = some cv → ∃ c, cv = .ref c ∧ H c = some (codeO c q)
def TabAt (H : Hp) (P : Addr) (q : Str) : Prop := ∃ ps, H P = some (.tbl ps) ∧ TabOk H q ps
theorem Jj {h h' : Heap} {c : Addr} {q : Str} (x : h.CodeRec (.ref c) q) (k : ∀ o, h.get? c = some o → h'.get? c = some o) : h'.CodeRec (.ref c) q := by
 obtain ⟨c2, oc, vs, tq, e, g1, g2, g3⟩ := x
 cases e
 exact ⟨c, oc, vs, tq, rfl, k _ g1, g2, g3⟩
theorem ZcR {P : Program} {w : World} {H : Hp} {h : Heap} {c : Addr} {q : Str} (x : h.CodeRec (.ref c) q) : ObjOk P w H h c (codeO c q) := by
 obtain ⟨c2, oc, vs, tq, e, g1, g2, g3⟩ := id x
 cases e
 exact ⟨x, ⟨_, g1⟩, fun h1 h2 p k => Jj p k⟩
theorem ZaT {P : Program} {w : World} {H : Hp} {h : Heap} {f : Addr} {q : Str} {params : Arguments} {body : Expr} {scope : Scope} {cl : List (Str × Addr)} {pm : Value} {c : Addr} {ct : Value} (x : h.get? f = some (PySem.W.kla_obj "<lambda>" q params body scope cl pm c ct)) :
  ObjOk P w H h f (lamO f q params body scope cl pm c ct) := ⟨x, ⟨_, x⟩, fun h1 h2 p k => k _ p⟩
theorem Wl {pos p2 : Pos} {c cv : Value} : ∀ (l : List Value), TriplesOk l → codeAmong p2 (l ++ [rawInt pos.line, rawInt pos.col, c]) = some cv → codeAmong p2 l = some cv ∨ cv = c
 | [], _, h => by
  have h' : (if (pos.line : Int) == (p2.line : Int) && (pos.col : Int) == (p2.col : Int) then some c else codeAmong p2 []) = some cv := h
  split at h'
  ·exact .inr (Option.some.inj h').symm
  ·cases h'
 | .int a t :: .int b u :: x :: r, ht, h => by
  have h' : (if a == p2.line && b == p2.col then some x else codeAmong p2 (r ++ [rawInt pos.line, rawInt pos.col, c])) = some cv := h
  show (if a == p2.line && b == p2.col then some x else codeAmong p2 r) = some cv ∨ cv = c
  split at h'
  ·rename_i hq
   rw [if_pos hq]
   exact .inl h'
  ·rename_i hq
   rw [if_neg hq]
   exact Wl r ht h'
theorem Y6 {pos : Pos} {c : Value} : ∀ (l : List Value), TriplesOk l → TriplesOk (l ++ [rawInt pos.line, rawInt pos.col, c])
 | [], _ => trivial
 | .int _ _ :: .int _ _ :: _ :: r, h => Y6 r h
structure LamX (X : Cx) (c P : Addr) : Prop where
 code : X.env.code = .ref c
 hd : PySem.W.CodeHd X.base c P
 bm : ∃ bm ob, X.mg "__builtins__" = some (.ref bm) ∧ bm ≠ builtinsNs ∧ X.base.get? bm = some ob ∧ ob.cls = .type "module" ∧ ob.dict = some builtinsNs ∧ ob.data = .plain
def tLam (X : Cx) (P : Addr) (params : Arguments) (body : Expr) (scope : Scope) : TE := fun σ H Q => TabAt H P (X.env.qual ++ "<lambda>") ∧ ∀ f H', SameX P H H' → H f = none → TabAt H' P (X.env.qual ++ "<lambda>") → LamAt H' f (X.env.qual ++ "<lambda>") params body scope (clOf scope X.env) → Q (.ref f) H'
theorem Zb9 {X : Cx} {c P : Addr} {params : Arguments} {body : Expr} {scope : Scope} {pos : Pos} (L : LamX X c P) (hdef : defaultsOf params X.env = ([], [])) (hfr : ∀ y ∈ scope.names, y.2 = .free → X.env.kindOf y.1 = some .cell ∨ X.env.kindOf y.1 = some .free) :
  PE X (.Lambda params body scope pos) (tLam X P params body scope) := by
 intro pins s σ H Q I h
 obtain ⟨⟨ps, hP, hT, hC⟩, q⟩ := h
 have oP : s.heap.get? P = some (PySem.W.tabObj ps) := I.hok P _ hP
 have hcl := Ym (scope := scope) (env := X.env) fun y hy e => I.ok.has _ (hfr y hy e)
 have gns : s.heap.Ns mainGlobals X.mg := I.mod.glob.keeps I.bk
 obtain ⟨bm, ob, b1, b2, b3, b4, b5, b6⟩ := L.bm
 have hgP : mainGlobals ≠ P := fun z => by
  obtain ⟨o, es, ep, e, d, _⟩ := gns
  rw [z, oP] at e
  cases e
  cases d
 have hbP : bm ≠ P := fun z => by
  have e := I.bk _ _ b3
  rw [z, oP] at e
  cases e
  cases b4
 have hbG : bm ≠ mainGlobals := fun z => by
  obtain ⟨o, es, ep, e, d, _⟩ := gns
  have e2 := I.bk _ _ b3
  rw [z, e] at e2
  cases e2
  rw [d] at b6
  cases b6
 have BA : s.heap.BuiltinsAt X.mg P := ⟨bm, ob, b1, b2, hbG, hbP, I.bk _ _ b3, b4, b5, b6⟩
 refine PySem.W.kla_eval hdef ?_
 cases hf : codeAmong pos ps.toList with
 | some cv =>
  obtain ⟨c', rfl, hc'⟩ := hC pos cv hf
  refine PySem.W.kla_makeFunctionHit hcl I.ok.glob gns L.code (L.hd.keeps I.bk) oP hT hf BA fun ctv h' tk hk hsz => ?_
  have nf : H h'.objs.size = none := I.hok.fresh hsz
  have s1 : Same H (upd H h'.objs.size (lamO h'.objs.size (X.env.qual ++ "<lambda>") params body scope (clOf scope X.env) ((X.mg "__name__").getD .none) c' ctv)) := fun b o hb => by rw [Zh (Zk hb nf)]; exact hb
  refine ⟨.ref h'.objs.size, _, I.laid (t' := tk) (a := h'.objs.size) (fun b u e => Heap.get?_push_of_some _ (hk b u e)) hsz (ZaT (Heap.get?_push_size _ rfl)), rfl, ?_⟩
  exact q _ _ (fun b o hb _ => s1 b o hb) nf ⟨ps, s1 _ _ hP, hT, fun p2 cv2 z => by obtain ⟨c2, e2, h2⟩ := hC p2 cv2 z; exact ⟨c2, e2, s1 _ _ h2⟩⟩ ⟨_, c', ctv, Zc, s1 _ _ hc'⟩
 | none =>
  refine PySem.W.kla_makeFunction hcl I.ok.glob gns L.code (L.hd.keeps I.bk) oP hT hf hgP BA fun c' ctv h' tk hx hge hlt hrec htb => ?_
  have lt0 : ∀ b o, s.heap.get? b = some o → b < c' := fun b o e => Nat.lt_of_lt_of_le (Heap.lt_size e) hge
  have ltH : ∀ b o, H b = some o → b < c' := fun b o e => Nat.lt_of_lt_of_le (I.hok.lt e) hge
  have nc : H c' = none := I.hok.fresh hge
  have nf : H h'.objs.size = none := I.hok.fresh (Nat.le_trans hge (Nat.le_of_lt hlt))
  have pne : P ≠ c' := Zk hP nc
  have pnf : P ≠ h'.objs.size := Zk hP nf
  have cnf : c' ≠ h'.objs.size := Nat.ne_of_lt hlt
  generalize hfo : h'.objs.size = f at nf pnf cnf
  generalize hps : ps ++ #[rawInt pos.line, rawInt pos.col, Value.ref c'] = ps2 at htb
  generalize hlo : lamO f (X.env.qual ++ "<lambda>") params body scope (clOf scope X.env) ((X.mg "__name__").getD .none) c' ctv = lo
  have keep : ∀ b o, b ≠ P → s.heap.get? b = some o → (h'.push (PySem.W.kla_obj "<lambda>" (X.env.qual ++ "<lambda>") params body scope (clOf scope X.env) ((X.mg "__name__").getD .none) c' ctv)).get? b = some o := fun b o hb e => Heap.get?_push_of_some _ (hx b o hb e)
  have at1 : ∀ b o, H b = some o → b ≠ P → upd (upd (upd H P (.tbl ps2)) c' (codeO c' (X.env.qual ++ "<lambda>"))) f lo b = some o := fun b o hb hne => by
   rw [Zh (Zk hb nf), Zh (Zk hb nc), Zh hne]
   exact hb
  have atP : upd (upd (upd H P (.tbl ps2)) c' (codeO c' (X.env.qual ++ "<lambda>"))) f lo P = some (.tbl ps2) := by rw [Zh pnf, Zh pne, Zc]
  have atC : upd (upd (upd H P (.tbl ps2)) c' (codeO c' (X.env.qual ++ "<lambda>"))) f lo c' = some (codeO c' (X.env.qual ++ "<lambda>")) := by rw [Zh cnf, Zc]
  have atF : upd (upd (upd H P (.tbl ps2)) c' (codeO c' (X.env.qual ++ "<lambda>"))) f lo f = some lo := Zc
  have J : Inv X pins σ (upd (upd (upd H P (.tbl ps2)) c' (codeO c' (X.env.qual ++ "<lambda>"))) f lo) { s with heap := h'.push (PySem.W.kla_obj "<lambda>" (X.env.qual ++ "<lambda>") params body scope (clOf scope X.env) ((X.mg "__name__").getD .none) c' ctv), toks := tk } := by
   refine I.un (t' := tk) ⟨fun b o e n _ _ => keep b o (fun z => by rw [z, hP] at n; cases n) e, fun b o e n _ _ => ⟨o.slots, keep b o (fun z => by rw [z, hP] at n; cases n) e⟩, fun b o e n _ => ?_, fun b o e _ => ?_, fun b xs e => at1 b _ e (fun z => by rw [z, hP] at e; cases e), fun b o u e => at1 b _ e (fun z => by rw [z, hP] at e; cases e), fun b qs e => ?_⟩ ?_
   ·have hl := lt0 b o e
    rw [Zh (by rw [← hfo]; exact Nat.ne_of_lt (Nat.lt_trans hl hlt)), Zh (Nat.ne_of_lt hl), Zh (fun z => by rw [z, hP] at n; cases n)]
    exact n
   ·by_cases hb : b = P
    ·rw [hb]; exact ⟨_, Heap.get?_push_of_some _ htb⟩
    ·exact ⟨o, keep b o hb e⟩
   ·by_cases hb : b = P
    ·rw [hb, hP] at e
     cases e
     exact ⟨_, by rw [hb, atP, hps]⟩
    ·exact ⟨#[], by rw [at1 b _ e hb]; simp⟩
   ·intro b o hb
    by_cases h1 : b = f
    ·rw [h1, atF] at hb
     cases hb
     rw [h1, ← hlo]
     refine ZaT ?_
     rw [← hfo]
     exact Heap.get?_push_size _ rfl
    ·by_cases h2 : b = c'
     ·rw [h2, atC] at hb
      cases hb
      rw [h2]
      exact ZcR (Jj hrec fun o e => Heap.get?_push_of_some _ e)
     ·by_cases h3 : b = P
      ·rw [h3, atP] at hb
       cases hb
       rw [h3]
       exact Heap.get?_push_of_some _ htb
      ·have hb' : H b = some o := by rw [Zh h1, Zh h2, Zh h3] at hb; exact hb
       refine (I.hok b o hb').stay (fun z u hz e => keep z u ?_ e) (fun z e => ?_) fun z xs e => ?_
       ·rcases hz with hz | hz
        ·rw [hz]; exact h3
        ·intro hz2; rw [hz2, hP] at hz; cases hz
       ·exact at1 z _ e fun hz2 => by rw [hz2, hP] at e; cases e
       ·exact at1 z _ e fun hz2 => by rw [hz2, hP] at e; cases e
  refine ⟨.ref f, _, J, rfl, ?_⟩
  refine q f _ (fun b o hb hne => at1 b o hb hne) nf ⟨ps2, atP, ?_, fun p2 cv2 z => ?_⟩ ⟨_, c', ctv, by rw [atF, ← hlo], atC⟩
  ·rw [← hps, Array.toList_append]
   exact Y6 _ hT
  ·rw [← hps, Array.toList_append] at z
   rcases Wl _ hT z with z | z
   ·obtain ⟨c2, e2, h2⟩ := hC p2 cv2 z
    exact ⟨c2, e2, at1 _ _ h2 fun hz2 => by rw [hz2, hP] at h2; cases h2⟩
   ·exact ⟨c', z, atC⟩
end L2
set_option Elab.async false
set_option linter.all false
set_option maxRecDepth 100000
namespace L2
open PySem PySem.Spec PyProof.Rows
theorem passR' {X : Cx} {E : XK} (hxe : ∀ e s', wpAny (model X.prog X.w) X.A (leaving X.env e) (fun _ s'' => CXR X.prog X.w X.outer X.H₀ X.s₀ E e s'') (fun e' s'' => CXR X.prog X.w X.outer X.H₀ X.s₀ E e' s'') s' → X.xe e s')
  (hst : X.stack = X.env :: X.outer) (hfr : X.env.frame = some X.env.locals) (hex : X.ex = []) : Passes (CXR X.prog X.w) X E := by
 intro pins σ H1 s1 ev s2 I h
 obtain ⟨e, C, H', rfl, F, hE⟩ := h
 obtain ⟨B, a0, fl, cov, covT⟩ := F.fly
 have un := F.un
 rw [hst] at fl cov un
 have ib : Un (frs X.outer) [] X.H₀ H1 X.s₀.heap s1.heap := by have := I.base; rw [hex] at this; exact this
 have fr0 : X.A.frames = some (X.env :: X.outer) := by rw [← hst]; exact I.ok.frames
 refine hxe _ _ (wpAny_leaves_onW (L := X.env.locals) fr0 hfr fl fun h' fl' up => ?_)
 refine ⟨e, C, H', rfl, ⟨F.os.trans I.os, F.bare, JJ (base := X.base) (L := X.env.locals) ib un hfr I.ok.above I.ok.funs I.ok.frf cov fl.1 fl'.1 up, YR F.hok covT fl.1 fl'.1, B, a0, fl', fun b o hb hn => ?_, covT⟩, hE⟩
 obtain ⟨o1, e1⟩ := ib.there b o hb (by simp)
 refine cov b o1 e1 fun hm => ?_
 have hm' : b ∈ (X.env :: X.outer).filterMap (·.frame) := hm
 rw [List.filterMap_cons_some (f := fun (x : Env) => x.frame) (a := X.env) (b := X.env.locals) hfr] at hm'
 rcases List.mem_cons.mp hm' with q | q
 ·rw [q] at hb
  exact absurd (Nat.lt_of_lt_of_le (Heap.lt_size hb) I.ok.above) (Nat.lt_irrefl _)
 ·exact hn q
def cxL (P : Program) (w : World) (K : PySem.W.Frag) (mg : Str → Option Value) (base : Heap) (N : List Str) (q : Str) (scope : Scope) (f : Addr) (cd : Value) (cl : List (Str × Addr)) (A : Around) (outer : List Env) (s : Shared) (H : Hp) (E : XK) : Cx where
 prog := P
 w := w
 K := K
 mg := mg
 base := base
 A := A.deeper (PySem.W.envX q scope s.heap.objs.size f cd cl)
 N := N
 s₀ := s
 H₀ := H
 env := PySem.W.envX q scope s.heap.objs.size f cd cl
 outer := outer
 stack := PySem.W.envX q scope s.heap.objs.size f cd cl :: outer
 ex := []
 calm := true
 fn := fun _ => false
 pn := []
 xe := fun e s' => wpAny (model P w) (A.deeper (PySem.W.envX q scope s.heap.objs.size f cd cl)) (leaving (PySem.W.envX q scope s.heap.objs.size f cd cl) e) (fun _ s'' => CXR P w outer H s E e s'') (fun e' s'' => CXR P w outer H s E e' s'') s'
structure Two (base : Heap) (scope : Scope) (cl : List (Str × Addr)) (x y : Str) (vx vy : V) : Prop where
 kx : scope.names.lookup x = some .free
 ky : scope.names.lookup y = some .free
 only : ∀ z, scope.names.lookup z = some .cell ∨ scope.names.lookup z = some .free → z = x ∨ z = y
 ne : x ≠ y
 cx : ∃ c u, cl.lookup x = some c ∧ base.IsCell c (some u) ∧ RelV vx u
 cy : ∃ c u, cl.lookup y = some c ∧ base.IsCell c (some u) ∧ RelV vy u
 mem : ∀ z c, cl.lookup z = some c → z = x ∨ z = y
 inj : ∀ c, cl.lookup x = some c → cl.lookup y = some c → False
theorem Jf {h b1 b2 : Heap} : ∀ {l : List Env}, h.FunFrames b1 l → (∀ b ∈ frs l, b2.get? b = none) → h.FunFrames b2 l
 | [], _, _ => trivial
 | env :: r, ⟨hk, ⟨L, o, hf, _, ho, hd⟩, hr⟩, hn => ⟨hk, ⟨L, o, hf, hn L (List.mem_filterMap.mpr ⟨env, .head _, hf⟩), ho, hd⟩, Jf hr fun b hb => hn b (by
   obtain ⟨e, he, q⟩ := List.mem_filterMap.mp hb
   exact List.mem_filterMap.mpr ⟨e, .tail _ he, q⟩)⟩
theorem Inv.rebase {X : Cx} {pins : List (Addr × Obj)} {σ : St} {H : Hp} {s : Shared} (I : Inv X pins σ H s) :
  ∃ base', X.base.StaysIn base' ∧ Env0 X.prog X.w X.K X.mg base' X.A X.stack s H ∧ ∀ b o, s.heap.get? b = some o → H b = none → b ∉ frs X.stack → base'.get? b = some o := by
 have cov : ∀ b o, s.heap.get? b = some o → H b = none → b ∉ frs X.stack → (PySem.W.hideAll (hidT s.heap H) (frs X.stack)).get? b = some o := fun b o e n hf => PySem.W.hideAll_get _ (US e n) hf
 have st : X.base.StaysIn (PySem.W.hideAll (hidT s.heap H) (frs X.stack)) := fun b o e => cov b o (I.bs b o e).1 (I.bs b o e).2 fun hm => by
  have := (I.stack.mem hm).1
  rw [e] at this
  cases this
 refine ⟨_, st, ⟨I.ok.frames, ⟨I.mod.kin.keeps st, I.mod.glob.keeps st, ?_, I.mod.nolimit.keeps st⟩, fun b o e => ZaL (PySem.W.of_hideAll _ e), ?_, Jf I.stack fun b hb => PySem.W.hideAll_none _ hb, I.stkFree, I.hok, I.bare⟩, cov⟩
 ·obtain ⟨mb, h1, h2⟩ := I.mod.blt
  exact ⟨mb, h1.keeps st, h2⟩
 ·rw [PySem.W.hideAll_size, WK]
  exact Nat.le_refl _
end L2
set_option Elab.async false
set_option linter.all false
set_option maxRecDepth 100000
namespace L2
open PySem PySem.Spec PyProof.Rows
def constV : Const → Option V
 | .int n => some (.int n)
 | .bool b => some (.bl b)
 | .str x => some (.str x)
 | .none => some .non
 | _ => none
def scOf : Expr → Option V
 | .Constant c _ _ => constV c
 | .UnaryOp .USub (.Constant (.int n) _ _) _ => some (.int (-n))
 | .BinOp (.Constant (.int a) _ _) .Pow (.Constant (.int b) _ _) _ => if 0 ≤ b ∧ b ≤ 1000000 ∧ a.natAbs < 2 ^ 64 then some (.int (a ^ b.toNat)) else none
 | _ => none
def scsOf : List Expr → Option (List V)
 | [] => some []
 | e :: r => match scOf e, scsOf r with
  | some v, some vs => some (v :: vs)
  | _, _ => none
inductive Lit where
 | sc (v : V)
 | tup (xs : List V)
 | lst (xs : List V)
 | dct
def LitAt (H : Hp) (v : V) : Lit → Prop
 | .sc u => v = u
 | .tup xs => ∃ a : Addr, v = .ref a ∧ H a = some (.tup xs)
 | .lst xs => ∃ a : Addr, v = .ref a ∧ H a = some (.lst xs)
 | .dct => ∃ a : Addr, v = .ref a ∧ H a = some (.dK [])
theorem LitAt.same {H H' : Hp} {v : V} : ∀ {l : Lit}, LitAt H v l → Same H H' → LitAt H' v l
 | .sc _, h, _ => h
 | .tup _, ⟨a, e, h⟩, s => ⟨a, e, s _ _ h⟩
 | .lst _, ⟨a, e, h⟩, s => ⟨a, e, s _ _ h⟩
 | .dct, ⟨a, e, h⟩, s => ⟨a, e, s _ _ h⟩
def litOf : Expr → Option Lit
 | .Tuple es _ _ => match scsOf es with
  | some xs => if xs.length ≤ 1000 then some (.tup xs) else none
  | none => none
 | .List es _ => match scsOf es with
  | some xs => if xs.length ≤ 1000 then some (.lst xs) else none
  | none => none
 | .Dict [] [] _ => some .dct
 | e => (scOf e).map .sc
def litsOf : List Expr → Option (List Lit)
 | [] => some []
 | e :: r => match litOf e, litsOf r with
  | some v, some vs => some (v :: vs)
  | _, _ => none
section
variable {X : Cx}
theorem Zdu {e : Expr} {v : V} (h : scOf e = some v) : PE X e (tC v) ∧ (∀ es, starEach (e :: es) X.env = (false, eval e X.env) :: starEach es X.env) ∧ ∀ a : Addr, v ≠ .ref a := by
 unfold scOf at h
 split at h
 ·rename_i c j p
  cases c with
  | int n => cases h; exact ⟨Zf, fun _ => rfl, fun a z => by cases z⟩
  | bool b => cases h; exact ⟨JS, fun _ => rfl, fun a z => by cases z⟩
  | str x => cases h; exact ⟨Yv, fun _ => rfl, fun a z => by cases z⟩
  | none => cases h; exact ⟨YE, fun _ => rfl, fun a z => by cases z⟩
  | _ => cases h
 ·cases h
  refine ⟨fun pins s σ H Q I q => Zb8 U6 Zf pins s σ H Q I ⟨_, rfl, q⟩, fun _ => rfl, fun a z => by cases z⟩
 ·split at h
  ·rename_i hc
   cases h
   refine ⟨fun pins s σ H Q I q => Zo Zag Zf Zf pins s σ H Q I ⟨_, _, rfl, rfl, hc, q⟩, fun _ => rfl, fun a z => by cases z⟩
  ·cases h
 ·cases h
theorem JV : ∀ {es : List Expr} {vs : List V}, scsOf es = some vs → PA X es (fun _ H Q => Q vs H)
 | [], vs, h => by cases h; exact Zb
 | e :: r, vs, h => by
  unfold scsOf at h
  split at h
  ·rename_i v ws h1 h2
   cases h
   obtain ⟨p1, p2, _⟩ := Zdu (X := X) h1
   exact fun pos pins s σ H Q I q => Za p1 (JV h2) (p2 r) pos pins s σ H Q I q
  ·cases h
theorem ZdN {e : Expr} {l : Lit} (h : litOf e = some l) : PE X e (fun _ H Q => ∀ v H', Same H H' → LitAt H' v l → (∀ a : Addr, v = .ref a → H a = none) → Q v H') ∧ ∀ es, starEach (e :: es) X.env = (false, eval e X.env) :: starEach es X.env := by
 unfold litOf at h
 split at h
 ·split at h
  ·rename_i xs hx
   split at h
   ·rename_i hl
    cases h
    refine ⟨fun pins s σ H Q I q => Zv (JV hx) pins s σ H Q I ⟨Nat.le_of_lt (small1000 hl), fun p hp => q _ _ (fun b o hb => by rw [Zh (Zk hb hp)]; exact hb) ⟨p, rfl, Zc⟩ fun a z => by cases z; exact hp⟩, fun _ => rfl⟩
   ·cases h
  ·cases h
 ·split at h
  ·rename_i xs hx
   split at h
   ·rename_i hl
    cases h
    refine ⟨fun pins s σ H Q I q => ZI (JV hx) pins s σ H Q I ⟨Nat.le_of_lt (small1000 hl), fun p hp => q _ _ (fun b o hb => by rw [Zh (Zk hb hp)]; exact hb) ⟨p, rfl, Zc⟩ fun a z => by cases z; exact hp⟩, fun _ => rfl⟩
   ·cases h
  ·cases h
 ·cases h
  exact ⟨fun pins s σ H Q I q => Ux pins s σ H Q I fun p hp => q _ _ (fun b o hb => by rw [Zh (Zk hb hp)]; exact hb) ⟨p, rfl, Zc⟩ fun a z => by cases z; exact hp, fun _ => rfl⟩
 ·rename_i x0 h1 h2 h3
  cases hs : scOf e with
  | none => rw [hs] at h; cases h
  | some v =>
   rw [hs] at h
   cases h
   obtain ⟨p1, p2, p3⟩ := Zdu (X := X) hs
   exact ⟨fun pins s σ H Q I q => p1 pins s σ H Q I (q v H (Same.refl H) rfl fun a z => absurd z (p3 a)), p2⟩
theorem ZaK : ∀ {es : List Expr} {ls : List Lit}, litsOf es = some ls → PA X es (fun _ H Q => ∀ vs H', Same H H' → Paired (LitAt H') vs ls → (∀ a, V.ref a ∈ vs → H a = none) → Q vs H')
 | [], ls, h => by cases h; exact fun pos pins s σ H Q I q => Zb pos pins s σ H Q I (q [] H (Same.refl H) .nil fun a z => nomatch z)
 | e :: r, ls, h => by
  unfold litsOf at h
  split at h
  ·rename_i v ws h1 h2
   cases h
   obtain ⟨p1, p2⟩ := ZdN (X := X) h1
   exact fun pos pins s σ H Q I q => Za p1 (ZaK h2) (p2 r) pos pins s σ H Q I fun v1 H1 s1 l1 n1 vs H2 s2 pr n2 => q (v1 :: vs) H2 (s1.trans s2) (.cons (l1.same s2) pr) fun a z => by
    rcases List.mem_cons.mp z with z | z
    ·exact n1 a z.symm
    ·exact s1.free (n2 a z)
  ·cases h
end
end L2
set_option Elab.async false
set_option linter.all false
set_option maxRecDepth 100000
namespace L2
open PySem PySem.Spec PyProof.Rows
def Itz (K : PySem.W.Frag) (l1 l2 : Addr) : It :=
 ⟨fun i H => ∃ xs ys x y, SqL K H l1 xs ∧ SqL K H l2 ys ∧ xs[i]? = some x ∧ ys[i]? = some y,
  fun i H v H' => ∃ (T : Addr) (x y : V), v = .ref T ∧ H T = none ∧ H' = upd H T (.par [x, y]) ∧ ∀ xs ys, SqL K H l1 xs → SqL K H l2 ys → xs[i]? = some x ∧ ys[i]? = some y,
  fun i H => ∃ xs ys, SqL K H l1 xs ∧ SqL K H l2 ys ∧ xs.length = i ∧ ys.length = i⟩
theorem ZbU {P : Program} {w : World} {K : PySem.W.Frag} {elts : List Expr} {kk : Nat} {pos : Pos} (z TI TO i1 i2 l1 l2 : Addr) (D : ZipApart z TI TO i1 i2 l1 l2) :
  Turn P w K (.Tuple elts kk pos) (Itz K l1 l2) [z, TI, TO, i1, i2] z (fun i h => IsZip h z TI TO .none ∧ IsPair h TI (.ref i1) (.ref i2) ∧ (∃ a b, IsPair h TO a b) ∧ h.IsListIter i1 l1 i ∧ h.IsListIter i2 l2 i) where
 mem := by simp
 obj := fun i h st b hb => by
  obtain ⟨a1, a2, ⟨u, v, a3⟩, ⟨o4, h4, _, d4⟩, ⟨o5, h5, _, d5⟩⟩ := st
  simp only [List.mem_cons, List.not_mem_nil, or_false] at hb
  rcases hb with rfl | rfl | rfl | rfl | rfl
  ·exact ⟨_, a1, fun v z => by cases z⟩
  ·exact ⟨_, a2, fun v z => by cases z⟩
  ·exact ⟨_, a3, fun v z => by cases z⟩
  ·exact ⟨_, h4, fun v z => by rw [d4] at z; cases z⟩
  ·exact ⟨_, h5, fun v z => by rw [d5] at z; cases z⟩
 keep := fun i h h' st k => by
  obtain ⟨a1, a2, ⟨u, v, a3⟩, a4, a5⟩ := st
  exact ⟨k z (by simp) _ a1, k TI (by simp) _ a2, ⟨u, v, k TO (by simp) _ a3⟩, a4.at fun o q => k i1 (by simp) o q, a5.at fun o q => k i2 (by simp) o q⟩
 item := by
  intro X hP hw hK hc i pins s σ H E I hf st hg
  subst hP hw hK
  obtain ⟨xs, ys, x, y, hq1, hq2, hx, hy⟩ := hg
  obtain ⟨is1, rv1, pl1, hz1⟩ := I.list hq1
  obtain ⟨is2, rv2, pl2, hz2⟩ := I.list hq2
  obtain ⟨u, hu, ru⟩ := rv1.get hx
  obtain ⟨v, hv, rv⟩ := rv2.get hy
  have hil : i < min is1.toArray.size is2.toArray.size := by
   have e1 := (List.getElem?_eq_some_iff.mp hu).1
   have e2 := (List.getElem?_eq_some_iff.mp hv).1
   simp only [List.size_toArray]
   omega
  have W := WalksT.zip2 (prog := X.prog) (w := X.w) (A := X.A) (I.ok.hd hc) z TI TO i1 i2 l1 l2 D is1.toArray is2.toArray
  obtain ⟨a1, a2, a3, a4, a5⟩ := st
  refine W.item i s _ _ hil ⟨a1, a2, a3, a4, a5, pl1.isList, pl2.isList⟩ fun T vals h' tk hP hTs hTup hmid hk => ⟨_, rfl, W.go elts kk pos i T _ _ _ hmid fun h'' st'' hk'' => ?_⟩
  obtain ⟨x2, y2, hx2, hy2, rfl⟩ := hP
  have hx2' : is1[i]? = some x2 := by simpa using hx2
  have hy2' : is2[i]? = some y2 := by simpa using hy2
  rw [hu] at hx2'
  rw [hv] at hy2'
  cases hx2'
  cases hy2'
  have hTn : H T = none := I.hok.fresh hTs
  have both : ∀ b o, b ∉ [z, TO, i1, i2] → s.heap.get? b = some o → h''.get? b = some o := fun b o hb q => hk'' b o hb (hk b o hb q)
  have sub : ∀ b, b ∉ [z, TI, TO, i1, i2] → b ∉ [z, TO, i1, i2] := fun b hb hm => hb (by
   simp only [List.mem_cons, List.not_mem_nil, or_false] at hm ⊢
   rcases hm with h | h | h | h
   ·exact .inl h
   ·exact .inr (.inr (.inl h))
   ·exact .inr (.inr (.inr (.inl h)))
   ·exact .inr (.inr (.inr (.inr h))))
  have hTw : T ∉ [z, TO, i1, i2] := W.apart _ _ _ hmid
  have hTT : h''.IsTuple T #[u, v] := hTup.at fun o q => hk'' T o hTw q
  have neT : ∀ b o, s.heap.get? b = some o → b ≠ T := fun b o q => Nat.ne_of_lt (Nat.lt_of_lt_of_le (Heap.lt_size q) hTs)
  have neT' : ∀ b o, H b = some o → b ≠ T := fun b o q => Zk q hTn
  have trk : ∀ b o, H b = some o → b ∉ [z, TI, TO, i1, i2] := fun b o q hm => by
   have := (hf b hm).1
   rw [this] at q; cases q
  refine ⟨.ref T, upd H T (.par [x, y]), ?_, rfl, ⟨T, x, y, rfl, hTn, rfl, fun as bs ha hb => by rw [I.list_inj ha hq1, I.list_inj hb hq2]; exact ⟨hx, hy⟩⟩, ⟨st''.1, st''.2.1, st''.2.2.1, st''.2.2.2.1, st''.2.2.2.2.1⟩, fun b hb => ?_⟩
  ·refine (show Inv X pins σ (upd H T (.par [x, y])) { s with heap := h'', toks := tk } from ?_)
   refine I.call (g' := s.gens) (d' := s.drawn) (t' := tk) (h' := h'') (ch := [z, TI, TO, i1, i2]) ⟨fun b o q _ _ hx => both b o (sub b hx) q, fun b o q _ _ hx => ⟨o.slots, both b o (sub b hx) q⟩, fun b o q n hx => by rw [Zh (neT b o q)]; exact n, fun b o q hx => ⟨o, both b o (sub b hx) q⟩,
    fun b ys q => by rw [Zh (neT' b _ q)]; exact q, fun b o u q => by rw [Zh (neT' b _ q)]; exact q, fun b ps q => ⟨#[], by rw [Zh (neT' b _ q), q]; simp⟩⟩ (fun b o q => ?_) I.bare fun b hb => ?_
   ·by_cases hb : b = T
    ·subst hb
     rw [Zc] at q
     cases q
     exact ⟨by show 2 ≤ sizeLine; decide, [u, v], .cons ru (.cons rv .nil), hTT⟩
    ·rw [Zh hb] at q
     refine (I.hok b o q).stay (fun c ob hc' q' => both c ob ?_ q') (fun c q' => by rw [Zh (neT' c _ q')]; exact q') fun c ys q' => by rw [Zh (neT' c _ q')]; exact q'
     rcases hc' with z' | z'
     ·rw [z']; exact sub _ (trk b o q)
     ·exact sub _ (trk c _ z')
   ·obtain ⟨f0, f1, f2, f3, f4, f5⟩ := hf b hb
    exact ⟨f3, f1, f4, f5⟩
  ·have hne : b ≠ T := by
    obtain ⟨f0, _⟩ := hf b hb
    have : ∃ o, s.heap.get? b = some o := by
     obtain ⟨u', v', a3'⟩ := a3
     obtain ⟨o4, h4, _⟩ := a4
     obtain ⟨o5, h5, _⟩ := a5
     simp only [List.mem_cons, List.not_mem_nil, or_false] at hb
     rcases hb with rfl | rfl | rfl | rfl | rfl
     ·exact ⟨_, a1⟩
     ·exact ⟨_, a2⟩
     ·exact ⟨_, a3'⟩
     ·exact ⟨_, h4⟩
     ·exact ⟨_, h5⟩
    obtain ⟨o, ho⟩ := this
    exact neT b o ho
   rw [Zh hne]
   exact (hf b hb).1
 done := by
  intro X hP hw hK hc i pins s σ H E I hf st hg
  subst hP hw hK
  obtain ⟨xs, ys, hq1, hq2, hx, hy⟩ := hg
  obtain ⟨is1, rv1, pl1, hz1⟩ := I.list hq1
  obtain ⟨is2, rv2, pl2, hz2⟩ := I.list hq2
  have e1 := rv1.length
  have e2 := rv2.length
  have W := WalksT.zip2 (prog := X.prog) (w := X.w) (A := X.A) (I.ok.hd hc) z TI TO i1 i2 l1 l2 D is1.toArray is2.toArray
  have hn : i = min is1.toArray.size is2.toArray.size := by simp only [List.size_toArray]; omega
  obtain ⟨a1, a2, a3, a4, a5⟩ := st
  rw [hn] at a4 a5
  have sub : ∀ b, b ∉ [z, TI, TO, i1, i2] → b ∉ [z, TO, i1, i2] := fun b hb hm => hb (by
   simp only [List.mem_cons, List.not_mem_nil, or_false] at hm ⊢
   rcases hm with h | h | h | h
   ·exact .inl h
   ·exact .inr (.inr (.inl h))
   ·exact .inr (.inr (.inr (.inl h)))
   ·exact .inr (.inr (.inr (.inr h))))
  refine W.done s _ _ ⟨a1, a2, a3, a4, a5, pl1.isList, pl2.isList⟩ fun h' tk hk => ⟨rfl, ?_⟩
  have trk : ∀ b o, H b = some o → b ∉ [z, TI, TO, i1, i2] := fun b o q hm => by
   have := (hf b hm).1
   rw [this] at q; cases q
  refine I.call (g' := s.gens) (d' := s.drawn) (t' := tk) (h' := h') (ch := [z, TI, TO, i1, i2]) ⟨fun b o q _ _ hx => hk b o (sub b hx) q, fun b o q _ _ hx => ⟨o.slots, hk b o (sub b hx) q⟩, fun b o q n hx => n, fun b o q hx => ⟨o, hk b o (sub b hx) q⟩, fun b ys q => q, fun b o u q => q, fun b ps q => ⟨#[], by rw [q]; simp⟩⟩ (fun b o q => ?_) I.bare fun b hb => ?_
  ·refine (I.hok b o q).stay (fun c ob hc' q' => hk c ob ?_ q') (fun _ q' => q') fun _ _ q' => q'
   rcases hc' with z' | z'
   ·rw [z']; exact sub _ (trk b o q)
   ·exact sub _ (trk c _ z')
  ·obtain ⟨f0, f1, f2, f3, f4, f5⟩ := hf b hb
   exact ⟨f3, f1, f4, f5⟩
 self := fun A i s Q E st h => wpAny_pyIter_zip st.1 h
theorem Wu (n l1 l2 : Nat) (h1 : l1 < n) (h2 : l2 < n) : ZipApart (n + 4) (n + 2) (n + 3) n (n + 1) l1 l2 := by
 constructor <;> intro z <;> refine absurd (show @Eq Nat _ _ from z) ?_ <;> omega
section
variable {X : Cx} {elts : List Expr} {kk : Nat} {tp : Pos}
def iZip (K : PySem.W.Frag) (ta : TA) : TI := fun σ H R => ta σ H fun vs H1 => ∃ l1 l2, vs = [.ref l1, .ref l2] ∧ (∃ xs ys, SqL K H1 l1 xs ∧ SqL K H1 l2 ys) ∧ R (Itz K l1 l2) H1
theorem ZdL {a b : Expr} {ta : TA} {p pos : Pos} (hg : Gl X "zip") (hm : X.mg "zip" = none) (ha : PA X [a, b] ta) (hs : starEach [a, b] X.env = [(false, eval a X.env), (false, eval b X.env)] := by rfl) (hs2 : starEach [b] X.env = [(false, eval b X.env)] := by rfl) :
  PI X (.Tuple elts kk tp) (.Call (.Name "zip" p) [a, b] [] pos) (iZip X.K ta) := by
 intro pins s σ H R I h
 refine Call_ (Yl I hg hm PyProof.Rows.Boot.«zip» (PyProof.Rows.callWith_type1 (thn (ha pos pins s σ H _ I h) fun us s1 ⟨vs, H1, I1, r1, q1⟩ => ?_) (by rw [hs, hs2]) (by rw [hs2]; rfl)))
 obtain ⟨l1, l2, e, ⟨xs, ys, hq1, hq2⟩, q⟩ := q1
 subst e
 obtain ⟨u, v, rfl, ru, rv⟩ := vals2 r1
 cases ru
 cases rv
 obtain ⟨is1, rv1, pl1, hz1⟩ := I1.list hq1
 obtain ⟨is2, rv2, pl2, hz2⟩ := I1.list hq2
 have t1 : l1 < s1.heap.objs.size := by obtain ⟨o, ho, _⟩ := pl1.isList; exact Heap.lt_size ho
 have t2 : l2 < s1.heap.objs.size := by obtain ⟨o, ho, _⟩ := pl2.isList; exact Heap.lt_size ho
 have D := Wu s1.heap.objs.size l1 l2 t1 t2
 refine call_zip_2 pl1.isList pl2.isList fun h' b1 b2 b3 b4 b5 b6 hk => wpAny_pyIter_zip b1 ?_
 have I2 : Inv X pins σ H1 { s1 with heap := h' } := I1.kept (t' := s1.toks) hk
 refine ⟨s1.heap.objs.size + 4, [s1.heap.objs.size + 4, s1.heap.objs.size + 2, s1.heap.objs.size + 3, s1.heap.objs.size, s1.heap.objs.size + 1], _, _, H1, rfl, I2,
  ZbU _ _ _ _ _ l1 l2 D, ⟨b1, b2, ⟨_, _, b3⟩, b4, b5⟩, fun b hb => ?_, q⟩
 have hbs : s1.heap.objs.size ≤ b := by
  simp only [List.mem_cons, List.not_mem_nil, or_false] at hb
  rcases hb with z | z | z | z | z <;> rw [z] <;> first | exact Nat.le_refl _ | exact Nat.le_add_right _ _
 exact I1.fpOk hbs (I1.hok.fresh hbs)
end
theorem Zcn {K : PySem.W.Frag} {l1 l2 : Addr} {xs zs : List V} {g : TG} {tt : TT} {ti : TC} {ys : List V} {σ : St} {H : Hp} {Q : List V → St → Hp → Prop} (hlen : xs.length = zs.length) (Pv : Nat → List V → St → Hp → Prop) (h0 : Pv 0 ys σ H)
  (hl : ∀ i ys σ H, i ≤ xs.length → Pv i ys σ H → SqL K H l1 xs ∧ SqL K H l2 zs)
  (hs : ∀ i x y T ys σ H, xs[i]? = some x → zs[i]? = some y → H T = none → Pv i ys σ H → g (.ref T) σ (upd H T (.par [x, y])) fun σ2 H2 => tt σ2 H2 fun b H3 => if b = true then ti ys σ2 H3 (Pv (i + 1)) else Pv (i + 1) ys σ2 H3)
  (hd : ∀ ys σ H, Pv xs.length ys σ H → Q ys σ H) : tNestW g tt ti (Itz K l1 l2) ys σ H Q := by
 refine ⟨fun i m ys σ H => m = xs.length - i ∧ i ≤ xs.length ∧ Pv i ys σ H, ⟨xs.length, by simp, Nat.zero_le _, h0⟩, ?_⟩
 rintro i m ys σ H ⟨rfl, hi, p⟩
 obtain ⟨q1, q2⟩ := hl i ys σ H hi p
 by_cases hlt : i < xs.length
 ·refine .inr ⟨⟨xs, zs, xs[i], zs[i]'(by omega), q1, q2, by simp [hlt], by simp [hlen ▸ hlt]⟩, Pv (i + 1), fun ys' σ' H' p' => ⟨xs.length - (i + 1), by omega, rfl, hlt, p'⟩, fun x H' y => ?_⟩
  obtain ⟨T, a, b, e1, e2, e3, e4⟩ := y
  subst e1 e3
  obtain ⟨f1, f2⟩ := e4 xs zs q1 q2
  exact hs i a b T ys σ H f1 f2 e2 p
 ·have e : i = xs.length := by omega
  subst e
  exact .inl ⟨⟨xs, zs, q1, q2, rfl, hlen.symm⟩, hd ys σ H p⟩
end L2
set_option Elab.async false
set_option linter.all false
set_option maxRecDepth 100000
namespace L2
open PySem PySem.Spec PyProof.Rows SeqAt
end L2
set_option Elab.async false
set_option linter.all false
set_option maxRecDepth 100000
namespace L2
open PySem PySem.Spec PyProof.Rows SeqAt
theorem Us {α β : Type} {F : α → β → Prop} : ∀ {l₁ : List α} {l₂ : List β} {i : Nat} {x : α}, Paired F l₁ l₂ → l₁[i]? = some x → ∃ y, l₂[i]? = some y ∧ F x y
 | _, _, _, _, .nil, h => by simp at h
 | _, _, 0, _, .cons r _, h => by simp at h; subst h; exact ⟨_, rfl, r⟩
 | _, _, i + 1, _, .cons _ t, h => by
  obtain ⟨y, e, q⟩ := Us t (i := i) (by simpa using h)
  exact ⟨y, by simpa using e, q⟩
section
variable {X : Cx}
theorem Ue {a b : String} : CallR X (.builtin "isinstance") (fun xs H Q => ∃ (x : V) (t : Addr) (T : Value) (r : Bool), xs = [x, .ref t] ∧ SqT X.K H t [.ty a, .ty b] ∧ ((∃ i, x = .int i ∧ T = .type "int") ∨ ∃ l ys, x = .ref l ∧ H l = some (.lst ys) ∧ T = .type "list") ∧
  PySem.W.kitAny X.K T [.type a, .type b] = some r ∧ Q (.bl r) H) := by
 intro pins s σ H xs us Q I rv h
 obtain ⟨x, t, T, r, rfl, hq, hx, hk, q⟩ := h
 obtain ⟨u, v, rfl, ru, rv⟩ := vals2 rv
 cases rv
 obtain ⟨its, rt, pl, hz⟩ := I.tuple hq
 cases rt with
 | cons r1 r2 =>
  cases r2 with
  | cons r3 r4 =>
   cases r4
   cases r1
   cases r3
   obtain ⟨o, ho, hc, n, hd⟩ := id pl
   obtain ⟨cls, dd, dt, sl⟩ := o
   replace hc : cls = .type "tuple" := hc
   replace hd : dt = .seq [Value.type a, Value.type b].toArray n := hd
   subst hc hd
   rcases hx with ⟨i, rfl, rfl⟩ | ⟨l, ys, rfl, hl, rfl⟩
   ·obtain ⟨tk, rfl⟩ := ru
    exact PySem.W.kia_tup PySem.W.kitx_int I.kIn True.intro ho hk (fun z => nomatch z) fun tk => ⟨.bl r, H, I.tok _, rfl, q⟩
   ·cases ru
    obtain ⟨_, _, n, _, h1⟩ := (show ObjOk X.prog X.w H s.heap l (.lst ys) from I.hok l _ hl)
    exact PySem.W.kia_tup PySem.W.kitx_list I.kIn ⟨_, h1, rfl⟩ ho hk (fun z => nomatch z) fun tk => ⟨.bl r, H, I.tok _, rfl, q⟩
end
end L2
set_option Elab.async false
set_option linter.all false
set_option maxRecDepth 100000
namespace L2
open PySem PySem.Spec PyProof.Rows SeqAt
section
variable {X : Cx}
def frTo (i : Int) (n : Nat) : List Int := (List.range n).map fun (k : Nat) => i + (k : Int)
theorem WR {x : V} : ∀ {xs : List V} {us : List Value}, Vals xs us → xs.all flatV = true → us.countP (eqU x) = xs.countP fun y => eqV y x
 | _, _, .nil, _ => rfl
 | y :: xs, u :: us, .cons r t, f => by
  rw [List.all_cons, Bool.and_eq_true] at f
  rw [List.countP_cons, List.countP_cons, Uc r f.1, WR t f.2]
def rLCnt (K : PySem.W.Frag) : V → List V → Hp → VK → Prop := fun v vs H Q => ∃ (a : Addr) (xs : List V) (x : V), v = .ref a ∧ vs = [x] ∧ SqL K H a xs ∧ flatV x = true ∧ xs.all flatV = true ∧ Q (.int ((xs.countP fun y => eqV y x : Nat) : Int)) H
theorem ZaP {its : List Value} {h : Heap} {a : Addr} (pl : h.IsList a its.toArray) : ∃ dd n sl, h.get? a = some { cls := .type "list", dict := dd, data := .seq its.toArray n, slots := sl } := by
 obtain ⟨o, ho, hc, n, hd⟩ := pl
 obtain ⟨cls, dd, dt, sl⟩ := o
 replace hc : cls = .type "list" := hc
 replace hd : dt = .seq its.toArray n := hd
 subst hc hd
 exact ⟨_, _, _, ho⟩
theorem Zcp : MtR X "list.count" (rLCnt X.K) := by
 intro pins s σ H v vs u us Q I rv rvs h
 obtain ⟨a, xs, x, rfl, rfl, hq, fx, fs, q⟩ := h
 cases rv
 obtain ⟨ux, rfl, rx⟩ := vals1 rvs
 obtain ⟨its, r, pl, hz⟩ := I.list hq
 obtain ⟨dd, n, sl, ho⟩ := ZaP pl.isList
 refine call_meets F.slot_list_count ⟨_, ho, rfl⟩ F.entry_list_count (F.args_list_count_2 _ _) (list_countAt a its.toArray n dd sl ux (eqU x)) ⟨ho, fun y hy => YI rx fx r fs y (by simpa using hy), ?_⟩
 exact ⟨.int _, H, I.tok _, ⟨_, by rw [show its.toArray.toList = its by simp, WR r fs]⟩, q⟩
def rLIdx (K : PySem.W.Frag) : V → List V → Hp → VK → Prop := fun v vs H Q => ∃ (a : Addr) (xs : List V) (x : V) (j : Nat), v = .ref a ∧ vs = [x] ∧ SqL K H a xs ∧ flatV x = true ∧ xs.all flatV = true ∧ (∃ y, xs[j]? = some y ∧ eqV y x = true) ∧ (∀ m y, m < j → xs[m]? = some y → eqV y x = false) ∧ Q (.int (j : Int)) H
theorem Zbz : MtR X "list.index" (rLIdx X.K) := by
 intro pins s σ H v vs u us Q I rv rvs h
 obtain ⟨a, xs, x, j, rfl, rfl, hq, fx, fs, ⟨y, hy, ey⟩, hno, q⟩ := h
 cases rv
 obtain ⟨ux, rfl, rx⟩ := vals1 rvs
 obtain ⟨its, r, pl, hz⟩ := I.list hq
 obtain ⟨dd, n, sl, ho⟩ := ZaP pl.isList
 have hlen := r.length
 have ans : ∀ k z (hk : k < its.length), xs[k]? = some z → eqU x its[k] = eqV z x := fun k z hk hz' => by
  obtain ⟨w, hw, rw'⟩ := r.get hz'
  rw [List.getElem?_eq_getElem hk] at hw
  cases hw
  exact Uc rw' (List.all_eq_true.mp fs z (List.mem_of_getElem? hz'))
 have hj : j < its.length := by have := (List.getElem?_eq_some_iff.mp hy).1; omega
 refine call_meets F.slot_list_index ⟨_, ho, rfl⟩ F.entry_list_index (F.args_list_index_2 _ _)
  (list_indexAt a its.toArray n dd sl ux (eqU x) j (by simpa using hj) (by rw [sizeLine_eq] at hz; omega) (by simpa [ey] using ans j y hj hy) (fun m hm hmj => ?_)) ⟨ho, fun y hy => YI rx fx r fs y (by simpa using hy), ?_⟩
 ·have hm' : m < its.length := by simpa using hm
  have hx : m < xs.length := by omega
  have e := ans m _ hm' (List.getElem?_eq_getElem hx)
  rw [hno m _ hmj (List.getElem?_eq_getElem hx)] at e
  simpa using e
 ·exact ⟨.int (j : Int), H, I.tok _, ⟨_, rfl⟩, q⟩
end
end L2
set_option Elab.async false
set_option linter.all false
set_option maxRecDepth 100000
namespace L2
open PySem PySem.Spec PyProof.Rows
structure One (base : Heap) (scope : Scope) (cl : List (Str × Addr)) (x : Str) (vx : V) : Prop where
 kx : scope.names.lookup x = some .free
 only : ∀ z, scope.names.lookup z = some .cell ∨ scope.names.lookup z = some .free → z = x
 cx : ∃ c u, cl.lookup x = some c ∧ base.IsCell c (some u) ∧ RelV vx u
 mem : ∀ z c, cl.lookup z = some c → z = x
end L2
set_option Elab.async false
set_option linter.all false
set_option maxRecDepth 100000
namespace L2
open PySem PySem.Spec PyProof.Rows
structure Src (prog : Program) (w : World) (i l : Addr) (n : Nat) (f : Nat → Value) (S : Nat → Heap → Prop) : Prop where
 here : ∀ k h, S k h → ∃ o, h.get? i = some o
 stay : ∀ k h h', S k h → (∀ c, c = i ∨ c = l → ∀ o, h.get? c = some o → h'.get? c = some o) → S k h'
 item : ∀ (A : Around) k (s : Shared) (Q : Value → Shared → Prop) (E : Value → Shared → Prop), k < n → S k s.heap → (∀ h', S (k + 1) h' → Heap.SameBut i s.heap h' → Q (f k) { s with heap := h' }) → wpAny (model prog w) A (Builtin.SmallTypes.nextOf (.ref i)) Q E s
 stop : ∀ (A : Around) (s : Shared) (Q : Value → Shared → Prop) (E : Value → Shared → Prop), A.handled = none → S n s.heap → (∀ h' e, Heap.ExtBut i s.heap h' → (∃ o, h'.get? e = some o ∧ o.cls = .type "StopIteration") → E (.ref e) { s with heap := h' }) → wpAny (model prog w) A (Builtin.SmallTypes.nextOf (.ref i)) Q E s
theorem YN (prog : Program) (w : World) {i l : Addr} (its : Array Value) (hne : l ≠ i) : Src prog w i l its.size (fun k => its.getD k .none) (fun k h => IsTupIter h i l k ∧ IsTup h l its) where
 here := fun k h ⟨⟨o, ho, _⟩, _⟩ => ⟨o, ho⟩
 stay := fun k h h' ⟨⟨o, ho, r⟩, ⟨u, hu, r'⟩⟩ st => ⟨⟨o, st i (.inl rfl) o ho, r⟩, ⟨u, st l (.inr rfl) u hu, r'⟩⟩
 item := fun A k s Q E hk ⟨hi, ht⟩ q => by
  obtain ⟨oi, gi, ci, di⟩ := id hi
  obtain ⟨ot, gt, ct, nt, dt⟩ := id ht
  have hx : its[k]? = some (its.getD k .none) := by simp [hk]
  unfold Builtin.SmallTypes.nextOf
  refine wpAny_bind (wpAny_callSpecial?_slot (name := Str.ofString "__next__") hi.typeIs slot_tupleiter_next (wpAny_call_entry slot_tupleiter_next hi.typeIs entry_tupleiter_next ?_ (args_tupleiter_next _)))
  refine (show wpAny _ _ (field (.ref i) 0 >>= _) _ _ s from wpAny_bind (wpAny_field gi di (x := .ref l) rfl ?_))
  refine (show wpAny _ _ (if (Value.ref l == Value.none) = true then _ else _) _ _ s from ?_)
  rw [if_neg (by exact Bool.false_ne_true)]
  refine (show wpAny _ _ (field (.ref i) 1 >>= _) _ _ s from wpAny_bind (wpAny_field gi di (x := .int k 0) rfl ?_))
  refine (show wpAny _ _ (seqItems? (.ref l) >>= _) _ _ s from wpAny_bind (wpAny_seqItems gt dt ?_))
  simp only [Int.toNat_natCast, hx]
  refine wpAny_bind (wpAny_setField gi di (by simp) (wpAny_pure ⟨_, rfl, wpAny_pure (q _ ⟨⟨_, Heap.get?_update_self _ gi (Obj.isFreed_of_fields (Obj.data_mapFields di _)), (Obj.cls_mapFields ..).trans ci, ?_⟩, ?_⟩ (Heap.SameBut.update ..))⟩))
  ·rw [Obj.data_mapFields di]; simp [rawInt]
  ·exact ⟨ot, (Heap.SameBut.update ..).extBut _ _ hne gt, ct, nt, dt⟩
 stop := fun A s Q E hh ⟨hi, ht⟩ q => by
  obtain ⟨oi, gi, ci, di⟩ := id hi
  obtain ⟨ot, gt, ct, nt, dt⟩ := id ht
  have hx : its[its.size]? = none := by simp
  unfold Builtin.SmallTypes.nextOf
  refine wpAny_bind (wpAny_callSpecial?_slot (name := Str.ofString "__next__") hi.typeIs slot_tupleiter_next (wpAny_call_entry slot_tupleiter_next hi.typeIs entry_tupleiter_next ?_ (args_tupleiter_next _)))
  refine (show wpAny _ _ (field (.ref i) 0 >>= _) _ _ s from wpAny_bind (wpAny_field gi di (x := .ref l) rfl ?_))
  refine (show wpAny _ _ (if (Value.ref l == Value.none) = true then _ else _) _ _ s from ?_)
  rw [if_neg (by exact Bool.false_ne_true)]
  refine (show wpAny _ _ (field (.ref i) 1 >>= _) _ _ s from wpAny_bind (wpAny_field gi di (x := .int its.size 0) rfl ?_))
  refine (show wpAny _ _ (seqItems? (.ref l) >>= _) _ _ s from wpAny_bind (wpAny_seqItems gt dt ?_))
  simp only [Int.toNat_natCast, hx]
  refine wpAny_bind (wpAny_rule (wpAny_bind (wpAny_setField gi di (by simp) ?_)))
  refine (show wpAny _ _ (newExc (.type "StopIteration") [] >>= _) _ _ _ from wpAny_bind ?_)
  simp only [newExc, newTuple]
  refine wpAny_bind (wpAny_newObj_type ?_ (by size_fits))
  refine wpAny_bind (m := firstArgMember _ _) (wpAny_of_eq (a := Value.none) (by first | rfl | (simp only [firstArgMember]; rfl)) ?_)
  refine wpAny_newObj_type ?_ (by size_fits)
  simp only [raiseNew]
  refine wpAny_bind (wpAny_handled ?_)
  first | rw [show A.in1.handled = none from hh] | rw [hh]
  refine wpAny_bind (wpAny_pure (wpAny_throw ?_))
  exact q _ _ (((Heap.SameBut.update ..).extBut.push _).push _) ⟨_, Heap.get?_push_size _ rfl, rfl⟩
section
variable {prog : Program} {w : World} {A : Around} {E : Value → Shared → Prop} {s : Shared} {z TI TO i1 i2 l1 l2 : Addr} {n k : Nat} {f g : Nat → Value} {S1 S2 : Nat → Heap → Prop}
theorem ZcU {a b : Value} {Q : Value → Shared → Prop} (U1 : Src prog w i1 l1 n f S1) (U2 : Src prog w i2 l2 n g S2) (D : ZipApart z TI TO i1 i2 l1 l2) (hk : k < n) (hz : IsZip s.heap z TI TO .none) (hI : IsPair s.heap TI (.ref i1) (.ref i2)) (hO : IsPair s.heap TO a b) (h1 : S1 k s.heap) (h2 : S2 k s.heap)
    (q : ∀ h', IsZip h' z TI TO (rawInt s.heap.objs.size) → IsPair h' TO (f k) (g k) → S1 (k + 1) h' → S2 (k + 1) h' → IsPair h' s.heap.objs.size (f k) (g k) → h'.objs.size = s.heap.objs.size + 1 →
      (∀ c o, c ≠ z → c ≠ TO → c ≠ i1 → c ≠ i2 → s.heap.get? c = some o → h'.get? c = some o) → Q (.ref s.heap.objs.size) { s with heap := h' }) :
    wpAny (model prog w) A (Builtin.«zip.__next__» ⟨[.ref z], []⟩) (fun fin s' => ∃ v, fin = .done (.ret v) ∧ Q v s') E s := by
  refine (show wpAny _ _ (field (.ref z) 2 >>= _) _ _ _ from wpAny_bind (wpAny_field hz rfl (x := .bool false) rfl ?_))
  refine (show wpAny _ _ (field (.ref z) 3 >>= _) _ _ _ from wpAny_bind (wpAny_field hz rfl (x := .ref TI) rfl (wpAny_bind (wpAny_seqItems hI rfl ?_))))
  refine (show wpAny _ _ (Builtin.SmallTypes.ownedTupleIsFree (.ref z) >>= _) _ _ _ from wpAny_bind ?_)
  unfold Builtin.SmallTypes.ownedTupleIsFree
  refine wpAny_bind (wpAny_field hz rfl (x := .none) rfl (wpAny_pure ?_))
  simp only [if_true]
  refine wpAny_bind (wpAny_rule (wpAny_bind (wpAny_field hz rfl (x := .ref TO) rfl (wpAny_bind (wpAny_setField_rec hz (by simp) fun m1 zz1 e1 => ?_)))))
  replace zz1 : IsZip m1 z TI TO .ellipsis := zz1
  have b1 := e1.extBut
  refine wpAny_bind ?_
  simp only [List.zipIdx_cons, List.zipIdx_nil, List.forIn_cons, List.forIn_nil]
  refine wpAny_bind (wpAny_bind (wpAny_onRaise ?_))
  have st1 : S1 k m1 := U1.stay _ _ _ h1 fun c hc o ho => by rcases hc with rfl | rfl <;> first | exact b1 _ _ D.i1z ho | exact b1 _ _ D.l1z ho
  refine (show wpAny _ _ (Builtin.SmallTypes.nextOf (.ref i1) >>= _) _ _ _ from wpAny_bind (U1.item _ k _ _ _ hk st1 fun m2 st2 e2 => wpAny_pure ?_))
  have b2 := e2.extBut
  have o2 : IsPair m2 TO a b := b2 _ _ D.TOi1 (b1 _ _ D.TOz hO)
  refine wpAny_bind (wpAny_seqItems o2 rfl (wpAny_bind (wpAny_updateSeq_pair o2 fun m3 o3 e3 => ?_)))
  replace o3 : IsPair m3 TO (f k) b := o3
  have b3 := e3.extBut
  refine wpAny_bind (wpAny_letGo (wpAny_pure (wpAny_bind (wpAny_bind (wpAny_onRaise ?_)))))
  have w3 : S2 k m3 := U2.stay _ _ _ h2 fun c hc o ho => by
    rcases hc with rfl | rfl
    · exact b3 _ _ D.TOi2.symm (b2 _ _ D.i12.symm (b1 _ _ D.i2z ho))
    · exact b3 _ _ D.l2TO (b2 _ _ D.l2i1 (b1 _ _ D.l2z ho))
  refine (show wpAny _ _ (Builtin.SmallTypes.nextOf (.ref i2) >>= _) _ _ _ from wpAny_bind (U2.item _ k _ _ _ hk w3 fun m4 w4 e4 => wpAny_pure ?_))
  have b4 := e4.extBut
  have o4 : IsPair m4 TO (f k) b := b4 _ _ D.TOi2 o3
  refine wpAny_bind (wpAny_seqItems o4 rfl (wpAny_bind (wpAny_updateSeq_pair o4 fun m5 o5 e5 => ?_)))
  replace o5 : IsPair m5 TO (f k) (g k) := o5
  have b5 := e5.extBut
  refine wpAny_bind (wpAny_letGo (wpAny_pure (wpAny_pure (wpAny_bind (wpAny_seqItems o5 rfl (wpAny_bind (wpAny_newTuple ?_)))))))
  have sz : m5.objs.size = s.heap.objs.size := by rw [e5.1, e4.1, e3.1, e2.1, e1.1]
  have z5 : IsZip m5 z TI TO .ellipsis := b5 _ _ D.TOz.symm (b4 _ _ D.i2z.symm (b3 _ _ D.TOz.symm (b2 _ _ D.i1z.symm zz1)))
  have kp : ∀ c o, c ≠ z → c ≠ TO → c ≠ i1 → c ≠ i2 → s.heap.get? c = some o → m5.get? c = some o := fun c o c1 c2 c3 c4 e => b5 _ _ c2 (b4 _ _ c4 (b3 _ _ c2 (b2 _ _ c3 (b1 _ _ c1 e))))
  have st5 : S1 (k + 1) m5 := U1.stay _ _ _ st2 fun c hc o ho => by
    rcases hc with rfl | rfl
    · exact b5 _ _ D.TOi1.symm (b4 _ _ D.i12 (b3 _ _ D.TOi1.symm ho))
    · exact b5 _ _ D.l1TO (b4 _ _ D.l1i2 (b3 _ _ D.l1TO ho))
  have w5 : S2 (k + 1) m5 := U2.stay _ _ _ w4 fun c hc o ho => by rcases hc with rfl | rfl <;> first | exact b5 _ _ D.TOi2.symm ho | exact b5 _ _ D.l2TO ho
  have zlt : z < m5.objs.size := Heap.lt_size z5
  refine (show wpAny _ _ (Builtin.SmallTypes.ownedTupleHandOut (.ref z) (.ref m5.objs.size) >>= _) _ _ _ from wpAny_bind ?_)
  unfold Builtin.SmallTypes.ownedTupleHandOut
  have z6 : IsZip (m5.push { cls := .type "tuple", data := .seq #[f k, g k] }) z TI TO .ellipsis := Heap.get?_push_of_some _ z5
  refine wpAny_bind (wpAny_setField_rec z6 (by simp) fun m7 z7 e7 => ?_)
  replace z7 : IsZip m7 z TI TO (rawInt m5.objs.size) := z7
  refine wpAny_setField_rec z7 (by simp) fun m8 z8 e8 => ?_
  replace z8 : IsZip m8 z TI TO (rawInt m5.objs.size) := z8
  have up : ∀ c o, c ≠ z → m5.get? c = some o → m8.get? c = some o := fun c o c1 e => e8.extBut _ _ c1 (e7.extBut _ _ c1 (Heap.get?_push_of_some _ e))
  have t8 : IsPair m8 m5.objs.size (f k) (g k) := e8.extBut _ _ (Nat.ne_of_gt zlt) (e7.extBut _ _ (Nat.ne_of_gt zlt) (Heap.get?_push_size _ rfl))
  have s8 : m8.objs.size = m5.objs.size + 1 := by rw [e8.1, e7.1, Heap.size_push]
  rw [sz] at z8 t8 s8
  refine wpAny_pure ⟨_, rfl, ?_⟩
  show Q (.ref m5.objs.size) _
  rw [sz]
  refine q m8 z8 (up _ _ D.TOz o5) (U1.stay _ _ _ st5 fun c hc o ho => ?_) (U2.stay _ _ _ w5 fun c hc o ho => ?_) t8 s8 fun c o c1 c2 c3 c4 e => up c o c1 (kp c o c1 c2 c3 c4 e)
  · rcases hc with rfl | rfl <;> first | exact up _ _ D.i1z ho | exact up _ _ D.l1z ho
  · rcases hc with rfl | rfl <;> first | exact up _ _ D.i2z ho | exact up _ _ D.l2z ho
theorem ZdA {a b : Value} {Q : PySem.Fin → Shared → Prop} (hh : A.handled = none) (U1 : Src prog w i1 l1 n f S1) (D : ZipApart z TI TO i1 i2 l1 l2) (hz : IsZip s.heap z TI TO .none) (hI : IsPair s.heap TI (.ref i1) (.ref i2)) (hO : IsPair s.heap TO a b) (h1 : S1 n s.heap)
  (q : ∀ h' e, (∀ c o, c ≠ z → c ≠ TO → c ≠ i1 → c ≠ i2 → s.heap.get? c = some o → h'.get? c = some o) → (∃ o, h'.get? e = some o ∧ o.cls = .type "StopIteration") → E (.ref e) { s with heap := h' }) :
  wpAny (model prog w) A (Builtin.«zip.__next__» ⟨[.ref z], []⟩) Q E s := by
 refine (show wpAny _ _ (field (.ref z) 2 >>= _) _ _ _ from wpAny_bind (wpAny_field hz rfl (x := .bool false) rfl ?_))
 refine (show wpAny _ _ (field (.ref z) 3 >>= _) _ _ _ from wpAny_bind (wpAny_field hz rfl (x := .ref TI) rfl (wpAny_bind (wpAny_seqItems hI rfl ?_))))
 refine (show wpAny _ _ (Builtin.SmallTypes.ownedTupleIsFree (.ref z) >>= _) _ _ _ from wpAny_bind ?_)
 unfold Builtin.SmallTypes.ownedTupleIsFree
 refine wpAny_bind (wpAny_field hz rfl (x := .none) rfl (wpAny_pure ?_))
 simp only [if_true]
 refine wpAny_bind (wpAny_rule (wpAny_bind (wpAny_field hz rfl (x := .ref TO) rfl (wpAny_bind (wpAny_setField_rec hz (by simp) fun m1 zz1 e1 => ?_)))))
 replace zz1 : IsZip m1 z TI TO .ellipsis := zz1
 have b1 := e1.extBut
 refine wpAny_bind ?_
 simp only [List.zipIdx_cons, List.zipIdx_nil, List.forIn_cons, List.forIn_nil]
 refine wpAny_bind (wpAny_bind (wpAny_onRaise ?_))
 have st1 : S1 n m1 := U1.stay _ _ _ h1 fun c hc o ho => by rcases hc with rfl | rfl <;> first | exact b1 _ _ D.i1z ho | exact b1 _ _ D.l1z ho
 refine (show wpAny _ _ (Builtin.SmallTypes.nextOf (.ref i1) >>= _) _ _ _ from wpAny_bind (U1.stop _ _ _ _ hh st1 fun m2 e e2 he => ?_))
 obtain ⟨oe, ge, ce⟩ := he
 have z2 : IsZip m2 z TI TO .ellipsis := e2 _ _ D.i1z.symm zz1
 have nez : e ≠ z := fun y => by subst y; rw [z2] at ge; cases ge; simp at ce
 refine wpAny_setField_rec z2 (by simp) fun m3 _ e3 => q m3 e (fun c o c1 _ c3 _ x => e3.extBut _ _ c1 (e2 _ _ c3 (b1 _ _ c1 x))) ⟨oe, e3.extBut _ _ nez ge, ce⟩
end
end L2
set_option Elab.async false
set_option linter.all false
set_option maxRecDepth 100000
namespace L2
open PySem PySem.Spec PyProof.Rows
section
variable {prog : Program} {w : World} {A : Around} {z TI TO i1 i2 l1 l2 : Addr} {n : Nat} {f g : Nat → Value} {S1 S2 : Nat → Heap → Prop}
theorem Uj (hh : A.handled = none) (U1 : Src prog w i1 l1 n f S1) (U2 : Src prog w i2 l2 n g S2) (D : ZipApart z TI TO i1 i2 l1 l2) :
  WalksT prog w A z [z, TI, TO, i1, i2, l1, l2] [z, TO, i1, i2] n (fun k vals => vals = #[f k, g k])
   (fun k h => IsZip h z TI TO .none ∧ IsPair h TI (.ref i1) (.ref i2) ∧ (∃ a b, IsPair h TO a b) ∧ S1 k h ∧ S2 k h)
   (fun k T h => IsZip h z TI TO (rawInt T) ∧ IsPair h TI (.ref i1) (.ref i2) ∧ (∃ a b, IsPair h TO a b) ∧ S1 (k + 1) h ∧ S2 (k + 1) h ∧ T ∉ [z, TO, i1, i2]) where
 sub := fun c hc => by
  simp only [List.mem_cons, List.not_mem_nil, or_false] at hc ⊢
  rcases hc with rfl | rfl | rfl | rfl <;> simp
 frame := fun k h h' ⟨a1, a2, ⟨a, b, a3⟩, a4, a5⟩ kp => ⟨kp z (by simp) _ a1, kp TI (by simp) _ a2, ⟨a, b, kp TO (by simp) _ a3⟩, U1.stay _ _ _ a4 fun c hc o => kp c (by rcases hc with rfl | rfl <;> simp) o, U2.stay _ _ _ a5 fun c hc o => kp c (by rcases hc with rfl | rfl <;> simp) o⟩
 item := fun k s Q E hk ⟨a1, a2, ⟨a, b, a3⟩, a4, a5⟩ q => by
  have ty : s.TypeIs (.ref z) "zip" := ⟨_, a1, rfl⟩
  have ne : ∀ {c o}, s.heap.get? c = some o → s.heap.objs.size ≠ c := fun e => Nat.ne_of_gt (Heap.lt_size e)
  obtain ⟨o1, g1⟩ := U1.here _ _ a4
  obtain ⟨o2, g2⟩ := U2.here _ _ a5
  unfold pyNext
  refine wpAny_bind (wpAny_attempt (wpAny_callSpecial?_slot (name := Str.ofString "__next__") ty F.slot_zip_next (wpAny_call_entry F.slot_zip_next ty F.entry_zip_next (ZcU U1 U2 D hk a1 a2 a3 a4 a5 fun h' c1 c2 c3 c4 c5 c6 c7 => wpAny_pure ?_) (F.args_zip_next_1 _))))
  refine q s.heap.objs.size #[f k, g k] h' s.toks rfl (Nat.le_refl _) ⟨_, c5, rfl, _, rfl⟩ ⟨c1, c7 _ _ D.TIz D.TITO D.TIi1 D.TIi2 a2, ⟨_, _, c2⟩, c3, c4, fun m => ?_⟩ fun c o hc e => c7 c o (fun x => hc (by simp [x])) (fun x => hc (by simp [x])) (fun x => hc (by simp [x])) (fun x => hc (by simp [x])) e
  simp only [List.mem_cons, List.not_mem_nil, or_false] at m
  rcases m with m | m | m | m
  ·exact ne a1 m
  ·exact ne a3 m
  ·exact ne g1 m
  ·exact ne g2 m
 go := fun elts kk pos k T s Q E ⟨a1, a2, ⟨a, b, a3⟩, a4, a5, _⟩ q => wpAny_letOwnedTupleGo_zip a1 fun h' z' s' => by
  have ex := s'.extBut
  refine q h' ⟨z', ex _ _ D.TIz a2, ⟨a, b, ex _ _ D.TOz a3⟩, U1.stay _ _ _ a4 fun c hc o ho => ?_, U2.stay _ _ _ a5 fun c hc o ho => ?_⟩ fun c o hc e => ex _ _ (fun x => hc (by simp [x])) e
  ·rcases hc with rfl | rfl <;> first | exact ex _ _ D.i1z ho | exact ex _ _ D.l1z ho
  ·rcases hc with rfl | rfl <;> first | exact ex _ _ D.i2z ho | exact ex _ _ D.l2z ho
 apart := fun k T h ⟨_, _, _, _, _, t⟩ => t
 done := fun s Q E ⟨a1, a2, ⟨a, b, a3⟩, a4, a5⟩ q => by
  have ty : s.TypeIs (.ref z) "zip" := ⟨_, a1, rfl⟩
  unfold pyNext
  refine wpAny_bind (wpAny_attempt (wpAny_callSpecial?_slot (name := Str.ofString "__next__") ty F.slot_zip_next (wpAny_call_entry F.slot_zip_next ty F.entry_zip_next (ZdA hh U1 D a1 a2 a3 a4 fun h' e kp he => ?_) (F.args_zip_next_1 _))))
  obtain ⟨o, ho, hc⟩ := he
  refine wpAny_bind (wpAny_isInstance (T := "StopIteration") (b := true) ⟨o, ho, hc⟩ isSubtype_stop (wpAny_pure (q _ s.toks fun c o hc e => ?_)))
  exact kp c o (fun x => hc (by simp [x])) (fun x => hc (by simp [x])) (fun x => hc (by simp [x])) (fun x => hc (by simp [x])) e
 self := fun k s Q E st q => wpAny_pyIter_zip st.1 q
end
abbrev zt1 (h : Heap) (l1 : Addr) : Heap := h.push { cls := .type "tuple_iterator", data := .fields #[.ref l1, .int 0 0] }
abbrev zt2 (h : Heap) (l1 l2 : Addr) : Heap := (zt1 h l1).push { cls := .type "tuple_iterator", data := .fields #[.ref l2, .int 0 0] }
abbrev zt3 (h : Heap) (l1 l2 : Addr) : Heap := (zt2 h l1 l2).push { cls := .type "tuple", data := .seq #[.ref h.objs.size, .ref (zt1 h l1).objs.size] }
abbrev zt4 (h : Heap) (l1 l2 : Addr) : Heap := (zt3 h l1 l2).push { cls := .type "tuple", data := .seq #[.none, .none] }
abbrev zt5 (h : Heap) (l1 l2 : Addr) : Heap := (zt4 h l1 l2).push { cls := .type "zip", data := .fields #[.none, .bool false, .bool false, .ref (zt2 h l1 l2).objs.size, .ref (zt3 h l1 l2).objs.size] }
theorem Zan {h : Heap} {l : Addr} {xs : Array Value} (t : IsTup h l xs) (o : Obj) : IsTup (h.push o) l xs := let ⟨u, hu, r⟩ := t; ⟨u, Heap.get?_push_of_some _ hu, r⟩
theorem Zdz (l1 l2 : Addr) (xs ys : Array Value) : Meets (Builtin.«zip.__new__» ⟨[.type "zip", .ref l1, .ref l2], []⟩) (fun _ R s => IsTup s.heap l1 xs ∧ IsTup s.heap l2 ys ∧ R (.ok (.ret (.ref (zt4 s.heap l1 l2).objs.size))) { s with heap := zt5 s.heap l1 l2 }) :=
 .of_wp fun prog w A R s h => by
  obtain ⟨hp, gg, d, tk, os⟩ := s
  obtain ⟨t1, t2, h⟩ := h
  have hsub := sub_zip
  have T1 : IsTup (Shared.heap ⟨hp, gg, d, tk, os⟩) l1 xs := t1
  have T2 : IsTup (Shared.heap ⟨hp.push { cls := .type "tuple_iterator", data := .fields #[.ref l1, .int 0 0] }, gg, d, tk, os⟩) l2 ys := Zan t2 _
  wp_walk using iter_tuple T1, iter_tuple T2
  exact ⟨_, rfl, h⟩
theorem Zdq {prog : Program} {w : World} {A : Around} {E : Value → Shared → Prop} {s : Shared} {l1 l2 : Addr} {xs ys : Array Value} {Q : Value → Shared → Prop} (t1 : IsTup s.heap l1 xs) (t2 : IsTup s.heap l2 ys)
    (q : ∀ h', IsZip h' (s.heap.objs.size + 4) (s.heap.objs.size + 2) (s.heap.objs.size + 3) .none → IsPair h' (s.heap.objs.size + 2) (.ref s.heap.objs.size) (.ref (s.heap.objs.size + 1)) → IsPair h' (s.heap.objs.size + 3) .none .none →
      IsTupIter h' s.heap.objs.size l1 0 → IsTupIter h' (s.heap.objs.size + 1) l2 0 → (∀ c o, s.heap.get? c = some o → h'.get? c = some o) → Q (.ref (s.heap.objs.size + 4)) { s with heap := h' }) :
    wpAny (model prog w) A (call (.type "zip") [.ref l1, .ref l2]) Q E s := by
  refine callType_new F.called_zip (by decide) (F.typeCall_zip_2 _ _) (F.newCall_zip_2 _ _) (fun obj => F.args_object_init_3 obj _ _) F.entry_zip_new (Zdz l1 l2 xs ys) ⟨t1, t2, ?_⟩
  have y1 : (zt1 s.heap l1).objs.size = s.heap.objs.size + 1 := Heap.size_push ..
  have y2 : (zt2 s.heap l1 l2).objs.size = s.heap.objs.size + 2 := by rw [Heap.size_push, y1]
  have y3 : (zt3 s.heap l1 l2).objs.size = s.heap.objs.size + 3 := by rw [Heap.size_push, y2]
  have y4 : (zt4 s.heap l1 l2).objs.size = s.heap.objs.size + 4 := by rw [Heap.size_push, y3]
  have p : ∀ {h : Heap} {c : Addr} {o u : Obj}, h.get? c = some o → (h.push u).get? c = some o := fun e => Heap.get?_push_of_some _ e
  have x5 : (zt5 s.heap l1 l2).get? (zt4 s.heap l1 l2).objs.size = some _ := Heap.get?_push_size _ rfl
  have x4 : (zt5 s.heap l1 l2).get? (zt3 s.heap l1 l2).objs.size = some _ := p (Heap.get?_push_size _ rfl)
  have x3 : (zt5 s.heap l1 l2).get? (zt2 s.heap l1 l2).objs.size = some _ := p (p (Heap.get?_push_size _ rfl))
  have x2 : (zt5 s.heap l1 l2).get? (zt1 s.heap l1).objs.size = some _ := p (p (p (Heap.get?_push_size _ rfl)))
  have x1 : (zt5 s.heap l1 l2).get? s.heap.objs.size = some _ := p (p (p (p (Heap.get?_push_size _ rfl))))
  show _ ∧ _
  rw [y2, y3, y4] at x5
  rw [y1, y2] at x3
  rw [y3] at x4
  rw [y1] at x2
  rw [y4]
  exact ⟨⟨_, x5, rfl⟩, q _ x5 x3 x4 ⟨_, x1, rfl, rfl⟩ ⟨_, x2, rfl, rfl⟩ fun c o x => p (p (p (p (p x))))⟩
end L2
set_option Elab.async false
set_option linter.all false
set_option maxRecDepth 100000
namespace L2
open PySem PySem.Spec PyProof.Rows
def ItzT (K : PySem.W.Frag) (l1 l2 : Addr) : It :=
 ⟨fun i H => ∃ xs ys x y, SqT K H l1 xs ∧ SqT K H l2 ys ∧ xs.length = ys.length ∧ xs[i]? = some x ∧ ys[i]? = some y,
  fun i H v H' => ∃ (T : Addr) (x y : V), v = .ref T ∧ H T = none ∧ H' = upd H T (.par [x, y]) ∧ ∀ xs ys, SqT K H l1 xs → SqT K H l2 ys → xs[i]? = some x ∧ ys[i]? = some y,
  fun i H => ∃ xs ys, SqT K H l1 xs ∧ SqT K H l2 ys ∧ xs.length = i ∧ ys.length = i⟩
theorem Zbb {P : Program} {w : World} {K : PySem.W.Frag} {elts : List Expr} {kk : Nat} {pos : Pos} (z TI TO i1 i2 l1 l2 : Addr) (D : ZipApart z TI TO i1 i2 l1 l2) :
  Turn P w K (.Tuple elts kk pos) (ItzT K l1 l2) [z, TI, TO, i1, i2] z (fun i h => IsZip h z TI TO .none ∧ IsPair h TI (.ref i1) (.ref i2) ∧ (∃ a b, IsPair h TO a b) ∧ IsTupIter h i1 l1 i ∧ IsTupIter h i2 l2 i) where
 mem := by simp
 obj := fun i h st b hb => by
  obtain ⟨a1, a2, ⟨u, v, a3⟩, ⟨o4, h4, _, d4⟩, ⟨o5, h5, _, d5⟩⟩ := st
  simp only [List.mem_cons, List.not_mem_nil, or_false] at hb
  rcases hb with rfl | rfl | rfl | rfl | rfl
  ·exact ⟨_, a1, fun v z => by cases z⟩
  ·exact ⟨_, a2, fun v z => by cases z⟩
  ·exact ⟨_, a3, fun v z => by cases z⟩
  ·exact ⟨_, h4, fun v z => by rw [d4] at z; cases z⟩
  ·exact ⟨_, h5, fun v z => by rw [d5] at z; cases z⟩
 keep := fun i h h' st k => by
  obtain ⟨a1, a2, ⟨u, v, a3⟩, a4, a5⟩ := st
  exact ⟨k z (by simp) _ a1, k TI (by simp) _ a2, ⟨u, v, k TO (by simp) _ a3⟩, (let ⟨o, ho, r⟩ := a4; ⟨o, k i1 (by simp) o ho, r⟩), let ⟨o, ho, r⟩ := a5; ⟨o, k i2 (by simp) o ho, r⟩⟩
 item := by
  intro X hP hw hK hc i pins s σ H E I hf st hg
  subst hP hw hK
  obtain ⟨xs, ys, x, y, hq1, hq2, hln, hx, hy⟩ := hg
  obtain ⟨is1, rv1, pl1, hz1⟩ := I.tuple hq1
  obtain ⟨is2, rv2, pl2, hz2⟩ := I.tuple hq2
  obtain ⟨u, hu, ru⟩ := rv1.get hx
  obtain ⟨v, hv, rv⟩ := rv2.get hy
  have hs12 : is2.toArray.size = is1.toArray.size := by
   have e1 := rv1.length
   have e2 := rv2.length
   simp only [List.size_toArray]
   omega
  have hil : i < is1.toArray.size := by
   have e1 := (List.getElem?_eq_some_iff.mp hu).1
   simp only [List.size_toArray]
   omega
  have U2 := YN X.prog X.w is2.toArray D.l2i2
  rw [hs12] at U2
  have W := Uj (A := X.A) (I.ok.hd hc) (YN X.prog X.w is1.toArray D.l1i1) U2 D
  obtain ⟨a1, a2, a3, a4, a5⟩ := st
  refine W.item i s _ _ hil ⟨a1, a2, a3, ⟨a4, pl1⟩, ⟨a5, pl2⟩⟩ fun T vals h' tk hP hTs hTup hmid hk => ⟨_, rfl, W.go elts kk pos i T _ _ _ hmid fun h'' st'' hk'' => ?_⟩
  have hx2 : is1.toArray.getD i .none = u := by simp [List.getD_eq_getElem?_getD, hu]
  have hy2 : is2.toArray.getD i .none = v := by simp [List.getD_eq_getElem?_getD, hv]
  rw [hx2, hy2] at hP
  subst hP
  have hTn : H T = none := I.hok.fresh hTs
  have both : ∀ b o, b ∉ [z, TO, i1, i2] → s.heap.get? b = some o → h''.get? b = some o := fun b o hb q => hk'' b o hb (hk b o hb q)
  have sub : ∀ b, b ∉ [z, TI, TO, i1, i2] → b ∉ [z, TO, i1, i2] := fun b hb hm => hb (by
   simp only [List.mem_cons, List.not_mem_nil, or_false] at hm ⊢
   rcases hm with h | h | h | h
   ·exact .inl h
   ·exact .inr (.inr (.inl h))
   ·exact .inr (.inr (.inr (.inl h)))
   ·exact .inr (.inr (.inr (.inr h))))
  have hTw : T ∉ [z, TO, i1, i2] := W.apart _ _ _ hmid
  have hTT : h''.IsTuple T #[u, v] := hTup.at fun o q => hk'' T o hTw q
  have neT : ∀ b o, s.heap.get? b = some o → b ≠ T := fun b o q => Nat.ne_of_lt (Nat.lt_of_lt_of_le (Heap.lt_size q) hTs)
  have neT' : ∀ b o, H b = some o → b ≠ T := fun b o q => Zk q hTn
  have trk : ∀ b o, H b = some o → b ∉ [z, TI, TO, i1, i2] := fun b o q hm => by
   have := (hf b hm).1
   rw [this] at q; cases q
  refine ⟨.ref T, upd H T (.par [x, y]), ?_, rfl, ⟨T, x, y, rfl, hTn, rfl, fun as bs ha hb => by rw [I.tuple_inj ha hq1, I.tuple_inj hb hq2]; exact ⟨hx, hy⟩⟩, ⟨st''.1, st''.2.1, st''.2.2.1, st''.2.2.2.1.1, st''.2.2.2.2.1⟩, fun b hb => ?_⟩
  ·refine (show Inv X pins σ (upd H T (.par [x, y])) { s with heap := h'', toks := tk } from ?_)
   refine I.call (g' := s.gens) (d' := s.drawn) (t' := tk) (h' := h'') (ch := [z, TI, TO, i1, i2]) ⟨fun b o q _ _ hx => both b o (sub b hx) q, fun b o q _ _ hx => ⟨o.slots, both b o (sub b hx) q⟩, fun b o q n hx => by rw [Zh (neT b o q)]; exact n, fun b o q hx => ⟨o, both b o (sub b hx) q⟩,
    fun b ys q => by rw [Zh (neT' b _ q)]; exact q, fun b o u q => by rw [Zh (neT' b _ q)]; exact q, fun b ps q => ⟨#[], by rw [Zh (neT' b _ q), q]; simp⟩⟩ (fun b o q => ?_) I.bare fun b hb => ?_
   ·by_cases hb : b = T
    ·subst hb
     rw [Zc] at q
     cases q
     exact ⟨by show 2 ≤ sizeLine; decide, [u, v], .cons ru (.cons rv .nil), hTT⟩
    ·rw [Zh hb] at q
     refine (I.hok b o q).stay (fun c ob hc' q' => both c ob ?_ q') (fun c q' => by rw [Zh (neT' c _ q')]; exact q') fun c ys q' => by rw [Zh (neT' c _ q')]; exact q'
     rcases hc' with z' | z'
     ·rw [z']; exact sub _ (trk b o q)
     ·exact sub _ (trk c _ z')
   ·obtain ⟨f0, f1, f2, f3, f4, f5⟩ := hf b hb
    exact ⟨f3, f1, f4, f5⟩
  ·have hne : b ≠ T := by
    obtain ⟨f0, _⟩ := hf b hb
    have : ∃ o, s.heap.get? b = some o := by
     obtain ⟨u', v', a3'⟩ := a3
     obtain ⟨o4, h4, _⟩ := a4
     obtain ⟨o5, h5, _⟩ := a5
     simp only [List.mem_cons, List.not_mem_nil, or_false] at hb
     rcases hb with rfl | rfl | rfl | rfl | rfl
     ·exact ⟨_, a1⟩
     ·exact ⟨_, a2⟩
     ·exact ⟨_, a3'⟩
     ·exact ⟨_, h4⟩
     ·exact ⟨_, h5⟩
    obtain ⟨o, ho⟩ := this
    exact neT b o ho
   rw [Zh hne]
   exact (hf b hb).1
 done := by
  intro X hP hw hK hc i pins s σ H E I hf st hg
  subst hP hw hK
  obtain ⟨xs, ys, hq1, hq2, hx, hy⟩ := hg
  obtain ⟨is1, rv1, pl1, hz1⟩ := I.tuple hq1
  obtain ⟨is2, rv2, pl2, hz2⟩ := I.tuple hq2
  have e1 := rv1.length
  have e2 := rv2.length
  have hs12 : is2.toArray.size = is1.toArray.size := by simp only [List.size_toArray]; omega
  have U2 := YN X.prog X.w is2.toArray D.l2i2
  rw [hs12] at U2
  have W := Uj (A := X.A) (I.ok.hd hc) (YN X.prog X.w is1.toArray D.l1i1) U2 D
  have hn : i = is1.toArray.size := by simp only [List.size_toArray]; omega
  obtain ⟨a1, a2, a3, a4, a5⟩ := st
  rw [hn] at a4 a5
  have sub : ∀ b, b ∉ [z, TI, TO, i1, i2] → b ∉ [z, TO, i1, i2] := fun b hb hm => hb (by
   simp only [List.mem_cons, List.not_mem_nil, or_false] at hm ⊢
   rcases hm with h | h | h | h
   ·exact .inl h
   ·exact .inr (.inr (.inl h))
   ·exact .inr (.inr (.inr (.inl h)))
   ·exact .inr (.inr (.inr (.inr h))))
  refine W.done s _ _ ⟨a1, a2, a3, ⟨a4, pl1⟩, ⟨a5, pl2⟩⟩ fun h' tk hk => ⟨rfl, ?_⟩
  have trk : ∀ b o, H b = some o → b ∉ [z, TI, TO, i1, i2] := fun b o q hm => by
   have := (hf b hm).1
   rw [this] at q; cases q
  refine I.call (g' := s.gens) (d' := s.drawn) (t' := tk) (h' := h') (ch := [z, TI, TO, i1, i2]) ⟨fun b o q _ _ hx => hk b o (sub b hx) q, fun b o q _ _ hx => ⟨o.slots, hk b o (sub b hx) q⟩, fun b o q n hx => n, fun b o q hx => ⟨o, hk b o (sub b hx) q⟩, fun b ys q => q, fun b o u q => q, fun b ps q => ⟨#[], by rw [q]; simp⟩⟩ (fun b o q => ?_) I.bare fun b hb => ?_
  ·refine (I.hok b o q).stay (fun c ob hc' q' => hk c ob ?_ q') (fun _ q' => q') fun _ _ q' => q'
   rcases hc' with z' | z'
   ·rw [z']; exact sub _ (trk b o q)
   ·exact sub _ (trk c _ z')
  ·obtain ⟨f0, f1, f2, f3, f4, f5⟩ := hf b hb
   exact ⟨f3, f1, f4, f5⟩
 self := fun A i s Q E st h => wpAny_pyIter_zip st.1 h
section
variable {X : Cx} {elts : List Expr} {kk : Nat} {tp : Pos}
def iZipT (K : PySem.W.Frag) (ta : TA) : TI := fun σ H R => ta σ H fun vs H1 => ∃ l1 l2, vs = [.ref l1, .ref l2] ∧ (∃ xs ys, SqT K H1 l1 xs ∧ SqT K H1 l2 ys) ∧ R (ItzT K l1 l2) H1
theorem Zc4 {a b : Expr} {ta : TA} {p pos : Pos} (hg : Gl X "zip") (hm : X.mg "zip" = none) (ha : PA X [a, b] ta) (hs : starEach [a, b] X.env = [(false, eval a X.env), (false, eval b X.env)] := by rfl) (hs2 : starEach [b] X.env = [(false, eval b X.env)] := by rfl) :
  PI X (.Tuple elts kk tp) (.Call (.Name "zip" p) [a, b] [] pos) (iZipT X.K ta) := by
 intro pins s σ H R I h
 refine Call_ (Yl I hg hm PyProof.Rows.Boot.«zip» (PyProof.Rows.callWith_type1 (thn (ha pos pins s σ H _ I h) fun us s1 ⟨vs, H1, I1, r1, q1⟩ => ?_) (by rw [hs, hs2]) (by rw [hs2]; rfl)))
 obtain ⟨l1, l2, e, ⟨xs, ys, hq1, hq2⟩, q⟩ := q1
 subst e
 obtain ⟨u, v, rfl, ru, rv⟩ := vals2 r1
 cases ru
 cases rv
 obtain ⟨is1, rv1, pl1, hz1⟩ := I1.tuple hq1
 obtain ⟨is2, rv2, pl2, hz2⟩ := I1.tuple hq2
 have t1 : l1 < s1.heap.objs.size := by obtain ⟨o, ho, _⟩ := id pl1; exact Heap.lt_size ho
 have t2 : l2 < s1.heap.objs.size := by obtain ⟨o, ho, _⟩ := id pl2; exact Heap.lt_size ho
 have D := Wu s1.heap.objs.size l1 l2 t1 t2
 refine Zdq pl1 pl2 fun h' b1 b2 b3 b4 b5 hk => wpAny_pyIter_zip b1 ?_
 have I2 : Inv X pins σ H1 { s1 with heap := h' } := I1.kept (t' := s1.toks) hk
 refine ⟨s1.heap.objs.size + 4, [s1.heap.objs.size + 4, s1.heap.objs.size + 2, s1.heap.objs.size + 3, s1.heap.objs.size, s1.heap.objs.size + 1], _, _, H1, rfl, I2,
  Zbb _ _ _ _ _ l1 l2 D, ⟨b1, b2, ⟨_, _, b3⟩, b4, b5⟩, fun b hb => ?_, q⟩
 have hbs : s1.heap.objs.size ≤ b := by
  simp only [List.mem_cons, List.not_mem_nil, or_false] at hb
  rcases hb with z | z | z | z | z <;> rw [z] <;> first | exact Nat.le_refl _ | exact Nat.le_add_right _ _
 exact I1.fpOk hbs (I1.hok.fresh hbs)
end
theorem Zbx {K : PySem.W.Frag} {l1 l2 : Addr} {xs zs : List V} {g : TG} {tt : TT} {ti : TC} {ys : List V} {σ : St} {H : Hp} {Q : List V → St → Hp → Prop} (hlen : xs.length = zs.length) (Pv : Nat → List V → St → Hp → Prop) (h0 : Pv 0 ys σ H)
  (hl : ∀ i ys σ H, i ≤ xs.length → Pv i ys σ H → SqT K H l1 xs ∧ SqT K H l2 zs)
  (hs : ∀ i x y T ys σ H, xs[i]? = some x → zs[i]? = some y → H T = none → Pv i ys σ H → g (.ref T) σ (upd H T (.par [x, y])) fun σ2 H2 => tt σ2 H2 fun b H3 => if b = true then ti ys σ2 H3 (Pv (i + 1)) else Pv (i + 1) ys σ2 H3)
  (hd : ∀ ys σ H, Pv xs.length ys σ H → Q ys σ H) : tNestW g tt ti (ItzT K l1 l2) ys σ H Q := by
 refine ⟨fun i m ys σ H => m = xs.length - i ∧ i ≤ xs.length ∧ Pv i ys σ H, ⟨xs.length, by simp, Nat.zero_le _, h0⟩, ?_⟩
 rintro i m ys σ H ⟨rfl, hi, p⟩
 obtain ⟨q1, q2⟩ := hl i ys σ H hi p
 by_cases hlt : i < xs.length
 ·refine .inr ⟨⟨xs, zs, xs[i], zs[i]'(by omega), q1, q2, hlen, by simp [hlt], by simp [hlen ▸ hlt]⟩, Pv (i + 1), fun ys' σ' H' p' => ⟨xs.length - (i + 1), by omega, rfl, hlt, p'⟩, fun x H' y => ?_⟩
  obtain ⟨T, a, b, e1, e2, e3, e4⟩ := y
  subst e1 e3
  obtain ⟨f1, f2⟩ := e4 xs zs q1 q2
  exact hs i a b T ys σ H f1 f2 e2 p
 ·have e : i = xs.length := by omega
  subst e
  exact .inl ⟨⟨xs, zs, q1, q2, rfl, hlen.symm⟩, hd ys σ H p⟩
end L2
set_option Elab.async false
set_option linter.all false
set_option maxRecDepth 100000
namespace L2
open PySem PySem.Spec PyProof.Rows SeqAt
section
variable {X : Cx}
theorem Y0 {a b : String} : CallR X (.builtin "isinstance") (fun xs H Q => ∃ (x : V) (t : Addr) (T : Value) (r : Bool), xs = [x, .ref t] ∧ SqT X.K H t [.ty a, .ty b] ∧ ((∃ i, x = .int i ∧ T = .type "int") ∨ (x = .non ∧ T = .type "NoneType") ∨ (∃ l ys, x = .ref l ∧ H l = some (.lst ys) ∧ T = .type "list") ∨ ∃ l ys, x = .ref l ∧ H l = some (.tup ys) ∧ T = .type "tuple") ∧
  PySem.W.kitAny X.K T [.type a, .type b] = some r ∧ Q (.bl r) H) := by
 intro pins s σ H xs us Q I rv h
 obtain ⟨x, t, T, r, rfl, hq, hx, hk, q⟩ := h
 obtain ⟨u, v, rfl, ru, rv⟩ := vals2 rv
 cases rv
 obtain ⟨its, rt, pl, hz⟩ := I.tuple hq
 cases rt with
 | cons r1 r2 =>
  cases r2 with
  | cons r3 r4 =>
   cases r4
   cases r1
   cases r3
   obtain ⟨o, ho, hc, n, hd⟩ := id pl
   obtain ⟨cls, dd, dt, sl⟩ := o
   replace hc : cls = .type "tuple" := hc
   replace hd : dt = .seq [Value.type a, Value.type b].toArray n := hd
   subst hc hd
   rcases hx with ⟨i, rfl, rfl⟩ | ⟨rfl, rfl⟩ | ⟨l, ys, rfl, hl, rfl⟩ | ⟨l, ys, rfl, hl, rfl⟩
   ·obtain ⟨tk, rfl⟩ := ru
    exact PySem.W.kia_tup PySem.W.kitx_int I.kIn True.intro ho hk (fun z => nomatch z) fun tk => ⟨.bl r, H, I.tok _, rfl, q⟩
   ·cases ru
    exact PySem.W.kia_tup PySem.W.kitx_none I.kIn True.intro ho hk (fun z => nomatch z) fun tk => ⟨.bl r, H, I.tok _, rfl, q⟩
   ·cases ru
    obtain ⟨_, _, n, _, h1⟩ := (show ObjOk X.prog X.w H s.heap l (.lst ys) from I.hok l _ hl)
    exact PySem.W.kia_tup PySem.W.kitx_list I.kIn ⟨_, h1, rfl⟩ ho hk (fun z => nomatch z) fun tk => ⟨.bl r, H, I.tok _, rfl, q⟩
   ·cases ru
    obtain ⟨_, _, _, p, _⟩ := (show ObjOk X.prog X.w H s.heap l (.tup ys) from I.hok l _ hl)
    obtain ⟨o, h1, h2, _⟩ := p
    exact PySem.W.kia_tup PySem.W.kitx_tuple I.kIn ⟨o, h1, h2⟩ ho hk (fun z => nomatch z) fun tk => ⟨.bl r, H, I.tok _, rfl, q⟩
end
structure Cells (base : Heap) (scope : Scope) (cl : List (Str × Addr)) (N : List Str) (vs : List V) : Prop where
 len : vs.length = N.length
 only : ∀ z, scope.names.lookup z = some .cell ∨ scope.names.lookup z = some .free → z ∈ N
 at_ : ∀ (i : Nat) x v, N[i]? = some x → vs[i]? = some v → scope.names.lookup x = some .free ∧ ∃ c u, cl.lookup x = some c ∧ base.IsCell c (some u) ∧ RelV v u
 mem : ∀ z c, cl.lookup z = some c → z ∈ N
 inj : ∀ x y c, cl.lookup x = some c → cl.lookup y = some c → x = y
theorem ZaS {P : Program} {w : World} {K : PySem.W.Frag} {mg : Str → Option Value} {base : Heap} {f : Addr} {q : Str} {params : Arguments} {body : Expr} {scope : Scope} {cl : List (Str × Addr)} {pm : Value} {c : Addr} {ct : Value} {k : Nat} {N : List Str} {ws : List V} {sp : Sp}
    (T : Cells base scope cl N ws) (hk : scope.kind = .function) (hco : scope.isCoroutine = false) (hgen : scope.isGenerator = false) (hcell : ∀ z ∈ scope.names, z.2 ≠ .cell)
    (hsp : ∀ vs H Q E, sp vs H Q E → vs = [] ∧ H f = some (lamO f q params body scope cl pm c ct) ∧ H c = some (codeO c q))
    (hb : ∀ (A : Around) (outer : List Env) (s : Shared) (H : Hp) (Q : VK) (E : XK), Room k (A.deeper (PySem.W.envX q scope s.heap.objs.size f (.ref c) cl)) → sp [] H Q E →
      ∃ t, PE (cxL P w K mg base N q scope f (.ref c) cl A outer s H E) body t ∧ t (ws.map some) H Q) :
    FnOk P w K mg base (CXR P w) (k + 1) f (PySem.W.kla_fn "<lambda>" q params body scope cl pm (.ref c) ct) [] sp := by
  refine ⟨fun vs H Q E h => by rw [(hsp vs H Q E h).1]; rfl, fun A outer s H args us vs Q E hr e0 hbd rv h => ?_⟩
  obtain ⟨rfl, hf, hc⟩ := hsp _ _ _ _ h
  have of : s.heap.get? f = some (PySem.W.kla_obj "<lambda>" q params body scope cl pm c ct) := (e0.hok f _ hf).1
  have oc : s.heap.CodeRec (.ref c) q := (e0.hok c _ hc).1
  have lim : s.heap.NoLimit := e0.mod.nolimit.keeps fun b o e => (e0.bs b o e).1
  refine PySem.W.kla_callFunE hr.depth of rfl hco hgen rfl oc (hbd _ _ _ _ ?_)
  refine wpAny_newFunctionEnv hcell (fun z hz => by cases rv; exact absurd hz (by simp)) (fun h1 hns hsb => ?_) hk
  have k1 : ∀ b o, s.heap.get? b = some o → h1.get? b = some o := fun b o e => hsb.extBut b o (Nat.ne_of_lt (Heap.lt_size e)) (Heap.get?_push_of_some _ e)
  refine ⟨lim.keeps k1, ?_⟩
  show codeAny _ A (.expr body (PySem.W.envX q scope s.heap.objs.size f (.ref c) cl)) _ _
  obtain ⟨t, ht, hq⟩ := hb A outer s H Q E (hr.deeper _) h
  have cellB : ∀ {a : Addr} {v : Option Value}, base.IsCell a v → h1.IsCell a v ∧ H a = none := fun {a v} ⟨o, ho, hd⟩ => ⟨⟨o, k1 _ _ (e0.bs _ _ ho).1, hd⟩, (e0.bs _ _ ho).2⟩
  have atN : ∀ z, z ∈ N → ∃ c u, cl.lookup z = some c ∧ base.IsCell c (some u) := fun z hz => by
    obtain ⟨i, hi, e⟩ := List.getElem_of_mem hz
    have hi' : i < ws.length := by rw [T.len]; exact hi
    obtain ⟨_, c, u, h1, h2, _⟩ := T.at_ i z ws[i] (by rw [← e]; exact List.getElem?_eq_getElem hi) (List.getElem?_eq_getElem hi')
    exact ⟨c, u, h1, h2⟩
  have cells : ∀ z a, cl.lookup z = some a → ∃ v, base.IsCell a v := fun z a hz => by
    obtain ⟨c, u, h1, h2⟩ := atN z (T.mem z a hz)
    rw [hz] at h1; cases h1; exact ⟨_, h2⟩
  have I : Inv (cxL P w K mg base N q scope f (.ref c) cl A outer s H E) [] (ws.map some) H { s with heap := h1, toks := s.toks + (([] : List Str).zip us).length } := by
    refine ⟨⟨e0.mod, hk, rfl, rfl, Nat.le_refl _, fun a b cc h2 h3 => ?_, fun a ha => ?_, fun a cc hn => Bool.noConfusion hn, fun _ => hr.hd, Around.frames_deeper e0.frames, .inr ⟨rfl, rfl⟩, fun b z => absurd (show b ∈ ([] : List Addr) from z) (by simp), e0.bs, e0.bsz, fun b _ _ z => absurd (show b ∈ ([] : List Addr) from z) (by simp), fun b z => absurd (show b ∈ ([] : List Addr) from z) (by simp), e0.funs, e0.frf⟩,
      rfl, e0.bare, Un.kept k1, ⟨_, hns, fun i z v h2 h3 h4 => ?_⟩, fun z a hz => ?_, e0.hok.fresh (Nat.le_refl _), fun z a hz => ?_, fun p hp => absurd (show p ∈ ([] : List (Addr × Obj)) from hp) (by simp), e0.hok.kept k1, (by rw [List.length_map]; exact T.len)⟩
    · have h2 : cl.lookup a = some cc := h2
      have h3 : cl.lookup b = some cc := h3
      exact T.inj _ _ _ h2 h3
    · obtain ⟨c, _, h1, _⟩ := atN a (T.only a ha)
      exact ⟨c, h1⟩
    · have h3' : (ws.map some)[i]? = some (some v) := h3
      rw [List.getElem?_map] at h3'
      obtain ⟨v', e', e''⟩ := Option.map_eq_some_iff.mp h3'
      cases e''
      obtain ⟨kx, c, u, h5, h6, h7⟩ := T.at_ i z v h2 e'
      exact ⟨u, h7, .inr ⟨.inr kx, c, h5, (cellB h6).1⟩⟩
    · obtain ⟨v, b⟩ := cells z a hz
      exact ⟨v, (cellB b).1⟩
    · obtain ⟨v, b⟩ := cells z a hz
      exact (cellB b).2
  refine PySem.W.kla_codeExpr (wpAny_mono (ht [] _ _ H _ I hq) (fun u s' hs => ?_) fun e s' hs => hs)
  obtain ⟨v, H', J, r, z⟩ := hs
  exact ⟨v, H', J.os, J.bare, J.base, J.hok, r, z⟩
end L2
set_option Elab.async false
set_option linter.all false
set_option maxRecDepth 100000
namespace L2
open PySem PySem.Spec PyProof.Rows
section
variable {prog : Program} {w : World} {A : Around} {E : Value → Shared → Prop} {s : Shared}
theorem Je {t sl : Addr} {items : Array Value} {vl vu : Value} {lo hi : Option Int} {Q : Value → Shared → Prop} (ht : IsTup s.heap t items) (hs : s.heap.IsSliceOf sl vl vu .none) (pl : IsPart vl lo) (pu : IsPart vu hi)
  (hw : HT.sIx items.size 0 lo = 0 ∧ HT.sIx items.size items.size hi = items.size) (h : Q (.ref t) s) : wpAny (model prog w) A (getItem (.ref t) (.ref sl)) Q E s := by
 obtain ⟨os, hos, hcs, hds⟩ := id hs
 have tyS : s.TypeIs (.ref sl) "slice" := ⟨os, hos, hcs⟩
 unfold getItem
 try with_reducible refine wpAny_holding ?_
 first | refine wpAny_bind (wpAny_pure ?_) | skip
 refine wpAny_bind (wpAny_sequenceKey ht.typeIs (by decide) (wpAny_bind (wpAny_callSpecial?_slot (name := Str.ofString "__getitem__") ht.typeIs PyProof.Rows.slot_tuple_getitem (wpAny_call_entry PyProof.Rows.slot_tuple_getitem ht.typeIs entry_tuple_getitem ?_ (args_tuple_getitem _ _)))))
 refine (show wpAny _ _ (Builtin.Tuple.tupleItemsOf (.ref t) >>= _) _ _ s from wpAny_bind (tupleItemsOf_ ht (wpAny_bind (wpAny_typeOf tyS ?_))))
 rw [if_pos (by decide)]
 refine wpAny_bind (HT.sliceApplied_gen hs pl pu ?_)
 rw [hw.1, hw.2]
 refine (show wpAny _ _ (if ((((0 : Nat) : Int) == 0 && (1 : Int) == 1 && (items.size - 0) == items.size) = true) then _ else _) _ _ s from ?_)
 rw [if_pos (by simp)]
 unfold Builtin.Tuple.tupleIsExact
 refine wpAny_bind ?_
 wp_walk using wpAny_typeOf ht.typeIs
 exact ⟨_, rfl, wpAny_pure h⟩
end
section
variable {X : Cx}
def rSlA (K : PySem.W.Frag) : V → Option Int → Option Int → Hp → VK → Prop := fun x lo hi H Q => ∃ a xs, x = .ref a ∧ H a = some (.tup xs) ∧ ∀ (c : Addr) H', Same H H' → H' c = some (.tup (cutV xs lo hi)) → Q (.ref c) H'
theorem Yd : SlR X (rSlA X.K) := by
 intro pins s σ H x v vl vu lo hi sl Q I rx hs pl pu h
 obtain ⟨a, xs, rfl, ha, q⟩ := h
 have hx : SqT X.K H a xs := SqT.of ha
 by_cases hw : HT.sIx xs.length 0 lo = 0 ∧ HT.sIx xs.length xs.length hi = xs.length
 ·cases rx
  obtain ⟨its, r, ht, hz⟩ := I.tuple hx
  have hlen : its.toArray.size = xs.length := by rw [List.size_toArray]; exact r.length.symm
  refine ⟨"tuple", _, PyProof.Rows.slot_tuple_getitem.lookup, ht.typeIs, ?_⟩
  refine Je ht hs pl pu (by rw [hlen]; exact hw) ⟨.ref a, H, I, rfl, q a H (Same.refl _) ?_⟩
  rw [ha]
  unfold cutV
  rw [hw.1, hw.2, List.drop_zero, Nat.sub_zero, List.take_length]
 ·exact ZdE pins s σ H (.ref a) v vl vu lo hi sl Q I rx hs pl pu ⟨a, xs, rfl, hx, hw, fun p hp => q p _ (fun b u hb => by rw [Zh (Zk hb hp)]; exact hb) Zc⟩
end
end L2
set_option Elab.async false
set_option linter.all false
set_option maxRecDepth 100000
set_option maxHeartbeats 40000000
namespace L2
open PySem PySem.Spec PyProof.Rows
end L2
set_option Elab.async false
set_option linter.all false
set_option maxRecDepth 100000
set_option maxHeartbeats 40000000
namespace L2
open PySem PySem.Spec PyProof.Rows
end L2
set_option Elab.async false
set_option linter.all false
set_option maxRecDepth 100000
set_option maxHeartbeats 4000000
namespace PyProof.Rows.Tim
open PySem
def gallop' : Bool → Keyed → Array Keyed → Nat → Nat → Nat → StateT SortSt Sem (Option Nat) := sortPriv% PySem.Builtin.gallop
def beyond' (left : Bool) (key : Keyed) (arr : Array Keyed) (base : Nat) (i : Nat) : StateT SortSt Sem (Option Bool) :=
 elem' arr (base + i) >>= fun x => if left = true then lt' x key else lt' key x >>= fun c => pure (c.map fun z => !z)
structure Ord (r : Keyed → Keyed → Bool) : Prop where
 asy : ∀ x y, r x y = true → r y x = false
 ntr : ∀ x y z, r y x = false → r z y = false → r z x = false
theorem Ord.irr {r : Keyed → Keyed → Bool} (o : Ord r) (x : Keyed) : r x x = false := by
 cases h : r x x with
 | false => rfl
 | true => have := o.asy x x h; rw [h] at this; cases this
section
variable {prog : Program} {w : World} {A : Around} {E : Value → Shared → Prop} {s : Shared} {κ : SortKind} {a₀ : Array Keyed} {r : Keyed → Keyed → Bool}
def Cmp (prog : Program) (w : World) (A : Around) (E : Value → Shared → Prop) (s : Shared) (κ : SortKind) (a₀ : Array Keyed) (r : Keyed → Keyed → Bool) : Prop :=
 ∀ (x y : Keyed) (st : SortSt) (Q : Option Bool → SortSt → Prop), x ∈ a₀.toList → y ∈ a₀.toList → kindOf st = κ → Q (some (r x y)) st → wpS (model prog w) A E s (lt' x y) Q st
theorem Zi {arr : Array Keyed} {i : Nat} {x : Keyed} {Q : Keyed → SortSt → Prop} {st : SortSt} (hx : arr[i]? = some x) (h : Q x st) : wpS (model prog w) A E s (elem' arr i) Q st := by
 rw [elem'_eq, hx]
 exact wpS_pure h
def bp (r : Keyed → Keyed → Bool) (left : Bool) (key x : Keyed) : Bool := if left = true then r x key else !r key x
theorem U5 {left : Bool} {key : Keyed} {arr : Array Keyed} {base i : Nat} {x : Keyed} {Q : Option Bool → SortSt → Prop} {st : SortSt} (hc : Cmp prog w A E s κ a₀ r) (hk : kindOf st = κ) (hx : arr[base + i]? = some x) (mx : x ∈ a₀.toList) (mk : key ∈ a₀.toList) (h : Q (some (bp r left key x)) st) :
  wpS (model prog w) A E s (beyond' left key arr base i) Q st := by
 unfold beyond'
 refine wpS_bind (Zi hx ?_)
 cases left with
 | true =>
  rw [if_pos rfl]
  exact hc _ _ _ _ mx mk hk h
 | false =>
  rw [if_neg Bool.false_ne_true]
  exact wpS_bind (hc _ _ _ _ mk mx hk (wpS_pure h))
theorem ZD {left : Bool} {key : Keyed} {arr : Array Keyed} {base n hint : Nat} {Q : Option Nat → SortSt → Prop} {st : SortSt} (hc : Cmp prog w A E s κ a₀ r) (hk : kindOf st = κ) (p : Nat → Bool)
  (hp : ∀ i, i < n → ∃ x, arr[base + i]? = some x ∧ x ∈ a₀.toList ∧ p i = bp r left key x) (mk : key ∈ a₀.toList) (mono : ∀ i j, i ≤ j → j < n → p j = true → p i = true) (hh : hint < n)
  (h : ∀ k, k ≤ n → (∀ i, i < k → p i = true) → (∀ i, k ≤ i → i < n → p i = false) → Q (some k) st) : wpS (model prog w) A E s (gallop' left key arr base n hint) Q st := by
 have by_ : ∀ {i : Nat} {Q : Option Bool → SortSt → Prop}, i < n → Q (some (p i)) st → wpS (model prog w) A E s (beyond' left key arr base i) Q st := fun {i Q} hi hq => by
  obtain ⟨x, e, m, ep⟩ := hp i hi
  exact U5 hc hk e m mk (by rw [← ep]; exact hq)
 have down : ∀ i j, i ≤ j → j < n → p i = false → p j = false := fun i j hij hj hf => by
  cases hh : p j with
  | false => rfl
  | true => rw [mono i j hij hj hh] at hf; cases hf
 show wpS (model prog w) A E s (beyond' left key arr base hint >>= _) _ _
 dsimp only
 refine wpS_bind (by_ hh ?_)
 cases hph : p hint with
 | true =>
  dsimp only
  rw [if_pos rfl]
  refine wpS_bind (wpS_forRange (I := fun x c st' => st' = st ∧ ∃ lastofs ofs, c = (none, lastofs, ofs) ∧ hint + lastofs < n ∧ p (hint + lastofs) = true ∧ lastofs < ofs ∧ x + 1 ≤ ofs) ?step1 ?fin1 ⟨rfl, 0, 1, rfl, hh, hph, by omega, by omega⟩)
  case fin1 =>
   rintro c st' ⟨rfl, lastofs, ofs, rfl, q1, q2, q3, q4⟩
   rw [Nat.max_eq_right (Nat.zero_le n)] at q4
   dsimp only
   refine wpS_bind (wpS_forRange (I := fun x c st2 => st2 = st' ∧ ∃ lo hi, c = (none, lo, hi) ∧ lo ≤ hi ∧ hi ≤ n ∧ (∀ i, i < lo → p i = true) ∧ (∀ i, hi ≤ i → i < n → p i = false) ∧ hi - lo ≤ n - x) ?_ ?_ ⟨rfl, _, _, rfl, (by omega), (by omega), (fun i hi => mono i (hint + lastofs) (by omega) q1 q2), (fun i h1 h2 => by omega), by omega⟩)
   ·rintro x c st2 _ hx ⟨rfl, lo, hi, rfl, h1, h2, h3, h4, h5⟩
    dsimp only
    by_cases hge : lo ≥ hi
    ·rw [if_pos hge]
     have e : lo = hi := by omega
     subst e
     exact wpS_pure (wpS_pure (h lo h2 h3 h4))
    ·rw [if_neg hge]
     have hm : lo + (hi - lo) / 2 < hi := by omega
     generalize em : lo + (hi - lo) / 2 = m at hm
     have hml : lo ≤ m := by omega
     refine wpS_bind (by_ (by omega) ?_)
     cases hpm : p m with
     | true => exact wpS_pure ⟨rfl, m + 1, hi, rfl, by omega, h2, fun i hi' => mono i m (by omega) (by omega) hpm, h4, by omega⟩
     | false => exact wpS_pure ⟨rfl, lo, m, rfl, hml, by omega, h3, fun i h1 h2 => down m i h1 h2 hpm, by omega⟩
   ·rintro c st2 ⟨rfl, lo, hi, rfl, h1, h2, h3, h4, h5⟩
    rw [Nat.max_eq_right (Nat.zero_le n)] at h5
    have e : lo = hi := by omega
    subst e
    exact wpS_pure (h lo h2 h3 h4)
  case step1 =>
   rintro x c st' _ hx ⟨rfl, lastofs, ofs, rfl, q1, q2, q3, q4⟩
   dsimp only
   by_cases hge : ofs ≥ n - hint
   ·rw [if_pos hge]
    refine wpS_pure ?_
    dsimp only
    refine wpS_bind (wpS_forRange (I := fun x c st2 => st2 = st' ∧ ∃ lo hi, c = (none, lo, hi) ∧ lo ≤ hi ∧ hi ≤ n ∧ (∀ i, i < lo → p i = true) ∧ (∀ i, hi ≤ i → i < n → p i = false) ∧ hi - lo ≤ n - x) ?_ ?_ ⟨rfl, _, _, rfl, (by omega), (by omega), (fun i hi => mono i (hint + lastofs) (by omega) q1 q2), (fun i h1 h2 => by omega), by omega⟩)
    ·rintro x c st2 _ hx ⟨rfl, lo, hi, rfl, h1, h2, h3, h4, h5⟩
     dsimp only
     by_cases hge : lo ≥ hi
     ·rw [if_pos hge]
      have e : lo = hi := by omega
      subst e
      exact wpS_pure (wpS_pure (h lo h2 h3 h4))
     ·rw [if_neg hge]
      have hm : lo + (hi - lo) / 2 < hi := by omega
      generalize em : lo + (hi - lo) / 2 = m at hm
      have hml : lo ≤ m := by omega
      refine wpS_bind (by_ (by omega) ?_)
      cases hpm : p m with
      | true => exact wpS_pure ⟨rfl, m + 1, hi, rfl, by omega, h2, fun i hi' => mono i m (by omega) (by omega) hpm, h4, by omega⟩
      | false => exact wpS_pure ⟨rfl, lo, m, rfl, hml, by omega, h3, fun i h1 h2 => down m i h1 h2 hpm, by omega⟩
    ·rintro c st2 ⟨rfl, lo, hi, rfl, h1, h2, h3, h4, h5⟩
     rw [Nat.max_eq_right (Nat.zero_le n)] at h5
     have e : lo = hi := by omega
     subst e
     exact wpS_pure (h lo h2 h3 h4)
   ·rw [if_neg hge]
    refine wpS_bind (by_ (by omega) ?_)
    cases hpo : p (hint + ofs) with
    | true => exact wpS_pure ⟨rfl, ofs, 2 * ofs + 1, rfl, by omega, hpo, by omega, by omega⟩
    | false =>
     refine wpS_pure ?_
     dsimp only
     refine wpS_bind (wpS_forRange (I := fun x c st2 => st2 = st' ∧ ∃ lo hi, c = (none, lo, hi) ∧ lo ≤ hi ∧ hi ≤ n ∧ (∀ i, i < lo → p i = true) ∧ (∀ i, hi ≤ i → i < n → p i = false) ∧ hi - lo ≤ n - x) ?_ ?_ ⟨rfl, _, _, rfl, (by omega), (by omega), (fun i hi => mono i (hint + lastofs) (by omega) q1 q2), (fun i h1 h2 => down (hint + ofs) i (by omega) h2 hpo), by omega⟩)
     ·rintro x c st2 _ hx ⟨rfl, lo, hi, rfl, h1, h2, h3, h4, h5⟩
      dsimp only
      by_cases hge : lo ≥ hi
      ·rw [if_pos hge]
       have e : lo = hi := by omega
       subst e
       exact wpS_pure (wpS_pure (h lo h2 h3 h4))
      ·rw [if_neg hge]
       have hm : lo + (hi - lo) / 2 < hi := by omega
       generalize em : lo + (hi - lo) / 2 = m at hm
       have hml : lo ≤ m := by omega
       refine wpS_bind (by_ (by omega) ?_)
       cases hpm : p m with
       | true => exact wpS_pure ⟨rfl, m + 1, hi, rfl, by omega, h2, fun i hi' => mono i m (by omega) (by omega) hpm, h4, by omega⟩
       | false => exact wpS_pure ⟨rfl, lo, m, rfl, hml, by omega, h3, fun i h1 h2 => down m i h1 h2 hpm, by omega⟩
     ·rintro c st2 ⟨rfl, lo, hi, rfl, h1, h2, h3, h4, h5⟩
      rw [Nat.max_eq_right (Nat.zero_le n)] at h5
      have e : lo = hi := by omega
      subst e
      exact wpS_pure (h lo h2 h3 h4)
 | false =>
  dsimp only
  rw [if_neg Bool.false_ne_true]
  refine wpS_bind (wpS_forRange (I := fun x c st' => st' = st ∧ ∃ lastofs ofs, c = (none, lastofs, ofs) ∧ lastofs ≤ hint ∧ p (hint - lastofs) = false ∧ lastofs < ofs ∧ x + 1 ≤ ofs) ?step2 ?fin2 ⟨rfl, 0, 1, rfl, by omega, hph, by omega, by omega⟩)
  case fin2 =>
   rintro c st' ⟨rfl, lastofs, ofs, rfl, q1, q2, q3, q4⟩
   rw [Nat.max_eq_right (Nat.zero_le n)] at q4
   dsimp only
   refine wpS_bind (wpS_forRange (I := fun x c st2 => st2 = st' ∧ ∃ lo hi, c = (none, lo, hi) ∧ lo ≤ hi ∧ hi ≤ n ∧ (∀ i, i < lo → p i = true) ∧ (∀ i, hi ≤ i → i < n → p i = false) ∧ hi - lo ≤ n - x) ?_ ?_ ⟨rfl, _, _, rfl, (by omega), (by omega), (fun i hi => by omega), (fun i h1 h2 => down (hint - lastofs) i (by omega) h2 q2), by omega⟩)
   ·rintro x c st2 _ hx ⟨rfl, lo, hi, rfl, h1, h2, h3, h4, h5⟩
    dsimp only
    by_cases hge : lo ≥ hi
    ·rw [if_pos hge]
     have e : lo = hi := by omega
     subst e
     exact wpS_pure (wpS_pure (h lo h2 h3 h4))
    ·rw [if_neg hge]
     have hm : lo + (hi - lo) / 2 < hi := by omega
     generalize em : lo + (hi - lo) / 2 = m at hm
     have hml : lo ≤ m := by omega
     refine wpS_bind (by_ (by omega) ?_)
     cases hpm : p m with
     | true => exact wpS_pure ⟨rfl, m + 1, hi, rfl, by omega, h2, fun i hi' => mono i m (by omega) (by omega) hpm, h4, by omega⟩
     | false => exact wpS_pure ⟨rfl, lo, m, rfl, hml, by omega, h3, fun i h1 h2 => down m i h1 h2 hpm, by omega⟩
   ·rintro c st2 ⟨rfl, lo, hi, rfl, h1, h2, h3, h4, h5⟩
    rw [Nat.max_eq_right (Nat.zero_le n)] at h5
    have e : lo = hi := by omega
    subst e
    exact wpS_pure (h lo h2 h3 h4)
  case step2 =>
   rintro x c st' _ hx ⟨rfl, lastofs, ofs, rfl, q1, q2, q3, q4⟩
   dsimp only
   by_cases hge : ofs ≥ hint + 1
   ·rw [if_pos hge]
    refine wpS_pure ?_
    dsimp only
    refine wpS_bind (wpS_forRange (I := fun x c st2 => st2 = st' ∧ ∃ lo hi, c = (none, lo, hi) ∧ lo ≤ hi ∧ hi ≤ n ∧ (∀ i, i < lo → p i = true) ∧ (∀ i, hi ≤ i → i < n → p i = false) ∧ hi - lo ≤ n - x) ?_ ?_ ⟨rfl, _, _, rfl, (by omega), (by omega), (fun i hi => by omega), (fun i h1 h2 => down (hint - lastofs) i (by omega) h2 q2), by omega⟩)
    ·rintro x c st2 _ hx ⟨rfl, lo, hi, rfl, h1, h2, h3, h4, h5⟩
     dsimp only
     by_cases hge : lo ≥ hi
     ·rw [if_pos hge]
      have e : lo = hi := by omega
      subst e
      exact wpS_pure (wpS_pure (h lo h2 h3 h4))
     ·rw [if_neg hge]
      have hm : lo + (hi - lo) / 2 < hi := by omega
      generalize em : lo + (hi - lo) / 2 = m at hm
      have hml : lo ≤ m := by omega
      refine wpS_bind (by_ (by omega) ?_)
      cases hpm : p m with
      | true => exact wpS_pure ⟨rfl, m + 1, hi, rfl, by omega, h2, fun i hi' => mono i m (by omega) (by omega) hpm, h4, by omega⟩
      | false => exact wpS_pure ⟨rfl, lo, m, rfl, hml, by omega, h3, fun i h1 h2 => down m i h1 h2 hpm, by omega⟩
    ·rintro c st2 ⟨rfl, lo, hi, rfl, h1, h2, h3, h4, h5⟩
     rw [Nat.max_eq_right (Nat.zero_le n)] at h5
     have e : lo = hi := by omega
     subst e
     exact wpS_pure (h lo h2 h3 h4)
   ·rw [if_neg hge]
    refine wpS_bind (by_ (by omega) ?_)
    cases hpo : p (hint - ofs) with
    | true =>
     refine wpS_pure ?_
     dsimp only
     refine wpS_bind (wpS_forRange (I := fun x c st2 => st2 = st' ∧ ∃ lo hi, c = (none, lo, hi) ∧ lo ≤ hi ∧ hi ≤ n ∧ (∀ i, i < lo → p i = true) ∧ (∀ i, hi ≤ i → i < n → p i = false) ∧ hi - lo ≤ n - x) ?_ ?_ ⟨rfl, _, _, rfl, (by omega), (by omega), (fun i hi => mono i (hint - ofs) (by omega) (by omega) hpo), (fun i h1 h2 => down (hint - lastofs) i (by omega) h2 q2), by omega⟩)
     ·rintro x c st2 _ hx ⟨rfl, lo, hi, rfl, h1, h2, h3, h4, h5⟩
      dsimp only
      by_cases hge : lo ≥ hi
      ·rw [if_pos hge]
       have e : lo = hi := by omega
       subst e
       exact wpS_pure (wpS_pure (h lo h2 h3 h4))
      ·rw [if_neg hge]
       have hm : lo + (hi - lo) / 2 < hi := by omega
       generalize em : lo + (hi - lo) / 2 = m at hm
       have hml : lo ≤ m := by omega
       refine wpS_bind (by_ (by omega) ?_)
       cases hpm : p m with
       | true => exact wpS_pure ⟨rfl, m + 1, hi, rfl, by omega, h2, fun i hi' => mono i m (by omega) (by omega) hpm, h4, by omega⟩
       | false => exact wpS_pure ⟨rfl, lo, m, rfl, hml, by omega, h3, fun i h1 h2 => down m i h1 h2 hpm, by omega⟩
     ·rintro c st2 ⟨rfl, lo, hi, rfl, h1, h2, h3, h4, h5⟩
      rw [Nat.max_eq_right (Nat.zero_le n)] at h5
      have e : lo = hi := by omega
      subst e
      exact wpS_pure (h lo h2 h3 h4)
    | false => exact wpS_pure ⟨rfl, ofs, 2 * ofs + 1, rfl, by omega, hpo, by omega, by omega⟩
end
end PyProof.Rows.Tim
set_option Elab.async false
set_option linter.all false
set_option maxRecDepth 100000
set_option maxHeartbeats 4000000
namespace PyProof.Rows.Tim
open PySem
def setMinGallop' : Nat → StateT SortSt Sem Unit := sortPriv% PySem.Builtin.setMinGallop
def mergeLo' : Array Keyed → Array Keyed → StateT SortSt Sem (Array Keyed) := sortPriv% PySem.Builtin.mergeLo
theorem Jn (g : Nat) : setMinGallop' g = modify fun s => SortSt.mk' (kindOf s) (arrOf s) (pendingOf s) g (failedOf s) := rfl
abbrev Pw (r : Keyed → Keyed → Bool) (l : List Keyed) : Prop := l.Pairwise fun x y => r y x = false
def SG (st st' : SortSt) : Prop := kindOf st' = kindOf st ∧ arrOf st' = arrOf st ∧ pendingOf st' = pendingOf st ∧ failedOf st' = failedOf st
theorem SG.refl (st : SortSt) : SG st st := ⟨rfl, rfl, rfl, rfl⟩
def Good (r : Keyed → Keyed → Bool) (a b res : Array Keyed) : Prop := res.toList.Perm (a.toList ++ b.toList) ∧ Pw r res.toList
structure JW (r : Keyed → Keyed → Bool) (a b out : Array Keyed) (ia ib : Nat) : Prop where
 perm : (out.toList ++ (a.toList.drop ia ++ b.toList.drop ib)).Perm (a.toList ++ b.toList)
 srt : Pw r out.toList
 bel : ∀ x ∈ out.toList, ∀ y ∈ a.toList.drop ia ++ b.toList.drop ib, r y x = false
structure MCx (r : Keyed → Keyed → Bool) (a b : Array Keyed) : Prop where
 o : Ord r
 sa : Pw r a.toList
 sb : Pw r b.toList
theorem YU {α : Type} {l : List α} {i : Nat} {x : α} (h : l[i]? = some x) : l.drop i = x :: l.drop (i + 1) := by
 obtain ⟨hi, e⟩ := List.getElem?_eq_some_iff.mp h
 rw [List.drop_eq_getElem_cons hi, e]
theorem Zu {xs : Array Keyed} {i : Nat} {x : Keyed} (h : xs[i]? = some x) : xs.toList[i]? = some x := by rw [Array.getElem?_toList]; exact h
theorem Zd {xs : Array Keyed} {i : Nat} (h : i < xs.size) : ∃ x, xs[i]? = some x := ⟨xs[i], getElem?_pos xs i h⟩
theorem Y7 {r : Keyed → Keyed → Bool} {l : List Keyed} {i : Nat} {x : Keyed} (o : Ord r) (p : Pw r l) (h : l[i]? = some x) : ∀ y ∈ l.drop i, r y x = false := fun y hy => by
 rw [YU h] at hy
 rcases List.mem_cons.mp hy with rfl | hy
 ·exact o.irr _
 ·have q : Pw r (l.drop i) := List.Pairwise.sublist (List.drop_sublist i l) p
  rw [YU h] at q
  exact (List.pairwise_cons.mp q).1 y hy
theorem Ju (xs : Array Keyed) (i j : Nat) : (xs.extract i j).toList = (xs.toList.drop i).take (j - i) := by
 rw [Array.toList_extract, List.extract_eq_drop_take]
theorem JG (xs : Array Keyed) (i : Nat) : (xs.extract i xs.size).toList = xs.toList.drop i := by
 rw [Ju, List.take_of_length_le (by rw [List.length_drop, Array.length_toList]; exact Nat.le_refl _)]
section
variable {r : Keyed → Keyed → Bool} {a b out : Array Keyed} {ia ib : Nat}
theorem JW.pushA (C : MCx r a b) (J : JW r a b out ia ib) {x : Keyed} (hx : a[ia]? = some x) (h : ∀ y, b[ib]? = some y → r y x = false) : JW r a b (out.push x) (ia + 1) ib := by
 have hx' := Zu hx
 have hd := YU hx'
 have low : ∀ y ∈ a.toList.drop (ia + 1) ++ b.toList.drop ib, r y x = false := fun y hy => by
  rcases List.mem_append.mp hy with hy | hy
  ·exact Y7 C.o C.sa hx' y (by rw [hd]; exact List.mem_cons_of_mem _ hy)
  ·cases e : b[ib]? with
   | none =>
    rw [← Array.getElem?_toList] at e
    rw [List.drop_eq_nil_of_le (by rw [List.getElem?_eq_none_iff] at e; exact e)] at hy
    cases hy
   | some z =>
    have h1 := Y7 C.o C.sb (Zu e) y hy
    exact C.o.ntr x z y (h z e) h1
 refine ⟨?_, ?_, fun u hu y hy => ?_⟩
 ·rw [Array.toList_push, List.append_assoc]
  have := J.perm
  rw [hd] at this
  exact this
 ·rw [Array.toList_push]
  refine List.pairwise_append.mpr ⟨J.srt, List.pairwise_singleton _ _, fun u hu v hv => ?_⟩
  rw [List.mem_singleton.mp hv]
  exact J.bel u hu x (List.mem_append_left _ (by rw [hd]; exact List.mem_cons_self))
 ·rw [Array.toList_push] at hu
  rcases List.mem_append.mp hu with hu | hu
  ·refine J.bel u hu y ?_
   rcases List.mem_append.mp hy with hy | hy
   ·exact List.mem_append_left _ (by rw [hd]; exact List.mem_cons_of_mem _ hy)
   ·exact List.mem_append_right _ hy
  ·rw [List.mem_singleton.mp hu]
   exact low y hy
theorem JW.pushB (C : MCx r a b) (J : JW r a b out ia ib) {y : Keyed} (hy : b[ib]? = some y) (h : ∀ x, a[ia]? = some x → r x y = false) : JW r a b (out.push y) ia (ib + 1) := by
 have hy' := Zu hy
 have hd := YU hy'
 have low : ∀ z ∈ a.toList.drop ia ++ b.toList.drop (ib + 1), r z y = false := fun z hz => by
  rcases List.mem_append.mp hz with hz | hz
  ·cases e : a[ia]? with
   | none =>
    rw [← Array.getElem?_toList] at e
    rw [List.drop_eq_nil_of_le (by rw [List.getElem?_eq_none_iff] at e; exact e)] at hz
    cases hz
   | some x =>
    have h1 := Y7 C.o C.sa (Zu e) z hz
    exact C.o.ntr y x z (h x e) h1
  ·exact Y7 C.o C.sb hy' z (by rw [hd]; exact List.mem_cons_of_mem _ hz)
 refine ⟨?_, ?_, fun u hu z hz => ?_⟩
 ·rw [Array.toList_push, List.append_assoc]
  have := J.perm
  rw [hd] at this
  refine List.Perm.trans (List.Perm.append_left _ ?_) this
  exact (show (y :: (a.toList.drop ia ++ b.toList.drop (ib + 1))).Perm _ from List.perm_middle.symm)
 ·rw [Array.toList_push]
  refine List.pairwise_append.mpr ⟨J.srt, List.pairwise_singleton _ _, fun u hu v hv => ?_⟩
  rw [List.mem_singleton.mp hv]
  exact J.bel u hu y (List.mem_append_right _ (by rw [hd]; exact List.mem_cons_self))
 ·rw [Array.toList_push] at hu
  rcases List.mem_append.mp hu with hu | hu
  ·refine J.bel u hu z ?_
   rcases List.mem_append.mp hz with hz | hz
   ·exact List.mem_append_left _ hz
   ·exact List.mem_append_right _ (by rw [hd]; exact List.mem_cons_of_mem _ hz)
  ·rw [List.mem_singleton.mp hu]
   exact low z hz
theorem UU {xs : Array Keyed} {i k : Nat} {x : Keyed} (hx : xs[i + k]? = some x) : xs.extract i (i + (k + 1)) = (xs.extract i (i + k)).push x := by
 obtain ⟨h, e⟩ := Array.getElem?_eq_some_iff.mp hx
 rw [← e, ← Nat.add_assoc, Array.extract_succ_right (by omega) h]
theorem JW.runA (C : MCx r a b) (J : JW r a b out ia ib) : ∀ k, ia + k ≤ a.size → (∀ i, i < k → ∀ x y, a[ia + i]? = some x → b[ib]? = some y → r y x = false) → JW r a b (out ++ a.extract ia (ia + k)) (ia + k) ib
 | 0, _, _ => by
  rw [Nat.add_zero]
  have e : a.extract ia ia = #[] := by simp; omega
  rw [e, Array.append_empty]
  exact J
 | k + 1, hk, h => by
  obtain ⟨x, hx⟩ := Zd (xs := a) (i := ia + k) (by omega)
  have ih := JW.runA C J k (by omega) fun i hi => h i (by omega)
  have := ih.pushA C hx fun y hy => h k (by omega) x y hx hy
  rw [UU hx, Array.append_push]
  exact this
theorem JW.runB (C : MCx r a b) (J : JW r a b out ia ib) : ∀ k, ib + k ≤ b.size → (∀ i, i < k → ∀ y x, b[ib + i]? = some y → a[ia]? = some x → r x y = false) → JW r a b (out ++ b.extract ib (ib + k)) ia (ib + k)
 | 0, _, _ => by
  rw [Nat.add_zero]
  have e : b.extract ib ib = #[] := by simp; omega
  rw [e, Array.append_empty]
  exact J
 | k + 1, hk, h => by
  obtain ⟨y, hy⟩ := Zd (xs := b) (i := ib + k) (by omega)
  have ih := JW.runB C J k (by omega) fun i hi => h i (by omega)
  have := ih.pushB C hy fun x hx => h k (by omega) y x hy hx
  rw [UU hy, Array.append_push]
  exact this
theorem JW.done (C : MCx r a b) (J : JW r a b out ia ib) (h : a.size ≤ ia ∨ b.size ≤ ib) : Good r a b (out ++ a.extract ia a.size ++ b.extract ib b.size) := by
 unfold Good
 rw [Array.toList_append, Array.toList_append, JG, JG]
 refine ⟨by rw [List.append_assoc]; exact J.perm, ?_⟩
 have pa : Pw r (a.toList.drop ia) := List.Pairwise.sublist (List.drop_sublist _ _) C.sa
 have pb : Pw r (b.toList.drop ib) := List.Pairwise.sublist (List.drop_sublist _ _) C.sb
 rw [List.append_assoc]
 refine List.pairwise_append.mpr ⟨J.srt, ?_, J.bel⟩
 rcases h with h | h
 ·rw [List.drop_eq_nil_of_le (by rw [Array.length_toList]; exact h), List.nil_append]
  exact pb
 ·rw [List.drop_eq_nil_of_le (as := b.toList) (by rw [Array.length_toList]; exact h), List.append_nil]
  exact pa
theorem JW.last (C : MCx r a b) (J : JW r a b out ia ib) (h : ia + 1 = a.size) (hl : ∀ x, a[a.size - 1]? = some x → ∀ y ∈ b.toList, r x y = false) : Good r a b (out ++ b.extract ib b.size ++ a.extract ia a.size) := by
 unfold Good
 rw [Array.toList_append, Array.toList_append, JG, JG]
 obtain ⟨x, hx⟩ := Zd (xs := a) (i := ia) (by omega)
 have ed : a.toList.drop ia = [x] := by
  rw [YU (Zu hx), List.drop_eq_nil_of_le (by rw [Array.length_toList]; omega)]
 have P := J.perm
 have B := J.bel
 rw [ed] at P B ⊢
 have pb : Pw r (b.toList.drop ib) := List.Pairwise.sublist (List.drop_sublist _ _) C.sb
 refine ⟨?_, ?_⟩
 ·rw [List.append_assoc]
  exact List.Perm.trans (List.Perm.append_left _ List.perm_append_comm) P
 ·rw [List.append_assoc]
  refine List.pairwise_append.mpr ⟨J.srt, List.pairwise_append.mpr ⟨pb, List.pairwise_singleton _ _, fun y hy z hz => ?_⟩, fun u hu z hz => B u hu z ?_⟩
  ·rw [List.mem_singleton.mp hz]
   exact hl x (by rw [show a.size - 1 = ia by omega]; exact hx) y (List.mem_of_mem_drop hy)
  ·rcases List.mem_append.mp hz with hz | hz
   ·exact List.mem_append_right _ hz
   ·exact List.mem_append_left _ hz
end
theorem Zs {xs : Array Keyed} {i : Nat} {x : Keyed} (h : xs[i]? = some x) : x ∈ xs.toList := List.mem_of_getElem? (Zu h)
theorem Z7 {r : Keyed → Keyed → Bool} {l : List Keyed} {i j : Nat} {x y : Keyed} (o : Ord r) (p : Pw r l) (hx : l[i]? = some x) (hy : l[j]? = some y) (h : i ≤ j) : r y x = false := by
 refine Y7 o p hx y ?_
 have : (l.drop i)[j - i]? = some y := by rw [List.getElem?_drop, show i + (j - i) = j by omega]; exact hy
 exact List.mem_of_getElem? this
theorem Jb {r : Keyed → Keyed → Bool} {x y z : Keyed} (o : Ord r) (h : r y z = true) (h2 : r y x = false) : r x z = true := by
 cases e : r x z with
 | true => rfl
 | false =>
  have := o.ntr z x y e h2
  rw [h] at this
  cases this
section
variable {prog : Program} {w : World} {A : Around} {E : Value → Shared → Prop} {s : Shared} {κ : SortKind} {a₀ : Array Keyed} {r : Keyed → Keyed → Bool}
theorem Yn {g : Nat} {Q : Unit → SortSt → Prop} {st : SortSt} (h : Q () (SortSt.mk' (kindOf st) (arrOf st) (pendingOf st) g (failedOf st))) : wpS (model prog w) A E s (setMinGallop' g) Q st := by
 rw [Jn]
 exact wpS_modify h
theorem Ug {a b : Array Keyed} {Q : Array Keyed → SortSt → Prop} {st : SortSt} (hc : Cmp prog w A E s κ a₀ r) (hk : kindOf st = κ) (C : MCx r a b) (ma : ∀ x ∈ a.toList, x ∈ a₀.toList) (mb : ∀ x ∈ b.toList, x ∈ a₀.toList) (na : 1 ≤ a.size) (nb : 1 ≤ b.size)
  (h0 : ∀ y, b[0]? = some y → ∀ x ∈ a.toList, r x y = false) (hl : ∀ x, a[a.size - 1]? = some x → ∀ y ∈ b.toList, r x y = false)
  (h : ∀ res st', SG st st' → Good r a b res → Q res st') : wpS (model prog w) A E s (mergeLo' a b) Q st := by
 show wpS (model prog w) A E s (_ >>= _) _ _
 try dsimp only
 refine wpS_bind (wpS_lift (wpAny_rule ⟨rfl, ?_⟩))
 obtain ⟨y0, hy0⟩ := Zd (xs := b) (i := 0) (by omega)
 refine wpS_bind (Zi hy0 ?_)
 have J0 : JW r a b #[y0] 0 1 := by
  have e : JW r a b #[] 0 0 := ⟨by simp, .nil, fun x hx => by cases hx⟩
  exact e.pushB C hy0 fun x hx => h0 y0 hy0 x (Zs hx)
 by_cases hz0 : (1 == b.size) = true
 ·rw [if_pos hz0]
  exact wpS_pure (h _ _ (SG.refl _) (J0.done C (.inr (by have := beq_iff_eq.mp hz0; omega))))
 rw [if_neg hz0]
 by_cases hz1 : (0 + 1 == a.size) = true
 ·rw [if_pos hz1]
  exact wpS_pure (h _ _ (SG.refl _) (J0.last C (by have := beq_iff_eq.mp hz1; omega) hl))
 rw [if_neg hz1]
 have hz0' : ¬ (1 = b.size) := fun z => hz0 (beq_iff_eq.mpr z)
 have hz1' : ¬ (0 + 1 = a.size) := fun z => hz1 (beq_iff_eq.mpr z)
 refine wpS_bind (wpS_get ?_)
 refine wpS_bind (wpS_mono (wpS_forRange (I := fun x c st1 => SG st st1 ∧ ∃ out ia ib g, c = (none, out, ia, ib, g) ∧ JW r a b out ia ib ∧ ia + 1 < a.size ∧ ib < b.size ∧ x + 1 ≤ ia + ib) (Q := fun c st1 => SG st st1 ∧ ∃ res, c.fst = some res ∧ Good r a b res) ?step ?fin ⟨SG.refl _, _, _, _, _, rfl, J0, by omega, by omega, by omega⟩) ?post)
 case post =>
  rintro c st1 ⟨sg1, res, ec, gd⟩
  rw [ec]
  exact wpS_pure (h res st1 sg1 gd)
 case fin =>
  rintro c st1 ⟨_, out, ia, ib, g, _, _, i1, i2, i3⟩
  rw [Nat.max_eq_right (Nat.zero_le _)] at i3
  omega
 case step =>
  rintro x c st1 _ hx ⟨sg1, out, ia, ib, g, rfl, J, i1, i2, i3⟩
  dsimp only
  have hk1 : kindOf st1 = κ := by rw [sg1.1]; exact hk
  refine wpS_bind (wpS_mono (wpS_forRange (I := fun y c st2 => st2 = st1 ∧ ∃ out' ia' ib' ac bc, c = (none, out', ia', ib', ac, bc) ∧ JW r a b out' ia' ib' ∧ ia' + 1 < a.size ∧ ib' < b.size ∧ ia + ib + y ≤ ia' + ib')
   (Q := fun c st2 => st2 = st1 ∧ ((∃ res, c.fst = some res ∧ Good r a b res) ∨ ∃ out' ia' ib' ac bc, c = (none, out', ia', ib', ac, bc) ∧ JW r a b out' ia' ib' ∧ ia' + 1 < a.size ∧ ib' < b.size ∧ ia + ib + 1 ≤ ia' + ib')) ?_ ?_ ⟨rfl, _, _, _, _, _, rfl, J, i1, i2, by omega⟩) ?_)
  ·rintro y c st2 _ hy ⟨rfl, out', ia', ib', ac, bc, rfl, J', j1, j2, j3⟩
   dsimp only
   obtain ⟨yb, hyb⟩ := Zd (xs := b) (i := ib') (by omega)
   obtain ⟨xa, hxa⟩ := Zd (xs := a) (i := ia') (by omega)
   refine wpS_bind (Zi hyb (wpS_bind (Zi hxa (wpS_bind (hc _ _ _ _ (mb _ (Zs hyb)) (ma _ (Zs hxa)) hk1 ?_)))))
   dsimp only
   cases hr : r yb xa with
   | true =>
    rw [if_pos rfl]
    refine wpS_bind (Zi hyb ?_)
    have J2 := J'.pushB C hyb (fun x hx => by rw [hxa] at hx; cases hx; exact C.o.asy _ _ hr)
    by_cases hz : (ib' + 1 == b.size) = true
    ·rw [if_pos hz]
     exact wpS_pure ⟨rfl, .inl ⟨_, rfl, J2.done C (.inr (by have := beq_iff_eq.mp hz; omega))⟩⟩
    rw [if_neg hz]
    have hz' : ¬ (ib' + 1 = b.size) := fun z => hz (beq_iff_eq.mpr z)
    by_cases hg : bc + 1 ≥ g
    ·rw [if_pos hg]
     exact wpS_pure ⟨rfl, .inr ⟨_, _, _, _, _, rfl, J2, by omega, by omega, by omega⟩⟩
    ·rw [if_neg hg]
     exact wpS_pure ⟨rfl, _, _, _, _, _, rfl, J2, by omega, by omega, by omega⟩
   | false =>
    rw [if_neg Bool.false_ne_true]
    refine wpS_bind (Zi hxa ?_)
    have J2 := J'.pushA C hxa (fun x hx => by rw [hyb] at hx; cases hx; exact hr)
    by_cases hz : (ia' + 1 + 1 == a.size) = true
    ·rw [if_pos hz]
     exact wpS_pure ⟨rfl, .inl ⟨_, rfl, J2.last C (by have := beq_iff_eq.mp hz; omega) hl⟩⟩
    rw [if_neg hz]
    have hz' : ¬ (ia' + 1 + 1 = a.size) := fun z => hz (beq_iff_eq.mpr z)
    by_cases hg : ac + 1 ≥ g
    ·rw [if_pos hg]
     exact wpS_pure ⟨rfl, .inr ⟨_, _, _, _, _, rfl, J2, by omega, by omega, by omega⟩⟩
    ·rw [if_neg hg]
     exact wpS_pure ⟨rfl, _, _, _, _, _, rfl, J2, by omega, by omega, by omega⟩
  ·rintro c st2 ⟨rfl, out', ia', ib', ac, bc, rfl, J', j1, j2, j3⟩
   rw [Nat.max_eq_right (Nat.zero_le _)] at j3
   omega
  rintro c st2 ⟨rfl, ⟨res, ec, gd⟩ | ⟨out', ia', ib', ac, bc, rfl, J', j1, j2, j3⟩⟩
  ·rw [ec]
   exact wpS_pure ⟨sg1, res, rfl, gd⟩
  dsimp only
  refine wpS_bind (wpS_lift (wpAny_rule ⟨rfl, ?_⟩))
  refine wpS_bind (wpS_mono (wpS_forRange (I := fun y c st2 => SG st st2 ∧ ∃ out ia ib g ac bc, c = (none, out, ia, ib, g, ac, bc) ∧ JW r a b out ia ib ∧ ia + 1 < a.size ∧ ib < b.size ∧ ia' + ib' + y ≤ ia + ib)
   (Q := fun c st2 => SG st st2 ∧ ((∃ res, c.fst = some res ∧ Good r a b res) ∨ ∃ out ia ib g ac bc, c = (none, out, ia, ib, g, ac, bc) ∧ JW r a b out ia ib ∧ ia + 1 < a.size ∧ ib < b.size ∧ ia' + ib' ≤ ia + ib)) ?_ ?_ ⟨sg1, _, _, _, _, _, _, rfl, J', j1, j2, by omega⟩) ?_)
  ·clear J i1 i2 hk1
   rintro y c st2 _ hy ⟨sg2, out, ia2, ib2, g, ac, bc, rfl, J, i1, i2, i4⟩
   dsimp only
   revert J i1 i2 i4
   have ii3 : ia + ib + 1 ≤ ia' + ib' := j3
   clear j3 i3
   generalize ia2 = ia
   generalize ib2 = ib
   intro J i1 i2 i4
   by_cases hg1 : g > 1
   ·rw [if_pos hg1]
    refine wpS_bind (Yn ?_)
    generalize hg3 : SortSt.mk' _ _ _ _ _ = st3
    have sg3 : SG st st3 := by rw [← hg3]; exact sg2
    have hk3 : kindOf st3 = κ := by rw [sg3.1]; exact hk
    obtain ⟨y2, hy2⟩ := Zd (xs := b) (i := ib) (by omega)
    refine wpS_bind (Zi hy2 ?_)
    refine wpS_bind (ZD hc hk3 (fun i => match a[ia + i]? with | some x => !r y2 x | none => false) (fun i hi => ?_) (mb y2 (Zs hy2)) (fun i j hij hj hp => ?_) (by omega) fun k kn klo khi => ?_)
    ·obtain ⟨x, hx⟩ := Zd (xs := a) (i := ia + i) (by omega)
     refine ⟨x, hx, ma x (Zs hx), ?_⟩
     try dsimp only
     rw [hx]
     rfl
    ·obtain ⟨xj, hxj⟩ := Zd (xs := a) (i := ia + j) (by omega)
     obtain ⟨xi, hxi⟩ := Zd (xs := a) (i := ia + i) (by omega)
     try dsimp only at hp ⊢
     rw [hxj] at hp
     rw [hxi]
     rw [Bool.not_eq_true'] at hp ⊢
     exact C.o.ntr _ _ _ (Z7 C.o C.sa (Zu hxi) (Zu hxj) (by omega)) hp
    try dsimp only
    by_cases hk0 : k > 0
    ·rw [if_pos hk0]
     have J1 := J.runA C k (by omega) (fun i hi x y hx hy => by
      rw [hy2] at hy
      cases hy
      have := klo i hi
      try dsimp only at this
      rw [hx, Bool.not_eq_true'] at this
      exact this)
     by_cases hz0 : (ia + k + 1 == a.size) = true
     ·rw [if_pos hz0]
      exact wpS_pure ⟨sg3, .inl ⟨_, rfl, J1.last C (by have := beq_iff_eq.mp hz0; omega) hl⟩⟩
     rw [if_neg hz0]
     by_cases hz1 : (ia + k == a.size) = true
     ·rw [if_pos hz1]
      exact wpS_pure ⟨sg3, .inl ⟨_, rfl, J1.done C (.inl (by have := beq_iff_eq.mp hz1; omega))⟩⟩
     rw [if_neg hz1]
     have hz0' : ¬ (ia + k + 1 = a.size) := fun z => hz0 (beq_iff_eq.mpr z)
     have hz1' : ¬ (ia + k = a.size) := fun z => hz1 (beq_iff_eq.mpr z)
     refine wpS_bind (Zi hy2 ?_)
     have J2 := J1.pushB C hy2 (fun x hx => by
      have := khi k (Nat.le_refl _) (by omega)
      try dsimp only at this
      rw [hx, Bool.not_eq_false'] at this
      exact C.o.asy _ _ this)
     by_cases hz : (ib + 1 == b.size) = true
     ·rw [if_pos hz]
      exact wpS_pure ⟨sg3, .inl ⟨_, rfl, J2.done C (.inr (by have := beq_iff_eq.mp hz; omega))⟩⟩
     rw [if_neg hz]
     have hz' : ¬ (ib + 1 = b.size) := fun z => hz (beq_iff_eq.mpr z)
     obtain ⟨x3, hx3⟩ := Zd (xs := a) (i := ia + k) (by omega)
     refine wpS_bind (Zi hx3 ?_)
     refine wpS_bind (ZD hc hk3 (fun i => match b[ib + 1 + i]? with | some y => r y x3 | none => false) (fun i hi => ?_) (ma x3 (Zs hx3)) (fun i j hij hj hp => ?_) (by omega) fun k1 k1n klo khi => ?_)
     ·obtain ⟨y, hy⟩ := Zd (xs := b) (i := ib + 1 + i) (by omega)
      refine ⟨y, hy, mb y (Zs hy), ?_⟩
      try dsimp only
      rw [hy]
      rfl
     ·obtain ⟨yj, hyj⟩ := Zd (xs := b) (i := ib + 1 + j) (by omega)
      obtain ⟨yi, hyi⟩ := Zd (xs := b) (i := ib + 1 + i) (by omega)
      try dsimp only at hp ⊢
      rw [hyj] at hp
      rw [hyi]
      exact Jb C.o hp (Z7 C.o C.sb (Zu hyi) (Zu hyj) (by omega))
     try dsimp only
     by_cases hk1 : k1 > 0
     ·rw [if_pos hk1]
      have J3 := J2.runB C k1 (by omega) (fun i hi y x hy hx => by
       rw [hx3] at hx
       cases hx
       have := klo i hi
       try dsimp only at this
       rw [hy] at this
       exact C.o.asy _ _ this)
      by_cases hz2 : (ib + 1 + k1 == b.size) = true
      ·rw [if_pos hz2]
       exact wpS_pure ⟨sg3, .inl ⟨_, rfl, J3.done C (.inr (by have := beq_iff_eq.mp hz2; omega))⟩⟩
      rw [if_neg hz2]
      have hz2' : ¬ (ib + 1 + k1 = b.size) := fun z => hz2 (beq_iff_eq.mpr z)
      obtain ⟨x4, hx4⟩ := Zd (xs := a) (i := ia + k) (by omega)
      refine wpS_bind (Zi hx4 ?_)
      have J4 := J3.pushA C hx4 (fun y hy => by
       have := khi k1 (Nat.le_refl _) (by omega)
       try dsimp only at this
       rw [hy] at this
       have e : x4 = x3 := by rw [hx3] at hx4; exact (Option.some.inj hx4).symm
       rw [e]
       exact this)
      by_cases hz : (ia + k + 1 + 1 == a.size) = true
      ·rw [if_pos hz]
       exact wpS_pure ⟨sg3, .inl ⟨_, rfl, J4.last C (by have := beq_iff_eq.mp hz; omega) hl⟩⟩
      ·rw [if_neg hz]
       have hz' : ¬ (ia + k + 1 + 1 = a.size) := fun z => hz (beq_iff_eq.mpr z)
       by_cases h7 : (decide (k < 7) && decide (k1 < 7)) = true
       ·rw [if_pos h7]
        exact wpS_pure ⟨sg3, .inr ⟨_, _, _, _, _, _, rfl, J4, by omega, by omega, by omega⟩⟩
       ·rw [if_neg h7]
        exact wpS_pure ⟨sg3, _, _, _, _, _, _, rfl, J4, by omega, by omega, by omega⟩
     ·rw [if_neg hk1]
      obtain rfl : k1 = 0 := by omega
      obtain ⟨x4, hx4⟩ := Zd (xs := a) (i := ia + k) (by omega)
      refine wpS_bind (Zi hx4 ?_)
      have J4 := J2.pushA C hx4 (fun y hy => by
       have := khi 0 (Nat.le_refl _) (by omega)
       try dsimp only at this
       rw [Nat.add_zero, hy] at this
       have e : x4 = x3 := by rw [hx3] at hx4; exact (Option.some.inj hx4).symm
       rw [e]
       exact this)
      by_cases hz : (ia + k + 1 + 1 == a.size) = true
      ·rw [if_pos hz]
       exact wpS_pure ⟨sg3, .inl ⟨_, rfl, J4.last C (by have := beq_iff_eq.mp hz; omega) hl⟩⟩
      ·rw [if_neg hz]
       have hz' : ¬ (ia + k + 1 + 1 = a.size) := fun z => hz (beq_iff_eq.mpr z)
       by_cases h7 : (decide (k < 7) && decide (0 < 7)) = true
       ·rw [if_pos h7]
        exact wpS_pure ⟨sg3, .inr ⟨_, _, _, _, _, _, rfl, J4, by omega, by omega, by omega⟩⟩
       ·rw [if_neg h7]
        exact wpS_pure ⟨sg3, _, _, _, _, _, _, rfl, J4, by omega, by omega, by omega⟩
    ·rw [if_neg hk0]
     obtain rfl : k = 0 := by omega
     refine wpS_bind (Zi hy2 ?_)
     have J2 := J.pushB C hy2 (fun x hx => by
      have := khi 0 (Nat.le_refl _) (by omega)
      try dsimp only at this
      rw [Nat.add_zero, hx, Bool.not_eq_false'] at this
      exact C.o.asy _ _ this)
     by_cases hz : (ib + 1 == b.size) = true
     ·rw [if_pos hz]
      exact wpS_pure ⟨sg3, .inl ⟨_, rfl, J2.done C (.inr (by have := beq_iff_eq.mp hz; omega))⟩⟩
     rw [if_neg hz]
     have hz' : ¬ (ib + 1 = b.size) := fun z => hz (beq_iff_eq.mpr z)
     obtain ⟨x3, hx3⟩ := Zd (xs := a) (i := ia) (by omega)
     refine wpS_bind (Zi hx3 ?_)
     refine wpS_bind (ZD hc hk3 (fun i => match b[ib + 1 + i]? with | some y => r y x3 | none => false) (fun i hi => ?_) (ma x3 (Zs hx3)) (fun i j hij hj hp => ?_) (by omega) fun k1 k1n klo khi => ?_)
     ·obtain ⟨y, hy⟩ := Zd (xs := b) (i := ib + 1 + i) (by omega)
      refine ⟨y, hy, mb y (Zs hy), ?_⟩
      try dsimp only
      rw [hy]
      rfl
     ·obtain ⟨yj, hyj⟩ := Zd (xs := b) (i := ib + 1 + j) (by omega)
      obtain ⟨yi, hyi⟩ := Zd (xs := b) (i := ib + 1 + i) (by omega)
      try dsimp only at hp ⊢
      rw [hyj] at hp
      rw [hyi]
      exact Jb C.o hp (Z7 C.o C.sb (Zu hyi) (Zu hyj) (by omega))
     try dsimp only
     by_cases hk1 : k1 > 0
     ·rw [if_pos hk1]
      have J3 := J2.runB C k1 (by omega) (fun i hi y x hy hx => by
       rw [hx3] at hx
       cases hx
       have := klo i hi
       try dsimp only at this
       rw [hy] at this
       exact C.o.asy _ _ this)
      by_cases hz2 : (ib + 1 + k1 == b.size) = true
      ·rw [if_pos hz2]
       exact wpS_pure ⟨sg3, .inl ⟨_, rfl, J3.done C (.inr (by have := beq_iff_eq.mp hz2; omega))⟩⟩
      rw [if_neg hz2]
      have hz2' : ¬ (ib + 1 + k1 = b.size) := fun z => hz2 (beq_iff_eq.mpr z)
      obtain ⟨x4, hx4⟩ := Zd (xs := a) (i := ia) (by omega)
      refine wpS_bind (Zi hx4 ?_)
      have J4 := J3.pushA C hx4 (fun y hy => by
       have := khi k1 (Nat.le_refl _) (by omega)
       try dsimp only at this
       rw [hy] at this
       have e : x4 = x3 := by rw [hx3] at hx4; exact (Option.some.inj hx4).symm
       rw [e]
       exact this)
      by_cases hz : (ia + 1 + 1 == a.size) = true
      ·rw [if_pos hz]
       exact wpS_pure ⟨sg3, .inl ⟨_, rfl, J4.last C (by have := beq_iff_eq.mp hz; omega) hl⟩⟩
      ·rw [if_neg hz]
       have hz' : ¬ (ia + 1 + 1 = a.size) := fun z => hz (beq_iff_eq.mpr z)
       by_cases h7 : (decide (0 < 7) && decide (k1 < 7)) = true
       ·rw [if_pos h7]
        exact wpS_pure ⟨sg3, .inr ⟨_, _, _, _, _, _, rfl, J4, by omega, by omega, by omega⟩⟩
       ·rw [if_neg h7]
        exact wpS_pure ⟨sg3, _, _, _, _, _, _, rfl, J4, by omega, by omega, by omega⟩
     ·rw [if_neg hk1]
      obtain rfl : k1 = 0 := by omega
      obtain ⟨x4, hx4⟩ := Zd (xs := a) (i := ia) (by omega)
      refine wpS_bind (Zi hx4 ?_)
      have J4 := J2.pushA C hx4 (fun y hy => by
       have := khi 0 (Nat.le_refl _) (by omega)
       try dsimp only at this
       rw [Nat.add_zero, hy] at this
       have e : x4 = x3 := by rw [hx3] at hx4; exact (Option.some.inj hx4).symm
       rw [e]
       exact this)
      by_cases hz : (ia + 1 + 1 == a.size) = true
      ·rw [if_pos hz]
       exact wpS_pure ⟨sg3, .inl ⟨_, rfl, J4.last C (by have := beq_iff_eq.mp hz; omega) hl⟩⟩
      ·rw [if_neg hz]
       have hz' : ¬ (ia + 1 + 1 = a.size) := fun z => hz (beq_iff_eq.mpr z)
       by_cases h7 : (decide (0 < 7) && decide (0 < 7)) = true
       ·rw [if_pos h7]
        exact wpS_pure ⟨sg3, .inr ⟨_, _, _, _, _, _, rfl, J4, by omega, by omega, by omega⟩⟩
       ·rw [if_neg h7]
        exact wpS_pure ⟨sg3, _, _, _, _, _, _, rfl, J4, by omega, by omega, by omega⟩
   ·rw [if_neg hg1]
    refine wpS_bind (Yn ?_)
    generalize hg3 : SortSt.mk' _ _ _ _ _ = st3
    have sg3 : SG st st3 := by rw [← hg3]; exact sg2
    have hk3 : kindOf st3 = κ := by rw [sg3.1]; exact hk
    obtain ⟨y2, hy2⟩ := Zd (xs := b) (i := ib) (by omega)
    refine wpS_bind (Zi hy2 ?_)
    refine wpS_bind (ZD hc hk3 (fun i => match a[ia + i]? with | some x => !r y2 x | none => false) (fun i hi => ?_) (mb y2 (Zs hy2)) (fun i j hij hj hp => ?_) (by omega) fun k kn klo khi => ?_)
    ·obtain ⟨x, hx⟩ := Zd (xs := a) (i := ia + i) (by omega)
     refine ⟨x, hx, ma x (Zs hx), ?_⟩
     try dsimp only
     rw [hx]
     rfl
    ·obtain ⟨xj, hxj⟩ := Zd (xs := a) (i := ia + j) (by omega)
     obtain ⟨xi, hxi⟩ := Zd (xs := a) (i := ia + i) (by omega)
     try dsimp only at hp ⊢
     rw [hxj] at hp
     rw [hxi]
     rw [Bool.not_eq_true'] at hp ⊢
     exact C.o.ntr _ _ _ (Z7 C.o C.sa (Zu hxi) (Zu hxj) (by omega)) hp
    try dsimp only
    by_cases hk0 : k > 0
    ·rw [if_pos hk0]
     have J1 := J.runA C k (by omega) (fun i hi x y hx hy => by
      rw [hy2] at hy
      cases hy
      have := klo i hi
      try dsimp only at this
      rw [hx, Bool.not_eq_true'] at this
      exact this)
     by_cases hz0 : (ia + k + 1 == a.size) = true
     ·rw [if_pos hz0]
      exact wpS_pure ⟨sg3, .inl ⟨_, rfl, J1.last C (by have := beq_iff_eq.mp hz0; omega) hl⟩⟩
     rw [if_neg hz0]
     by_cases hz1 : (ia + k == a.size) = true
     ·rw [if_pos hz1]
      exact wpS_pure ⟨sg3, .inl ⟨_, rfl, J1.done C (.inl (by have := beq_iff_eq.mp hz1; omega))⟩⟩
     rw [if_neg hz1]
     have hz0' : ¬ (ia + k + 1 = a.size) := fun z => hz0 (beq_iff_eq.mpr z)
     have hz1' : ¬ (ia + k = a.size) := fun z => hz1 (beq_iff_eq.mpr z)
     refine wpS_bind (Zi hy2 ?_)
     have J2 := J1.pushB C hy2 (fun x hx => by
      have := khi k (Nat.le_refl _) (by omega)
      try dsimp only at this
      rw [hx, Bool.not_eq_false'] at this
      exact C.o.asy _ _ this)
     by_cases hz : (ib + 1 == b.size) = true
     ·rw [if_pos hz]
      exact wpS_pure ⟨sg3, .inl ⟨_, rfl, J2.done C (.inr (by have := beq_iff_eq.mp hz; omega))⟩⟩
     rw [if_neg hz]
     have hz' : ¬ (ib + 1 = b.size) := fun z => hz (beq_iff_eq.mpr z)
     obtain ⟨x3, hx3⟩ := Zd (xs := a) (i := ia + k) (by omega)
     refine wpS_bind (Zi hx3 ?_)
     refine wpS_bind (ZD hc hk3 (fun i => match b[ib + 1 + i]? with | some y => r y x3 | none => false) (fun i hi => ?_) (ma x3 (Zs hx3)) (fun i j hij hj hp => ?_) (by omega) fun k1 k1n klo khi => ?_)
     ·obtain ⟨y, hy⟩ := Zd (xs := b) (i := ib + 1 + i) (by omega)
      refine ⟨y, hy, mb y (Zs hy), ?_⟩
      try dsimp only
      rw [hy]
      rfl
     ·obtain ⟨yj, hyj⟩ := Zd (xs := b) (i := ib + 1 + j) (by omega)
      obtain ⟨yi, hyi⟩ := Zd (xs := b) (i := ib + 1 + i) (by omega)
      try dsimp only at hp ⊢
      rw [hyj] at hp
      rw [hyi]
      exact Jb C.o hp (Z7 C.o C.sb (Zu hyi) (Zu hyj) (by omega))
     try dsimp only
     by_cases hk1 : k1 > 0
     ·rw [if_pos hk1]
      have J3 := J2.runB C k1 (by omega) (fun i hi y x hy hx => by
       rw [hx3] at hx
       cases hx
       have := klo i hi
       try dsimp only at this
       rw [hy] at this
       exact C.o.asy _ _ this)
      by_cases hz2 : (ib + 1 + k1 == b.size) = true
      ·rw [if_pos hz2]
       exact wpS_pure ⟨sg3, .inl ⟨_, rfl, J3.done C (.inr (by have := beq_iff_eq.mp hz2; omega))⟩⟩
      rw [if_neg hz2]
      have hz2' : ¬ (ib + 1 + k1 = b.size) := fun z => hz2 (beq_iff_eq.mpr z)
      obtain ⟨x4, hx4⟩ := Zd (xs := a) (i := ia + k) (by omega)
      refine wpS_bind (Zi hx4 ?_)
      have J4 := J3.pushA C hx4 (fun y hy => by
       have := khi k1 (Nat.le_refl _) (by omega)
       try dsimp only at this
       rw [hy] at this
       have e : x4 = x3 := by rw [hx3] at hx4; exact (Option.some.inj hx4).symm
       rw [e]
       exact this)
      by_cases hz : (ia + k + 1 + 1 == a.size) = true
      ·rw [if_pos hz]
       exact wpS_pure ⟨sg3, .inl ⟨_, rfl, J4.last C (by have := beq_iff_eq.mp hz; omega) hl⟩⟩
      ·rw [if_neg hz]
       have hz' : ¬ (ia + k + 1 + 1 = a.size) := fun z => hz (beq_iff_eq.mpr z)
       by_cases h7 : (decide (k < 7) && decide (k1 < 7)) = true
       ·rw [if_pos h7]
        exact wpS_pure ⟨sg3, .inr ⟨_, _, _, _, _, _, rfl, J4, by omega, by omega, by omega⟩⟩
       ·rw [if_neg h7]
        exact wpS_pure ⟨sg3, _, _, _, _, _, _, rfl, J4, by omega, by omega, by omega⟩
     ·rw [if_neg hk1]
      obtain rfl : k1 = 0 := by omega
      obtain ⟨x4, hx4⟩ := Zd (xs := a) (i := ia + k) (by omega)
      refine wpS_bind (Zi hx4 ?_)
      have J4 := J2.pushA C hx4 (fun y hy => by
       have := khi 0 (Nat.le_refl _) (by omega)
       try dsimp only at this
       rw [Nat.add_zero, hy] at this
       have e : x4 = x3 := by rw [hx3] at hx4; exact (Option.some.inj hx4).symm
       rw [e]
       exact this)
      by_cases hz : (ia + k + 1 + 1 == a.size) = true
      ·rw [if_pos hz]
       exact wpS_pure ⟨sg3, .inl ⟨_, rfl, J4.last C (by have := beq_iff_eq.mp hz; omega) hl⟩⟩
      ·rw [if_neg hz]
       have hz' : ¬ (ia + k + 1 + 1 = a.size) := fun z => hz (beq_iff_eq.mpr z)
       by_cases h7 : (decide (k < 7) && decide (0 < 7)) = true
       ·rw [if_pos h7]
        exact wpS_pure ⟨sg3, .inr ⟨_, _, _, _, _, _, rfl, J4, by omega, by omega, by omega⟩⟩
       ·rw [if_neg h7]
        exact wpS_pure ⟨sg3, _, _, _, _, _, _, rfl, J4, by omega, by omega, by omega⟩
    ·rw [if_neg hk0]
     obtain rfl : k = 0 := by omega
     refine wpS_bind (Zi hy2 ?_)
     have J2 := J.pushB C hy2 (fun x hx => by
      have := khi 0 (Nat.le_refl _) (by omega)
      try dsimp only at this
      rw [Nat.add_zero, hx, Bool.not_eq_false'] at this
      exact C.o.asy _ _ this)
     by_cases hz : (ib + 1 == b.size) = true
     ·rw [if_pos hz]
      exact wpS_pure ⟨sg3, .inl ⟨_, rfl, J2.done C (.inr (by have := beq_iff_eq.mp hz; omega))⟩⟩
     rw [if_neg hz]
     have hz' : ¬ (ib + 1 = b.size) := fun z => hz (beq_iff_eq.mpr z)
     obtain ⟨x3, hx3⟩ := Zd (xs := a) (i := ia) (by omega)
     refine wpS_bind (Zi hx3 ?_)
     refine wpS_bind (ZD hc hk3 (fun i => match b[ib + 1 + i]? with | some y => r y x3 | none => false) (fun i hi => ?_) (ma x3 (Zs hx3)) (fun i j hij hj hp => ?_) (by omega) fun k1 k1n klo khi => ?_)
     ·obtain ⟨y, hy⟩ := Zd (xs := b) (i := ib + 1 + i) (by omega)
      refine ⟨y, hy, mb y (Zs hy), ?_⟩
      try dsimp only
      rw [hy]
      rfl
     ·obtain ⟨yj, hyj⟩ := Zd (xs := b) (i := ib + 1 + j) (by omega)
      obtain ⟨yi, hyi⟩ := Zd (xs := b) (i := ib + 1 + i) (by omega)
      try dsimp only at hp ⊢
      rw [hyj] at hp
      rw [hyi]
      exact Jb C.o hp (Z7 C.o C.sb (Zu hyi) (Zu hyj) (by omega))
     try dsimp only
     by_cases hk1 : k1 > 0
     ·rw [if_pos hk1]
      have J3 := J2.runB C k1 (by omega) (fun i hi y x hy hx => by
       rw [hx3] at hx
       cases hx
       have := klo i hi
       try dsimp only at this
       rw [hy] at this
       exact C.o.asy _ _ this)
      by_cases hz2 : (ib + 1 + k1 == b.size) = true
      ·rw [if_pos hz2]
       exact wpS_pure ⟨sg3, .inl ⟨_, rfl, J3.done C (.inr (by have := beq_iff_eq.mp hz2; omega))⟩⟩
      rw [if_neg hz2]
      have hz2' : ¬ (ib + 1 + k1 = b.size) := fun z => hz2 (beq_iff_eq.mpr z)
      obtain ⟨x4, hx4⟩ := Zd (xs := a) (i := ia) (by omega)
      refine wpS_bind (Zi hx4 ?_)
      have J4 := J3.pushA C hx4 (fun y hy => by
       have := khi k1 (Nat.le_refl _) (by omega)
       try dsimp only at this
       rw [hy] at this
       have e : x4 = x3 := by rw [hx3] at hx4; exact (Option.some.inj hx4).symm
       rw [e]
       exact this)
      by_cases hz : (ia + 1 + 1 == a.size) = true
      ·rw [if_pos hz]
       exact wpS_pure ⟨sg3, .inl ⟨_, rfl, J4.last C (by have := beq_iff_eq.mp hz; omega) hl⟩⟩
      ·rw [if_neg hz]
       have hz' : ¬ (ia + 1 + 1 = a.size) := fun z => hz (beq_iff_eq.mpr z)
       by_cases h7 : (decide (0 < 7) && decide (k1 < 7)) = true
       ·rw [if_pos h7]
        exact wpS_pure ⟨sg3, .inr ⟨_, _, _, _, _, _, rfl, J4, by omega, by omega, by omega⟩⟩
       ·rw [if_neg h7]
        exact wpS_pure ⟨sg3, _, _, _, _, _, _, rfl, J4, by omega, by omega, by omega⟩
     ·rw [if_neg hk1]
      obtain rfl : k1 = 0 := by omega
      obtain ⟨x4, hx4⟩ := Zd (xs := a) (i := ia) (by omega)
      refine wpS_bind (Zi hx4 ?_)
      have J4 := J2.pushA C hx4 (fun y hy => by
       have := khi 0 (Nat.le_refl _) (by omega)
       try dsimp only at this
       rw [Nat.add_zero, hy] at this
       have e : x4 = x3 := by rw [hx3] at hx4; exact (Option.some.inj hx4).symm
       rw [e]
       exact this)
      by_cases hz : (ia + 1 + 1 == a.size) = true
      ·rw [if_pos hz]
       exact wpS_pure ⟨sg3, .inl ⟨_, rfl, J4.last C (by have := beq_iff_eq.mp hz; omega) hl⟩⟩
      ·rw [if_neg hz]
       have hz' : ¬ (ia + 1 + 1 = a.size) := fun z => hz (beq_iff_eq.mpr z)
       by_cases h7 : (decide (0 < 7) && decide (0 < 7)) = true
       ·rw [if_pos h7]
        exact wpS_pure ⟨sg3, .inr ⟨_, _, _, _, _, _, rfl, J4, by omega, by omega, by omega⟩⟩
       ·rw [if_neg h7]
        exact wpS_pure ⟨sg3, _, _, _, _, _, _, rfl, J4, by omega, by omega, by omega⟩
  ·rintro c st2 ⟨sg2, out, ia, ib, g, ac, bc, rfl, J, i1, i2, i4⟩
   rw [Nat.max_eq_right (Nat.zero_le _)] at i4
   omega
  rintro c st2 ⟨sg2, ⟨res, ec, gd⟩ | ⟨out, ia2, ib2, g, ac, bc, rfl, J2, k1, k2, k3⟩⟩
  ·rw [ec]
   exact wpS_pure ⟨sg2, res, rfl, gd⟩
  dsimp only
  refine wpS_bind (Yn (wpS_pure ⟨sg2, _, _, _, _, rfl, J2, k1, k2, by omega⟩))
end
end PyProof.Rows.Tim
set_option Elab.async false
set_option linter.all false
set_option maxRecDepth 100000
set_option maxHeartbeats 4000000
namespace PyProof.Rows.Tim
open PySem
def mergeHi' : Array Keyed → Array Keyed → StateT SortSt Sem (Array Keyed) := sortPriv% PySem.Builtin.mergeHi
structure JH (r : Keyed → Keyed → Bool) (a b out : Array Keyed) (na nb : Nat) : Prop where
 la : na ≤ a.size
 lb : nb ≤ b.size
 perm : ((a.toList.take na ++ b.toList.take nb) ++ out.toList.reverse).Perm (a.toList ++ b.toList)
 srt : Pw r out.toList.reverse
 bel : ∀ y ∈ a.toList.take na ++ b.toList.take nb, ∀ x ∈ out.toList, r x y = false
theorem W0 {α : Type} {l : List α} {i : Nat} {x : α} (h : l[i]? = some x) : l.take (i + 1) = l.take i ++ [x] := by
 rw [List.take_add_one, h]
 rfl
theorem JB {r : Keyed → Keyed → Bool} {l : List Keyed} {i : Nat} {x : Keyed} (o : Ord r) (p : Pw r l) (h : l[i]? = some x) : ∀ y ∈ l.take (i + 1), r x y = false := fun y hy => by
 obtain ⟨j, hj, e⟩ := List.getElem_of_mem hy
 rw [List.length_take] at hj
 rw [List.getElem_take] at e
 exact Z7 (i := j) o p (by rw [List.getElem?_eq_getElem (by omega), e]) h (by omega)
theorem Za1 (xs : Array Keyed) (j : Nat) : (xs.extract 0 j).toList = xs.toList.take j := by
 rw [Ju, List.drop_zero, Nat.sub_zero]
section
variable {r : Keyed → Keyed → Bool} {a b out : Array Keyed} {na nb : Nat}
theorem JH.pushA (C : MCx r a b) (J : JH r a b out na nb) {x : Keyed} (h1 : 1 ≤ na) (hx : a[na - 1]? = some x) (h : 1 ≤ nb → ∀ y, b[nb - 1]? = some y → r x y = false) : JH r a b (out.push x) (na - 1) nb := by
 have la := J.la
 have lb := J.lb
 have hx' := Zu hx
 have ht := W0 hx'
 rw [Nat.sub_add_cancel h1] at ht
 have mx : x ∈ a.toList.take na := by rw [ht]; simp
 have low : ∀ y ∈ a.toList.take (na - 1) ++ b.toList.take nb, r x y = false := fun y hy => by
  rcases List.mem_append.mp hy with hy | hy
  ·exact JB C.o C.sa hx' y (by rw [Nat.sub_add_cancel h1, ht]; exact List.mem_append_left _ hy)
  ·have n1 : 1 ≤ nb := by
    rcases Nat.eq_zero_or_pos nb with z | z
    ·rw [z] at hy; cases hy
    ·exact z
   obtain ⟨z, e⟩ := Zd (xs := b) (i := nb - 1) (by omega)
   have := JB C.o C.sb (Zu e) y (by rw [Nat.sub_add_cancel n1]; exact hy)
   exact C.o.ntr y z x this (h n1 z e)
 refine ⟨by omega, lb, ?_, ?_, fun y hy u hu => ?_⟩
 ·rw [Array.toList_push, List.reverse_append]
  have P := J.perm
  rw [ht] at P
  refine List.Perm.trans ?_ P
  show ((a.toList.take (na - 1) ++ b.toList.take nb) ++ (x :: out.toList.reverse)).Perm (((a.toList.take (na - 1) ++ [x]) ++ b.toList.take nb) ++ out.toList.reverse)
  rw [List.append_assoc, List.append_assoc, List.append_assoc]
  refine List.Perm.append_left _ ?_
  show (b.toList.take nb ++ x :: out.toList.reverse).Perm (x :: (b.toList.take nb ++ out.toList.reverse))
  exact List.perm_middle
 ·rw [Array.toList_push, List.reverse_append]
  refine List.pairwise_cons.mpr ⟨fun u hu => ?_, J.srt⟩
  exact J.bel x (List.mem_append_left _ mx) u (List.mem_reverse.mp hu)
 ·rw [Array.toList_push] at hu
  rcases List.mem_append.mp hu with hu | hu
  ·refine J.bel y ?_ u hu
   rcases List.mem_append.mp hy with hy | hy
   ·exact List.mem_append_left _ (by rw [ht]; exact List.mem_append_left _ hy)
   ·exact List.mem_append_right _ hy
  ·rw [List.mem_singleton.mp hu]
   exact low y hy
theorem JH.pushB (C : MCx r a b) (J : JH r a b out na nb) {y : Keyed} (h1 : 1 ≤ nb) (hy : b[nb - 1]? = some y) (h : 1 ≤ na → ∀ x, a[na - 1]? = some x → r y x = false) : JH r a b (out.push y) na (nb - 1) := by
 have la := J.la
 have lb := J.lb
 have hy' := Zu hy
 have ht := W0 hy'
 rw [Nat.sub_add_cancel h1] at ht
 have my : y ∈ b.toList.take nb := by rw [ht]; simp
 have low : ∀ z ∈ a.toList.take na ++ b.toList.take (nb - 1), r y z = false := fun z hz => by
  rcases List.mem_append.mp hz with hz | hz
  ·have n1 : 1 ≤ na := by
    rcases Nat.eq_zero_or_pos na with q | q
    ·rw [q] at hz; cases hz
    ·exact q
   obtain ⟨x, e⟩ := Zd (xs := a) (i := na - 1) (by omega)
   have := JB C.o C.sa (Zu e) z (by rw [Nat.sub_add_cancel n1]; exact hz)
   exact C.o.ntr z x y this (h n1 x e)
  ·exact JB C.o C.sb hy' z (by rw [Nat.sub_add_cancel h1, ht]; exact List.mem_append_left _ hz)
 refine ⟨la, by omega, ?_, ?_, fun z hz u hu => ?_⟩
 ·rw [Array.toList_push, List.reverse_append]
  have P := J.perm
  rw [ht] at P
  refine List.Perm.trans ?_ P
  show ((a.toList.take na ++ b.toList.take (nb - 1)) ++ (y :: out.toList.reverse)).Perm ((a.toList.take na ++ (b.toList.take (nb - 1) ++ [y])) ++ out.toList.reverse)
  rw [List.append_assoc, List.append_assoc, List.append_assoc]
  exact .refl _
 ·rw [Array.toList_push, List.reverse_append]
  refine List.pairwise_cons.mpr ⟨fun u hu => ?_, J.srt⟩
  exact J.bel y (List.mem_append_right _ my) u (List.mem_reverse.mp hu)
 ·rw [Array.toList_push] at hu
  rcases List.mem_append.mp hu with hu | hu
  ·refine J.bel z ?_ u hu
   rcases List.mem_append.mp hz with hz | hz
   ·exact List.mem_append_left _ hz
   ·exact List.mem_append_right _ (by rw [ht]; exact List.mem_append_left _ hz)
  ·rw [List.mem_singleton.mp hu]
   exact low z hz
theorem Za0 {xs : Array Keyed} {i n : Nat} {x : Keyed} (hx : xs[i]? = some x) (h : i < n) (hn : n ≤ xs.size) : (xs.extract i n).reverse = (xs.extract (i + 1) n).reverse.push x := by
 apply Array.toList_inj.mp
 rw [Array.toList_reverse, Array.toList_push, Array.toList_reverse, Ju, Ju, YU (Zu hx), show n - i = (n - (i + 1)) + 1 by omega, List.take_succ_cons, List.reverse_cons]
theorem JH.runA (C : MCx r a b) (J : JH r a b out na nb) : ∀ k, k ≤ na → (∀ i, na - k ≤ i → i < na → ∀ x y, a[i]? = some x → b[nb - 1]? = some y → r x y = false) → JH r a b (out ++ (a.extract (na - k) na).reverse) (na - k) nb
 | 0, _, _ => by
  have e : a.extract (na - 0) na = #[] := by simp; omega
  rw [e]
  simpa using J
 | k + 1, hk, h => by
  have la := J.la
  obtain ⟨x, hx⟩ := Zd (xs := a) (i := na - (k + 1)) (by omega)
  have ih := JH.runA C J k (by omega) fun i h1 h2 => h i (by omega) h2
  have e1 : na - k - 1 = na - (k + 1) := by omega
  have := ih.pushA C (x := x) (by omega) (by rw [e1]; exact hx) fun _ y hy => h (na - (k + 1)) (Nat.le_refl _) (by omega) x y hx hy
  rw [e1] at this
  rw [Za0 hx (by omega) la, show na - (k + 1) + 1 = na - k by omega, Array.append_push]
  exact this
theorem JH.runB (C : MCx r a b) (J : JH r a b out na nb) : ∀ k, k ≤ nb → (∀ i, nb - k ≤ i → i < nb → ∀ y x, b[i]? = some y → a[na - 1]? = some x → r y x = false) → JH r a b (out ++ (b.extract (nb - k) nb).reverse) na (nb - k)
 | 0, _, _ => by
  have e : b.extract (nb - 0) nb = #[] := by simp; omega
  rw [e]
  simpa using J
 | k + 1, hk, h => by
  have lb := J.lb
  obtain ⟨y, hy⟩ := Zd (xs := b) (i := nb - (k + 1)) (by omega)
  have ih := JH.runB C J k (by omega) fun i h1 h2 => h i (by omega) h2
  have e1 : nb - k - 1 = nb - (k + 1) := by omega
  have := ih.pushB C (y := y) (by omega) (by rw [e1]; exact hy) fun _ x hx => h (nb - (k + 1)) (Nat.le_refl _) (by omega) y x hy hx
  rw [e1] at this
  rw [Za0 hy (by omega) lb, show nb - (k + 1) + 1 = nb - k by omega, Array.append_push]
  exact this
theorem JH.runA' (C : MCx r a b) (J : JH r a b out na nb) {m : Nat} (hm : m ≤ na) (h : ∀ i, m ≤ i → i < na → ∀ x y, a[i]? = some x → b[nb - 1]? = some y → r x y = false) : JH r a b (out ++ (a.extract m na).reverse) m nb := by
 have := J.runA C (na - m) (by omega) (fun i h1 h2 => h i (by omega) h2)
 rw [show na - (na - m) = m by omega] at this
 exact this
theorem JH.runB' (C : MCx r a b) (J : JH r a b out na nb) {m : Nat} (hm : m ≤ nb) (h : ∀ i, m ≤ i → i < nb → ∀ y x, b[i]? = some y → a[na - 1]? = some x → r y x = false) : JH r a b (out ++ (b.extract m nb).reverse) na m := by
 have := J.runB C (nb - m) (by omega) (fun i h1 h2 => h i (by omega) h2)
 rw [show nb - (nb - m) = m by omega] at this
 exact this
theorem JH.done (C : MCx r a b) (J : JH r a b out na nb) (h : na = 0 ∨ nb = 0) : Good r a b (a.extract 0 na ++ b.extract 0 nb ++ out.reverse) := by
 unfold Good
 rw [Array.toList_append, Array.toList_append, Za1, Za1, Array.toList_reverse]
 refine ⟨J.perm, ?_⟩
 have pa : Pw r (a.toList.take na) := List.Pairwise.sublist (List.take_sublist _ _) C.sa
 have pb : Pw r (b.toList.take nb) := List.Pairwise.sublist (List.take_sublist _ _) C.sb
 refine List.pairwise_append.mpr ⟨?_, J.srt, fun y hy x hx => J.bel y hy x (List.mem_reverse.mp hx)⟩
 rcases h with h | h
 ·rw [h, List.take_zero, List.nil_append]
  exact pb
 ·rw [h, List.take_zero, List.append_nil]
  exact pa
theorem JH.first (C : MCx r a b) (J : JH r a b out na nb) (h : nb = 1) (h0 : ∀ y, b[0]? = some y → ∀ x ∈ a.toList, r x y = false) : Good r a b (b.extract 0 nb ++ a.extract 0 na ++ out.reverse) := by
 have lb := J.lb
 subst h
 unfold Good
 obtain ⟨y, hy⟩ := Zd (xs := b) (i := 0) (by omega)
 have et : b.toList.take 1 = [y] := by rw [show (1 : Nat) = 0 + 1 from rfl, W0 (Zu hy)]; rfl
 rw [Array.toList_append, Array.toList_append, Za1, Za1, Array.toList_reverse, et]
 have P := J.perm
 have B := J.bel
 rw [et] at P B
 have pa : Pw r (a.toList.take na) := List.Pairwise.sublist (List.take_sublist _ _) C.sa
 refine ⟨List.Perm.trans (List.Perm.append_right _ List.perm_append_comm) P, ?_⟩
 refine List.pairwise_append.mpr ⟨?_, J.srt, fun z hz x hx => B z ?_ x (List.mem_reverse.mp hx)⟩
 ·refine List.pairwise_cons.mpr ⟨fun z hz => h0 y hy z (List.mem_of_mem_take hz), pa⟩
 ·rcases List.mem_append.mp hz with hz | hz
  ·exact List.mem_append_right _ hz
  ·exact List.mem_append_left _ hz
end
section
variable {prog : Program} {w : World} {A : Around} {E : Value → Shared → Prop} {s : Shared} {κ : SortKind} {a₀ : Array Keyed} {r : Keyed → Keyed → Bool}
theorem Uh {a b : Array Keyed} {Q : Array Keyed → SortSt → Prop} {st : SortSt} (hc : Cmp prog w A E s κ a₀ r) (hk : kindOf st = κ) (C : MCx r a b) (ma : ∀ x ∈ a.toList, x ∈ a₀.toList) (mb : ∀ x ∈ b.toList, x ∈ a₀.toList) (na0 : 1 ≤ a.size) (nb0 : 1 ≤ b.size)
  (h0 : ∀ y, b[0]? = some y → ∀ x ∈ a.toList, r x y = false) (hl : ∀ x, a[a.size - 1]? = some x → ∀ y ∈ b.toList, r x y = false)
  (h : ∀ res st', SG st st' → Good r a b res → Q res st') : wpS (model prog w) A E s (mergeHi' a b) Q st := by
 show wpS (model prog w) A E s (_ >>= _) _ _
 dsimp only
 refine wpS_bind (wpS_lift (wpAny_rule ⟨rfl, ?_⟩))
 obtain ⟨x0, hx0⟩ := Zd (xs := a) (i := a.size - 1) (by omega)
 refine wpS_bind (Zi hx0 ?_)
 have J0 : JH r a b #[x0] (a.size - 1) b.size := by
  have e : JH r a b #[] a.size b.size := ⟨Nat.le_refl _, Nat.le_refl _, by simp [← Array.length_toList], .nil, fun y hy x hx => by cases hx⟩
  exact e.pushA C na0 hx0 fun _ y hy => hl x0 hx0 y (Zs hy)
 by_cases hz0 : (a.size - 1 == 0) = true
 ·rw [if_pos hz0]
  exact wpS_pure (h _ _ (SG.refl _) (J0.done C (.inl (beq_iff_eq.mp hz0))))
 rw [if_neg hz0]
 by_cases hz1 : (b.size == 1) = true
 ·rw [if_pos hz1]
  exact wpS_pure (h _ _ (SG.refl _) (J0.first C (beq_iff_eq.mp hz1) h0))
 rw [if_neg hz1]
 have hz0' : ¬ (a.size - 1 = 0) := fun z => hz0 (beq_iff_eq.mpr z)
 have hz1' : ¬ (b.size = 1) := fun z => hz1 (beq_iff_eq.mpr z)
 refine wpS_bind (wpS_get ?_)
 refine wpS_bind (wpS_mono (wpS_forRange (I := fun x c st1 => SG st st1 ∧ ∃ na nb out g, c = (none, na, nb, out, g) ∧ JH r a b out na nb ∧ 1 ≤ na ∧ 2 ≤ nb ∧ na + nb + x + 1 ≤ a.size + b.size) (Q := fun c st1 => SG st st1 ∧ ∃ res, c.fst = some res ∧ Good r a b res) ?step ?fin ⟨SG.refl _, _, _, _, _, rfl, J0, by omega, by omega, by omega⟩) ?post)
 case post =>
  rintro c st1 ⟨sg1, res, ec, gd⟩
  rw [ec]
  exact wpS_pure (h res st1 sg1 gd)
 case fin =>
  rintro c st1 ⟨_, na, nb, out, g, _, _, i1, i2, i3⟩
  rw [Nat.max_eq_right (Nat.zero_le _)] at i3
  omega
 case step =>
  rintro x c st1 _ hx ⟨sg1, na, nb, out, g, rfl, J, i1, i2, i3⟩
  dsimp only
  have hk1 : kindOf st1 = κ := by rw [sg1.1]; exact hk
  refine wpS_bind (wpS_mono (wpS_forRange (I := fun y c st2 => st2 = st1 ∧ ∃ na' nb' out' ac bc, c = (none, na', nb', out', ac, bc) ∧ JH r a b out' na' nb' ∧ 1 ≤ na' ∧ 2 ≤ nb' ∧ na' + nb' + y ≤ na + nb)
   (Q := fun c st2 => st2 = st1 ∧ ((∃ res, c.fst = some res ∧ Good r a b res) ∨ ∃ na' nb' out' ac bc, c = (none, na', nb', out', ac, bc) ∧ JH r a b out' na' nb' ∧ 1 ≤ na' ∧ 2 ≤ nb' ∧ na' + nb' + 1 ≤ na + nb)) ?_ ?_ ⟨rfl, _, _, _, _, _, rfl, J, i1, i2, by omega⟩) ?_)
  ·rintro y c st2 _ hy ⟨rfl, na', nb', out', ac, bc, rfl, J', j1, j2, j3⟩
   dsimp only
   have la := J'.la
   have lb := J'.lb
   obtain ⟨yb, hyb⟩ := Zd (xs := b) (i := nb' - 1) (by omega)
   obtain ⟨xa, hxa⟩ := Zd (xs := a) (i := na' - 1) (by omega)
   refine wpS_bind (Zi hyb (wpS_bind (Zi hxa (wpS_bind (hc _ _ _ _ (mb _ (Zs hyb)) (ma _ (Zs hxa)) hk1 ?_)))))
   dsimp only
   cases hr : r yb xa with
   | true =>
    rw [if_pos rfl]
    refine wpS_bind (Zi hxa ?_)
    have J2 := J'.pushA C j1 hxa (fun _ y hy => by rw [hyb] at hy; cases hy; exact C.o.asy _ _ hr)
    by_cases hz : (na' - 1 == 0) = true
    ·rw [if_pos hz]
     exact wpS_pure ⟨rfl, .inl ⟨_, rfl, J2.done C (.inl (beq_iff_eq.mp hz))⟩⟩
    rw [if_neg hz]
    have hz' : ¬ (na' - 1 = 0) := fun z => hz (beq_iff_eq.mpr z)
    by_cases hg : ac + 1 ≥ g
    ·rw [if_pos hg]
     exact wpS_pure ⟨rfl, .inr ⟨_, _, _, _, _, rfl, J2, by omega, by omega, by omega⟩⟩
    ·rw [if_neg hg]
     exact wpS_pure ⟨rfl, _, _, _, _, _, rfl, J2, by omega, by omega, by omega⟩
   | false =>
    rw [if_neg Bool.false_ne_true]
    refine wpS_bind (Zi hyb ?_)
    have J2 := J'.pushB C (by omega) hyb (fun _ x hx => by rw [hxa] at hx; cases hx; exact hr)
    by_cases hz : (nb' - 1 == 1) = true
    ·rw [if_pos hz]
     exact wpS_pure ⟨rfl, .inl ⟨_, rfl, J2.first C (beq_iff_eq.mp hz) h0⟩⟩
    rw [if_neg hz]
    have hz' : ¬ (nb' - 1 = 1) := fun z => hz (beq_iff_eq.mpr z)
    by_cases hg : bc + 1 ≥ g
    ·rw [if_pos hg]
     exact wpS_pure ⟨rfl, .inr ⟨_, _, _, _, _, rfl, J2, by omega, by omega, by omega⟩⟩
    ·rw [if_neg hg]
     exact wpS_pure ⟨rfl, _, _, _, _, _, rfl, J2, by omega, by omega, by omega⟩
  ·rintro c st2 ⟨rfl, na', nb', out', ac, bc, rfl, J', j1, j2, j3⟩
   rw [Nat.max_eq_right (Nat.zero_le _)] at j3
   have la := J.la
   have lb := J.lb
   omega
  rintro c st2 ⟨rfl, ⟨res, ec, gd⟩ | ⟨na', nb', out', ac, bc, rfl, J', j1, j2, j3⟩⟩
  ·rw [ec]
   exact wpS_pure ⟨sg1, res, rfl, gd⟩
  dsimp only
  refine wpS_bind (wpS_lift (wpAny_rule ⟨rfl, ?_⟩))
  refine wpS_bind (wpS_mono (wpS_forRange (I := fun y c st2 => SG st st2 ∧ ∃ na nb out g ac bc, c = (none, na, nb, out, g, ac, bc) ∧ JH r a b out na nb ∧ 1 ≤ na ∧ 2 ≤ nb ∧ na + nb + y ≤ na' + nb')
   (Q := fun c st2 => SG st st2 ∧ ((∃ res, c.fst = some res ∧ Good r a b res) ∨ ∃ na nb out g ac bc, c = (none, na, nb, out, g, ac, bc) ∧ JH r a b out na nb ∧ 1 ≤ na ∧ 2 ≤ nb ∧ na + nb ≤ na' + nb')) ?_ ?_ ⟨sg1, _, _, _, _, _, _, rfl, J', j1, j2, by omega⟩) ?_)
  ·clear J i1 i2 hk1
   rintro y c st2 _ hy ⟨sg2, na2, nb2, out, g, ac, bc, rfl, J, i1, i2, i4⟩
   dsimp only
   revert J i1 i2 i4
   clear j3 i3
   generalize na2 = na
   generalize nb2 = nb
   intro J i1 i2 i4
   have la := J.la
   have lb := J.lb
   by_cases hg1 : g > 1
   ·rw [if_pos hg1]
    refine wpS_bind (Yn ?_)
    generalize hg3 : SortSt.mk' _ _ _ _ _ = st3
    have sg3 : SG st st3 := by rw [← hg3]; exact sg2
    have hk3 : kindOf st3 = κ := by rw [sg3.1]; exact hk
    obtain ⟨y2, hy2⟩ := Zd (xs := b) (i := nb - 1) (by omega)
    refine wpS_bind (Zi hy2 ?_)
    refine wpS_bind (ZD hc hk3 (fun i => match a[0 + i]? with | some x => !r y2 x | none => false) (fun i hi => ?_) (mb y2 (Zs hy2)) (fun i j hij hj hp => ?_) (by omega) fun at_ kn klo khi => ?_)
    ·obtain ⟨x, hx⟩ := Zd (xs := a) (i := 0 + i) (by omega)
     refine ⟨x, hx, ma x (Zs hx), ?_⟩
     try dsimp only
     rw [hx]
     rfl
    ·obtain ⟨xj, hxj⟩ := Zd (xs := a) (i := 0 + j) (by omega)
     obtain ⟨xi, hxi⟩ := Zd (xs := a) (i := 0 + i) (by omega)
     try dsimp only at hp ⊢
     rw [hxj] at hp
     rw [hxi]
     rw [Bool.not_eq_true'] at hp ⊢
     exact C.o.ntr _ _ _ (Z7 C.o C.sa (Zu hxi) (Zu hxj) (by omega)) hp
    try dsimp only
    by_cases hk0 : na - at_ > 0
    ·rw [if_pos hk0]
     have J1 := J.runA' C (m := at_) (by omega) (fun i hi1 hi2 x y hx hy => by
      rw [hy2] at hy
      cases hy
      have := khi i hi1 hi2
      try dsimp only at this
      rw [Nat.zero_add, hx, Bool.not_eq_false'] at this
      exact C.o.asy _ _ this)
     by_cases hz0 : (at_ == 0) = true
     ·rw [if_pos hz0]
      exact wpS_pure ⟨sg3, .inl ⟨_, rfl, J1.done C (.inl (beq_iff_eq.mp hz0))⟩⟩
     rw [if_neg hz0]
     have hz0' : ¬ (at_ = 0) := fun z => hz0 (beq_iff_eq.mpr z)
     refine wpS_bind (Zi hy2 ?_)
     have J2 := J1.pushB C (by omega) hy2 (fun _ x hx => by
      have := klo (at_ - 1) (by omega)
      try dsimp only at this
      rw [Nat.zero_add, hx, Bool.not_eq_true'] at this
      exact this)
     by_cases hz : (nb - 1 == 1) = true
     ·rw [if_pos hz]
      exact wpS_pure ⟨sg3, .inl ⟨_, rfl, J2.first C (beq_iff_eq.mp hz) h0⟩⟩
     rw [if_neg hz]
     have hz' : ¬ (nb - 1 = 1) := fun z => hz (beq_iff_eq.mpr z)
     obtain ⟨x3, hx3⟩ := Zd (xs := a) (i := at_ - 1) (by omega)
     refine wpS_bind (Zi hx3 ?_)
     refine wpS_bind (ZD hc hk3 (fun i => match b[0 + i]? with | some y => r y x3 | none => false) (fun i hi => ?_) (ma x3 (Zs hx3)) (fun i j hij hj hp => ?_) (by omega) fun k1 k1n klo1 khi1 => ?_)
     ·obtain ⟨y, hy⟩ := Zd (xs := b) (i := 0 + i) (by omega)
      refine ⟨y, hy, mb y (Zs hy), ?_⟩
      try dsimp only
      rw [hy]
      rfl
     ·obtain ⟨yj, hyj⟩ := Zd (xs := b) (i := 0 + j) (by omega)
      obtain ⟨yi, hyi⟩ := Zd (xs := b) (i := 0 + i) (by omega)
      try dsimp only at hp ⊢
      rw [hyj] at hp
      rw [hyi]
      exact Jb C.o hp (Z7 C.o C.sb (Zu hyi) (Zu hyj) (by omega))
     try dsimp only
     by_cases hk1 : nb - 1 - k1 > 0
     ·rw [if_pos hk1]
      have J3 := J2.runB' C (m := k1) (by omega) (fun i hi1 hi2 y x hy hx => by
       rw [hx3] at hx
       cases hx
       have := khi1 i hi1 hi2
       try dsimp only at this
       rw [Nat.zero_add, hy] at this
       exact this)
      by_cases hz2 : (k1 == 1) = true
      ·rw [if_pos hz2]
       exact wpS_pure ⟨sg3, .inl ⟨_, rfl, J3.first C (beq_iff_eq.mp hz2) h0⟩⟩
      rw [if_neg hz2]
      by_cases hz3 : (k1 == 0) = true
      ·rw [if_pos hz3]
       exact wpS_pure ⟨sg3, .inl ⟨_, rfl, J3.done C (.inr (beq_iff_eq.mp hz3))⟩⟩
      rw [if_neg hz3]
      have hz2' : ¬ (k1 = 1) := fun z => hz2 (beq_iff_eq.mpr z)
      have hz3' : ¬ (k1 = 0) := fun z => hz3 (beq_iff_eq.mpr z)
      obtain ⟨x4, hx4⟩ := Zd (xs := a) (i := at_ - 1) (by omega)
      refine wpS_bind (Zi hx4 ?_)
      have J4 := J3.pushA C (by omega) hx4 (fun _ y hy => by
       have := klo1 (k1 - 1) (by omega)
       try dsimp only at this
       rw [Nat.zero_add, hy] at this
       have e : x4 = x3 := by rw [hx3] at hx4; exact (Option.some.inj hx4).symm
       rw [e]
       exact C.o.asy _ _ this)
      by_cases hz : (at_ - 1 == 0) = true
      ·rw [if_pos hz]
       exact wpS_pure ⟨sg3, .inl ⟨_, rfl, J4.done C (.inl (by have := beq_iff_eq.mp hz; omega))⟩⟩
      ·rw [if_neg hz]
       have hz' : ¬ (at_ - 1 = 0) := fun z => hz (beq_iff_eq.mpr z)
       by_cases h7 : (decide (na - at_ < 7) && decide (nb - 1 - k1 < 7)) = true
       ·rw [if_pos h7]
        exact wpS_pure ⟨sg3, .inr ⟨_, _, _, _, _, _, rfl, J4, by omega, by omega, by omega⟩⟩
       ·rw [if_neg h7]
        exact wpS_pure ⟨sg3, _, _, _, _, _, _, rfl, J4, by omega, by omega, by omega⟩
     ·rw [if_neg hk1]
      obtain rfl : k1 = nb - 1 := by omega
      obtain ⟨x4, hx4⟩ := Zd (xs := a) (i := at_ - 1) (by omega)
      refine wpS_bind (Zi hx4 ?_)
      have J4 := J2.pushA C (by omega) hx4 (fun _ y hy => by
       have := klo1 (nb - 1 - 1) (by omega)
       try dsimp only at this
       rw [Nat.zero_add, hy] at this
       have e : x4 = x3 := by rw [hx3] at hx4; exact (Option.some.inj hx4).symm
       rw [e]
       exact C.o.asy _ _ this)
      by_cases hz : (at_ - 1 == 0) = true
      ·rw [if_pos hz]
       exact wpS_pure ⟨sg3, .inl ⟨_, rfl, J4.done C (.inl (by have := beq_iff_eq.mp hz; omega))⟩⟩
      ·rw [if_neg hz]
       have hz' : ¬ (at_ - 1 = 0) := fun z => hz (beq_iff_eq.mpr z)
       by_cases h7 : (decide (na - at_ < 7) && decide (nb - 1 - (nb - 1) < 7)) = true
       ·rw [if_pos h7]
        exact wpS_pure ⟨sg3, .inr ⟨_, _, _, _, _, _, rfl, J4, by omega, by omega, by omega⟩⟩
       ·rw [if_neg h7]
        exact wpS_pure ⟨sg3, _, _, _, _, _, _, rfl, J4, by omega, by omega, by omega⟩
    ·rw [if_neg hk0]
     obtain rfl : at_ = na := by omega
     refine wpS_bind (Zi hy2 ?_)
     have J2 := J.pushB C (by omega) hy2 (fun _ x hx => by
      have := klo (at_ - 1) (by omega)
      try dsimp only at this
      rw [Nat.zero_add, hx, Bool.not_eq_true'] at this
      exact this)
     by_cases hz : (nb - 1 == 1) = true
     ·rw [if_pos hz]
      exact wpS_pure ⟨sg3, .inl ⟨_, rfl, J2.first C (beq_iff_eq.mp hz) h0⟩⟩
     rw [if_neg hz]
     have hz' : ¬ (nb - 1 = 1) := fun z => hz (beq_iff_eq.mpr z)
     obtain ⟨x3, hx3⟩ := Zd (xs := a) (i := at_ - 1) (by omega)
     refine wpS_bind (Zi hx3 ?_)
     refine wpS_bind (ZD hc hk3 (fun i => match b[0 + i]? with | some y => r y x3 | none => false) (fun i hi => ?_) (ma x3 (Zs hx3)) (fun i j hij hj hp => ?_) (by omega) fun k1 k1n klo1 khi1 => ?_)
     ·obtain ⟨y, hy⟩ := Zd (xs := b) (i := 0 + i) (by omega)
      refine ⟨y, hy, mb y (Zs hy), ?_⟩
      try dsimp only
      rw [hy]
      rfl
     ·obtain ⟨yj, hyj⟩ := Zd (xs := b) (i := 0 + j) (by omega)
      obtain ⟨yi, hyi⟩ := Zd (xs := b) (i := 0 + i) (by omega)
      try dsimp only at hp ⊢
      rw [hyj] at hp
      rw [hyi]
      exact Jb C.o hp (Z7 C.o C.sb (Zu hyi) (Zu hyj) (by omega))
     try dsimp only
     by_cases hk1 : nb - 1 - k1 > 0
     ·rw [if_pos hk1]
      have J3 := J2.runB' C (m := k1) (by omega) (fun i hi1 hi2 y x hy hx => by
       rw [hx3] at hx
       cases hx
       have := khi1 i hi1 hi2
       try dsimp only at this
       rw [Nat.zero_add, hy] at this
       exact this)
      by_cases hz2 : (k1 == 1) = true
      ·rw [if_pos hz2]
       exact wpS_pure ⟨sg3, .inl ⟨_, rfl, J3.first C (beq_iff_eq.mp hz2) h0⟩⟩
      rw [if_neg hz2]
      by_cases hz3 : (k1 == 0) = true
      ·rw [if_pos hz3]
       exact wpS_pure ⟨sg3, .inl ⟨_, rfl, J3.done C (.inr (beq_iff_eq.mp hz3))⟩⟩
      rw [if_neg hz3]
      have hz2' : ¬ (k1 = 1) := fun z => hz2 (beq_iff_eq.mpr z)
      have hz3' : ¬ (k1 = 0) := fun z => hz3 (beq_iff_eq.mpr z)
      obtain ⟨x4, hx4⟩ := Zd (xs := a) (i := at_ - 1) (by omega)
      refine wpS_bind (Zi hx4 ?_)
      have J4 := J3.pushA C (by omega) hx4 (fun _ y hy => by
       have := klo1 (k1 - 1) (by omega)
       try dsimp only at this
       rw [Nat.zero_add, hy] at this
       have e : x4 = x3 := by rw [hx3] at hx4; exact (Option.some.inj hx4).symm
       rw [e]
       exact C.o.asy _ _ this)
      by_cases hz : (at_ - 1 == 0) = true
      ·rw [if_pos hz]
       exact wpS_pure ⟨sg3, .inl ⟨_, rfl, J4.done C (.inl (by have := beq_iff_eq.mp hz; omega))⟩⟩
      ·rw [if_neg hz]
       have hz' : ¬ (at_ - 1 = 0) := fun z => hz (beq_iff_eq.mpr z)
       by_cases h7 : (decide (at_ - at_ < 7) && decide (nb - 1 - k1 < 7)) = true
       ·rw [if_pos h7]
        exact wpS_pure ⟨sg3, .inr ⟨_, _, _, _, _, _, rfl, J4, by omega, by omega, by omega⟩⟩
       ·rw [if_neg h7]
        exact wpS_pure ⟨sg3, _, _, _, _, _, _, rfl, J4, by omega, by omega, by omega⟩
     ·rw [if_neg hk1]
      obtain rfl : k1 = nb - 1 := by omega
      obtain ⟨x4, hx4⟩ := Zd (xs := a) (i := at_ - 1) (by omega)
      refine wpS_bind (Zi hx4 ?_)
      have J4 := J2.pushA C (by omega) hx4 (fun _ y hy => by
       have := klo1 (nb - 1 - 1) (by omega)
       try dsimp only at this
       rw [Nat.zero_add, hy] at this
       have e : x4 = x3 := by rw [hx3] at hx4; exact (Option.some.inj hx4).symm
       rw [e]
       exact C.o.asy _ _ this)
      by_cases hz : (at_ - 1 == 0) = true
      ·rw [if_pos hz]
       exact wpS_pure ⟨sg3, .inl ⟨_, rfl, J4.done C (.inl (by have := beq_iff_eq.mp hz; omega))⟩⟩
      ·rw [if_neg hz]
       have hz' : ¬ (at_ - 1 = 0) := fun z => hz (beq_iff_eq.mpr z)
       by_cases h7 : (decide (at_ - at_ < 7) && decide (nb - 1 - (nb - 1) < 7)) = true
       ·rw [if_pos h7]
        exact wpS_pure ⟨sg3, .inr ⟨_, _, _, _, _, _, rfl, J4, by omega, by omega, by omega⟩⟩
       ·rw [if_neg h7]
        exact wpS_pure ⟨sg3, _, _, _, _, _, _, rfl, J4, by omega, by omega, by omega⟩
   ·rw [if_neg hg1]
    refine wpS_bind (Yn ?_)
    generalize hg3 : SortSt.mk' _ _ _ _ _ = st3
    have sg3 : SG st st3 := by rw [← hg3]; exact sg2
    have hk3 : kindOf st3 = κ := by rw [sg3.1]; exact hk
    obtain ⟨y2, hy2⟩ := Zd (xs := b) (i := nb - 1) (by omega)
    refine wpS_bind (Zi hy2 ?_)
    refine wpS_bind (ZD hc hk3 (fun i => match a[0 + i]? with | some x => !r y2 x | none => false) (fun i hi => ?_) (mb y2 (Zs hy2)) (fun i j hij hj hp => ?_) (by omega) fun at_ kn klo khi => ?_)
    ·obtain ⟨x, hx⟩ := Zd (xs := a) (i := 0 + i) (by omega)
     refine ⟨x, hx, ma x (Zs hx), ?_⟩
     try dsimp only
     rw [hx]
     rfl
    ·obtain ⟨xj, hxj⟩ := Zd (xs := a) (i := 0 + j) (by omega)
     obtain ⟨xi, hxi⟩ := Zd (xs := a) (i := 0 + i) (by omega)
     try dsimp only at hp ⊢
     rw [hxj] at hp
     rw [hxi]
     rw [Bool.not_eq_true'] at hp ⊢
     exact C.o.ntr _ _ _ (Z7 C.o C.sa (Zu hxi) (Zu hxj) (by omega)) hp
    try dsimp only
    by_cases hk0 : na - at_ > 0
    ·rw [if_pos hk0]
     have J1 := J.runA' C (m := at_) (by omega) (fun i hi1 hi2 x y hx hy => by
      rw [hy2] at hy
      cases hy
      have := khi i hi1 hi2
      try dsimp only at this
      rw [Nat.zero_add, hx, Bool.not_eq_false'] at this
      exact C.o.asy _ _ this)
     by_cases hz0 : (at_ == 0) = true
     ·rw [if_pos hz0]
      exact wpS_pure ⟨sg3, .inl ⟨_, rfl, J1.done C (.inl (beq_iff_eq.mp hz0))⟩⟩
     rw [if_neg hz0]
     have hz0' : ¬ (at_ = 0) := fun z => hz0 (beq_iff_eq.mpr z)
     refine wpS_bind (Zi hy2 ?_)
     have J2 := J1.pushB C (by omega) hy2 (fun _ x hx => by
      have := klo (at_ - 1) (by omega)
      try dsimp only at this
      rw [Nat.zero_add, hx, Bool.not_eq_true'] at this
      exact this)
     by_cases hz : (nb - 1 == 1) = true
     ·rw [if_pos hz]
      exact wpS_pure ⟨sg3, .inl ⟨_, rfl, J2.first C (beq_iff_eq.mp hz) h0⟩⟩
     rw [if_neg hz]
     have hz' : ¬ (nb - 1 = 1) := fun z => hz (beq_iff_eq.mpr z)
     obtain ⟨x3, hx3⟩ := Zd (xs := a) (i := at_ - 1) (by omega)
     refine wpS_bind (Zi hx3 ?_)
     refine wpS_bind (ZD hc hk3 (fun i => match b[0 + i]? with | some y => r y x3 | none => false) (fun i hi => ?_) (ma x3 (Zs hx3)) (fun i j hij hj hp => ?_) (by omega) fun k1 k1n klo1 khi1 => ?_)
     ·obtain ⟨y, hy⟩ := Zd (xs := b) (i := 0 + i) (by omega)
      refine ⟨y, hy, mb y (Zs hy), ?_⟩
      try dsimp only
      rw [hy]
      rfl
     ·obtain ⟨yj, hyj⟩ := Zd (xs := b) (i := 0 + j) (by omega)
      obtain ⟨yi, hyi⟩ := Zd (xs := b) (i := 0 + i) (by omega)
      try dsimp only at hp ⊢
      rw [hyj] at hp
      rw [hyi]
      exact Jb C.o hp (Z7 C.o C.sb (Zu hyi) (Zu hyj) (by omega))
     try dsimp only
     by_cases hk1 : nb - 1 - k1 > 0
     ·rw [if_pos hk1]
      have J3 := J2.runB' C (m := k1) (by omega) (fun i hi1 hi2 y x hy hx => by
       rw [hx3] at hx
       cases hx
       have := khi1 i hi1 hi2
       try dsimp only at this
       rw [Nat.zero_add, hy] at this
       exact this)
      by_cases hz2 : (k1 == 1) = true
      ·rw [if_pos hz2]
       exact wpS_pure ⟨sg3, .inl ⟨_, rfl, J3.first C (beq_iff_eq.mp hz2) h0⟩⟩
      rw [if_neg hz2]
      by_cases hz3 : (k1 == 0) = true
      ·rw [if_pos hz3]
       exact wpS_pure ⟨sg3, .inl ⟨_, rfl, J3.done C (.inr (beq_iff_eq.mp hz3))⟩⟩
      rw [if_neg hz3]
      have hz2' : ¬ (k1 = 1) := fun z => hz2 (beq_iff_eq.mpr z)
      have hz3' : ¬ (k1 = 0) := fun z => hz3 (beq_iff_eq.mpr z)
      obtain ⟨x4, hx4⟩ := Zd (xs := a) (i := at_ - 1) (by omega)
      refine wpS_bind (Zi hx4 ?_)
      have J4 := J3.pushA C (by omega) hx4 (fun _ y hy => by
       have := klo1 (k1 - 1) (by omega)
       try dsimp only at this
       rw [Nat.zero_add, hy] at this
       have e : x4 = x3 := by rw [hx3] at hx4; exact (Option.some.inj hx4).symm
       rw [e]
       exact C.o.asy _ _ this)
      by_cases hz : (at_ - 1 == 0) = true
      ·rw [if_pos hz]
       exact wpS_pure ⟨sg3, .inl ⟨_, rfl, J4.done C (.inl (by have := beq_iff_eq.mp hz; omega))⟩⟩
      ·rw [if_neg hz]
       have hz' : ¬ (at_ - 1 = 0) := fun z => hz (beq_iff_eq.mpr z)
       by_cases h7 : (decide (na - at_ < 7) && decide (nb - 1 - k1 < 7)) = true
       ·rw [if_pos h7]
        exact wpS_pure ⟨sg3, .inr ⟨_, _, _, _, _, _, rfl, J4, by omega, by omega, by omega⟩⟩
       ·rw [if_neg h7]
        exact wpS_pure ⟨sg3, _, _, _, _, _, _, rfl, J4, by omega, by omega, by omega⟩
     ·rw [if_neg hk1]
      obtain rfl : k1 = nb - 1 := by omega
      obtain ⟨x4, hx4⟩ := Zd (xs := a) (i := at_ - 1) (by omega)
      refine wpS_bind (Zi hx4 ?_)
      have J4 := J2.pushA C (by omega) hx4 (fun _ y hy => by
       have := klo1 (nb - 1 - 1) (by omega)
       try dsimp only at this
       rw [Nat.zero_add, hy] at this
       have e : x4 = x3 := by rw [hx3] at hx4; exact (Option.some.inj hx4).symm
       rw [e]
       exact C.o.asy _ _ this)
      by_cases hz : (at_ - 1 == 0) = true
      ·rw [if_pos hz]
       exact wpS_pure ⟨sg3, .inl ⟨_, rfl, J4.done C (.inl (by have := beq_iff_eq.mp hz; omega))⟩⟩
      ·rw [if_neg hz]
       have hz' : ¬ (at_ - 1 = 0) := fun z => hz (beq_iff_eq.mpr z)
       by_cases h7 : (decide (na - at_ < 7) && decide (nb - 1 - (nb - 1) < 7)) = true
       ·rw [if_pos h7]
        exact wpS_pure ⟨sg3, .inr ⟨_, _, _, _, _, _, rfl, J4, by omega, by omega, by omega⟩⟩
       ·rw [if_neg h7]
        exact wpS_pure ⟨sg3, _, _, _, _, _, _, rfl, J4, by omega, by omega, by omega⟩
    ·rw [if_neg hk0]
     obtain rfl : at_ = na := by omega
     refine wpS_bind (Zi hy2 ?_)
     have J2 := J.pushB C (by omega) hy2 (fun _ x hx => by
      have := klo (at_ - 1) (by omega)
      try dsimp only at this
      rw [Nat.zero_add, hx, Bool.not_eq_true'] at this
      exact this)
     by_cases hz : (nb - 1 == 1) = true
     ·rw [if_pos hz]
      exact wpS_pure ⟨sg3, .inl ⟨_, rfl, J2.first C (beq_iff_eq.mp hz) h0⟩⟩
     rw [if_neg hz]
     have hz' : ¬ (nb - 1 = 1) := fun z => hz (beq_iff_eq.mpr z)
     obtain ⟨x3, hx3⟩ := Zd (xs := a) (i := at_ - 1) (by omega)
     refine wpS_bind (Zi hx3 ?_)
     refine wpS_bind (ZD hc hk3 (fun i => match b[0 + i]? with | some y => r y x3 | none => false) (fun i hi => ?_) (ma x3 (Zs hx3)) (fun i j hij hj hp => ?_) (by omega) fun k1 k1n klo1 khi1 => ?_)
     ·obtain ⟨y, hy⟩ := Zd (xs := b) (i := 0 + i) (by omega)
      refine ⟨y, hy, mb y (Zs hy), ?_⟩
      try dsimp only
      rw [hy]
      rfl
     ·obtain ⟨yj, hyj⟩ := Zd (xs := b) (i := 0 + j) (by omega)
      obtain ⟨yi, hyi⟩ := Zd (xs := b) (i := 0 + i) (by omega)
      try dsimp only at hp ⊢
      rw [hyj] at hp
      rw [hyi]
      exact Jb C.o hp (Z7 C.o C.sb (Zu hyi) (Zu hyj) (by omega))
     try dsimp only
     by_cases hk1 : nb - 1 - k1 > 0
     ·rw [if_pos hk1]
      have J3 := J2.runB' C (m := k1) (by omega) (fun i hi1 hi2 y x hy hx => by
       rw [hx3] at hx
       cases hx
       have := khi1 i hi1 hi2
       try dsimp only at this
       rw [Nat.zero_add, hy] at this
       exact this)
      by_cases hz2 : (k1 == 1) = true
      ·rw [if_pos hz2]
       exact wpS_pure ⟨sg3, .inl ⟨_, rfl, J3.first C (beq_iff_eq.mp hz2) h0⟩⟩
      rw [if_neg hz2]
      by_cases hz3 : (k1 == 0) = true
      ·rw [if_pos hz3]
       exact wpS_pure ⟨sg3, .inl ⟨_, rfl, J3.done C (.inr (beq_iff_eq.mp hz3))⟩⟩
      rw [if_neg hz3]
      have hz2' : ¬ (k1 = 1) := fun z => hz2 (beq_iff_eq.mpr z)
      have hz3' : ¬ (k1 = 0) := fun z => hz3 (beq_iff_eq.mpr z)
      obtain ⟨x4, hx4⟩ := Zd (xs := a) (i := at_ - 1) (by omega)
      refine wpS_bind (Zi hx4 ?_)
      have J4 := J3.pushA C (by omega) hx4 (fun _ y hy => by
       have := klo1 (k1 - 1) (by omega)
       try dsimp only at this
       rw [Nat.zero_add, hy] at this
       have e : x4 = x3 := by rw [hx3] at hx4; exact (Option.some.inj hx4).symm
       rw [e]
       exact C.o.asy _ _ this)
      by_cases hz : (at_ - 1 == 0) = true
      ·rw [if_pos hz]
       exact wpS_pure ⟨sg3, .inl ⟨_, rfl, J4.done C (.inl (by have := beq_iff_eq.mp hz; omega))⟩⟩
      ·rw [if_neg hz]
       have hz' : ¬ (at_ - 1 = 0) := fun z => hz (beq_iff_eq.mpr z)
       by_cases h7 : (decide (at_ - at_ < 7) && decide (nb - 1 - k1 < 7)) = true
       ·rw [if_pos h7]
        exact wpS_pure ⟨sg3, .inr ⟨_, _, _, _, _, _, rfl, J4, by omega, by omega, by omega⟩⟩
       ·rw [if_neg h7]
        exact wpS_pure ⟨sg3, _, _, _, _, _, _, rfl, J4, by omega, by omega, by omega⟩
     ·rw [if_neg hk1]
      obtain rfl : k1 = nb - 1 := by omega
      obtain ⟨x4, hx4⟩ := Zd (xs := a) (i := at_ - 1) (by omega)
      refine wpS_bind (Zi hx4 ?_)
      have J4 := J2.pushA C (by omega) hx4 (fun _ y hy => by
       have := klo1 (nb - 1 - 1) (by omega)
       try dsimp only at this
       rw [Nat.zero_add, hy] at this
       have e : x4 = x3 := by rw [hx3] at hx4; exact (Option.some.inj hx4).symm
       rw [e]
       exact C.o.asy _ _ this)
      by_cases hz : (at_ - 1 == 0) = true
      ·rw [if_pos hz]
       exact wpS_pure ⟨sg3, .inl ⟨_, rfl, J4.done C (.inl (by have := beq_iff_eq.mp hz; omega))⟩⟩
      ·rw [if_neg hz]
       have hz' : ¬ (at_ - 1 = 0) := fun z => hz (beq_iff_eq.mpr z)
       by_cases h7 : (decide (at_ - at_ < 7) && decide (nb - 1 - (nb - 1) < 7)) = true
       ·rw [if_pos h7]
        exact wpS_pure ⟨sg3, .inr ⟨_, _, _, _, _, _, rfl, J4, by omega, by omega, by omega⟩⟩
       ·rw [if_neg h7]
        exact wpS_pure ⟨sg3, _, _, _, _, _, _, rfl, J4, by omega, by omega, by omega⟩
  ·rintro c st2 ⟨sg2, na, nb, out, g, ac, bc, rfl, J, i1, i2, i4⟩
   rw [Nat.max_eq_right (Nat.zero_le _)] at i4
   have la := J'.la
   have lb := J'.lb
   omega
  rintro c st2 ⟨sg2, ⟨res, ec, gd⟩ | ⟨na2, nb2, out, g, ac, bc, rfl, J2, k1, k2, k3⟩⟩
  ·rw [ec]
   exact wpS_pure ⟨sg2, res, rfl, gd⟩
  dsimp only
  refine wpS_bind (Yn (wpS_pure ⟨sg2, _, _, _, _, rfl, J2, k1, k2, by omega⟩))
end
end PyProof.Rows.Tim
set_option Elab.async false
set_option linter.all false
set_option maxRecDepth 100000
set_option maxHeartbeats 4000000
namespace PyProof.Rows.Tim
open PySem
def SI (r : Keyed → Keyed → Bool) (xs : Array Keyed) (lo hi : Nat) : Prop := ∀ i j x y, lo ≤ i → i ≤ j → j < hi → xs[i]? = some x → xs[j]? = some y → r y x = false
def NI (r : Keyed → Keyed → Bool) (xs : Array Keyed) (lo hi : Nat) : Prop := ∀ i j x y, lo ≤ i → i ≤ j → j < hi → xs[i]? = some x → xs[j]? = some y → r x y = false
def EQ (r : Keyed → Keyed → Bool) (xs : Array Keyed) (lo hi : Nat) : Prop := ∀ i j x y, lo ≤ i → i < hi → lo ≤ j → j < hi → xs[i]? = some x → xs[j]? = some y → r x y = false
section
variable {r : Keyed → Keyed → Bool} {xs : Array Keyed} {lo hi : Nat}
theorem SI.one (o : Ord r) : SI r xs lo (lo + 1) := fun i j x y h1 h2 h3 hx hy => by
 obtain rfl : i = j := by omega
 rw [hx] at hy; cases hy; exact o.irr _
theorem NI.one (o : Ord r) : NI r xs lo (lo + 1) := fun i j x y h1 h2 h3 hx hy => by
 obtain rfl : i = j := by omega
 rw [hx] at hy; cases hy; exact o.irr _
theorem EQ.one (o : Ord r) : EQ r xs lo (lo + 1) := fun i j x y h1 h2 h3 h4 hx hy => by
 obtain rfl : i = j := by omega
 rw [hx] at hy; cases hy; exact o.irr _
theorem SI.snoc (o : Ord r) (h : SI r xs lo hi) {p q : Keyed} (hl : lo < hi) (hp : xs[hi - 1]? = some p) (hq : xs[hi]? = some q) (hr : r q p = false) : SI r xs lo (hi + 1) := fun i j x y h1 h2 h3 hx hy => by
 by_cases hj : j < hi
 ·exact h i j x y h1 h2 hj hx hy
 ·obtain rfl : j = hi := by omega
  rw [hq] at hy; cases hy
  by_cases hi' : i = j
  ·subst hi'
   rw [hq] at hx; cases hx; exact o.irr _
  ·exact o.ntr x p q (h i (j - 1) x p h1 (by omega) (by omega) hx hp) hr
theorem NI.snoc (o : Ord r) (h : NI r xs lo hi) {p q : Keyed} (hl : lo < hi) (hp : xs[hi - 1]? = some p) (hq : xs[hi]? = some q) (hr : r p q = false) : NI r xs lo (hi + 1) := fun i j x y h1 h2 h3 hx hy => by
 by_cases hj : j < hi
 ·exact h i j x y h1 h2 hj hx hy
 ·obtain rfl : j = hi := by omega
  rw [hq] at hy; cases hy
  by_cases hi' : i = j
  ·subst hi'
   rw [hq] at hx; cases hx; exact o.irr _
  ·exact o.ntr q p x hr (h i (j - 1) x p h1 (by omega) (by omega) hx hp)
theorem EQ.snoc (o : Ord r) (h : EQ r xs lo hi) {p q : Keyed} (hl : lo < hi) (hp : xs[hi - 1]? = some p) (hq : xs[hi]? = some q) (hr : r p q = false) (hr2 : r q p = false) : EQ r xs lo (hi + 1) := fun i j x y h1 h2 h3 h4 hx hy => by
 have one : ∀ i x, lo ≤ i → i < hi → xs[i]? = some x → r x q = false ∧ r q x = false := fun i x h1 h2 hx =>
  ⟨o.ntr q p x hr (h i (hi - 1) x p h1 h2 (by omega) (by omega) hx hp), o.ntr x p q (h (hi - 1) i p x (by omega) (by omega) h1 h2 hp hx) hr2⟩
 by_cases hj : j < hi
 ·by_cases hi' : i < hi
  ·exact h i j x y h1 hi' h3 hj hx hy
  ·obtain rfl : i = hi := by omega
   rw [hq] at hx; cases hx
   exact (one j y h3 hj hy).2
 ·obtain rfl : j = hi := by omega
  rw [hq] at hy; cases hy
  by_cases hi' : i < j
  ·exact (one i x h1 hi' hx).1
  ·obtain rfl : i = j := by omega
   rw [hq] at hx; cases hx
   exact o.irr _
abbrev mir (xs : Array Keyed) (i j : Nat) : Array Keyed := mirror xs i j ((j - i) / 2)
theorem J6 (hh : hi ≤ xs.size) (k : Nat) : (mir xs lo hi)[k]? = if lo ≤ k ∧ k < hi then xs[lo + hi - 1 - k]? else xs[k]? := getElem?_mirror_all hh k
theorem SI.mir (h : SI r xs lo hi) (hh : hi ≤ xs.size) : NI r (mir xs lo hi) lo hi := fun i j x y h1 h2 h3 hx hy => by
 rw [J6 hh, if_pos ⟨by omega, by omega⟩] at hx hy
 exact h _ _ y x (by omega) (by omega) (by omega) hy hx
theorem NI.mir (h : NI r xs lo hi) (hh : hi ≤ xs.size) : SI r (mir xs lo hi) lo hi := fun i j x y h1 h2 h3 hx hy => by
 rw [J6 hh, if_pos ⟨by omega, by omega⟩] at hx hy
 exact h _ _ y x (by omega) (by omega) (by omega) hy hx
theorem NI.mirEq {m : Nat} (h : NI r xs lo hi) (e : EQ r xs m hi) (hm : lo ≤ m) (hh : hi ≤ xs.size) : NI r (PyProof.Rows.Tim.mir xs m hi) lo hi := fun i j x y h1 h2 h3 hx hy => by
 rw [J6 hh] at hx hy
 by_cases hj : m ≤ j
 ·rw [if_pos ⟨hj, h3⟩] at hy
  by_cases hi' : m ≤ i
  ·rw [if_pos ⟨hi', by omega⟩] at hx
   exact e _ _ x y (by omega) (by omega) (by omega) (by omega) hx hy
  ·rw [if_neg (by omega)] at hx
   exact h i _ x y h1 (by omega) (by omega) hx hy
 ·rw [if_neg (by omega)] at hx hy
  exact h i j x y h1 h2 h3 hx hy
theorem J5 {m : Nat} (hh : hi ≤ xs.size) (hm : m < hi) {p : Keyed} (hp : (mir xs m hi)[hi - 1]? = some p) : xs[m]? = some p := by
 rw [J6 hh, if_pos ⟨by omega, by omega⟩, show m + hi - 1 - (hi - 1) = m by omega] at hp
 exact hp
theorem JF (hh : hi ≤ xs.size) {k : Nat} (h : k < lo ∨ hi ≤ k) : (mir xs lo hi)[k]? = xs[k]? := by rw [J6 hh, if_neg (by omega)]
end
structure CB (a₀ : Array Keyed) (κ : SortKind) (lo : Nat) (st st' : SortSt) : Prop where
 kind : kindOf st' = κ
 pend : pendingOf st' = pendingOf st
 fail : failedOf st' = failedOf st
 perm : (arrOf st').Perm a₀
 pre : ∀ k, k < lo → (arrOf st')[k]? = (arrOf st)[k]?
theorem CB.size {a₀ : Array Keyed} {κ : SortKind} {lo : Nat} {st st' : SortSt} (h : CB a₀ κ lo st st') : (arrOf st').size = a₀.size := h.perm.size_eq
theorem CB.mem {a₀ : Array Keyed} {κ : SortKind} {lo : Nat} {st st' : SortSt} (h : CB a₀ κ lo st st') {i : Nat} {x : Keyed} (hx : (arrOf st')[i]? = some x) : x ∈ a₀.toList := (Array.perm_iff_toList_perm.mp h.perm).mem_iff.mp (Zs hx)
theorem CB.rev {a₀ : Array Keyed} {κ : SortKind} {lo m hi : Nat} {st st' : SortSt} (h : CB a₀ κ lo st st') (hm : lo ≤ m) (hh : hi ≤ a₀.size) : CB a₀ κ lo st (setArr st' (mir (arrOf st') m hi)) :=
 ⟨h.kind, h.pend, h.fail, (mirror_perm _ _ _ _).trans h.perm, fun k hk => by
  show (mir (arrOf st') m hi)[k]? = _
  rw [JF (by rw [h.size]; exact hh) (.inl (by omega))]
  exact h.pre k hk⟩
section
variable {prog : Program} {w : World} {A : Around} {E : Value → Shared → Prop} {s : Shared} {κ : SortKind} {a₀ : Array Keyed} {r : Keyed → Keyed → Bool}
theorem ZZ {st st' : SortSt} {lo i j : Nat} {x y : Keyed} {Q : Option Bool → SortSt → Prop} (hc : Cmp prog w A E s κ a₀ r) (B : CB a₀ κ lo st st') (hx : (arrOf st')[i]? = some x) (hy : (arrOf st')[j]? = some y) (h : Q (some (r x y)) st') : wpS (model prog w) A E s (ltAt' i j) Q st' := by
 rw [ltAt'_eq]
 exact wpS_bind (wpS_get (wpS_bind (Zi hx (wpS_bind (Zi hy (hc _ _ _ _ (B.mem hx) (B.mem hy) B.kind h))))))
theorem ZY {st : SortSt} {i j : Nat} {Q : Unit → SortSt → Prop} (h : Q () (setArr st (mir (arrOf st) i j))) : wpS (model prog w) A E s (reverseSlice' i j) Q st := by
 rw [reverseSlice'_eq]
 exact wpS_modify h
theorem EQ.one' {xs : Array Keyed} {lo hi : Nat} (o : Ord r) (h : hi = lo + 1) : EQ r xs lo hi := by subst h; exact EQ.one o
theorem Wn {st : SortSt} {lo nrem : Nat} {Q : Option Nat → SortSt → Prop} (o : Ord r) (hc : Cmp prog w A E s κ a₀ r) (B0 : CB a₀ κ lo st st) (h1 : 1 ≤ nrem) (hz : lo + nrem ≤ a₀.size)
  (h : ∀ n st', CB a₀ κ lo st st' → 1 ≤ n → n ≤ nrem → SI r (arrOf st') lo (lo + n) → Q (some n) st') : wpS (model prog w) A E s (countRun' lo nrem) Q st := by
 rw [countRun'_eq]
 dsimp only
 have z0 := B0.size
 refine wpS_bind (wpS_mono (wpS_forRange (I := fun y c st' => st' = st ∧ c = (none, y) ∧ SI r (arrOf st) lo (lo + y))
  (Q := fun c st' => st' = st ∧ ∃ n, c = (none, n) ∧ 1 ≤ n ∧ n ≤ nrem ∧ SI r (arrOf st) lo (lo + n) ∧ (n = nrem ∨ ∃ p q, (arrOf st)[lo + n - 1]? = some p ∧ (arrOf st)[lo + n]? = some q ∧ r q p = true)) ?_ ?_ ⟨rfl, rfl, SI.one o⟩) ?_)
 ·rintro y c st' hy1 hy2 ⟨rfl, rfl, S⟩
  dsimp only
  obtain ⟨p, hp⟩ := Zd (xs := arrOf st') (i := lo + y - 1) (by omega)
  obtain ⟨q, hq⟩ := Zd (xs := arrOf st') (i := lo + y) (by omega)
  refine wpS_bind (ZZ hc B0 hq hp ?_)
  cases hr : r q p with
  | true => exact wpS_pure ⟨rfl, y, rfl, hy1, by omega, S, .inr ⟨p, q, hp, hq, hr⟩⟩
  | false => exact wpS_pure ⟨rfl, rfl, S.snoc (hi := lo + y) o (by omega) hp hq hr⟩
 ·rintro c st' ⟨rfl, rfl, S⟩
  have e9 : max 1 nrem = nrem := Nat.max_eq_right h1
  rw [e9] at S
  exact ⟨rfl, nrem, by rw [e9], h1, Nat.le_refl _, S, .inl rfl⟩
 rintro c st' ⟨rfl, n, rfl, n1, n2, S, hn⟩
 dsimp only
 by_cases hnn : (n == nrem) = true
 ·rw [if_pos hnn]
  exact wpS_pure (h n st' B0 n1 n2 S)
 rw [if_neg hnn]
 have hnn' : ¬ (n = nrem) := fun z => hnn (beq_iff_eq.mpr z)
 rcases hn with hn | ⟨p, q, hp, hq, hr⟩
 ·exact absurd hn hnn'
 by_cases hn1 : n > 1
 ·rw [if_pos hn1]
  obtain ⟨f, hf⟩ := Zd (xs := arrOf st') (i := lo) (by omega)
  refine wpS_bind (ZZ hc B0 hf hp ?_)
  cases hrf : r f p with
  | true => exact wpS_pure (h n st' B0 n1 n2 S)
  | false =>
   dsimp only
   rw [if_neg Bool.false_ne_true]
   refine wpS_bind (ZY ?_)
   have B1 := B0.rev (m := lo) (hi := lo + n) (Nat.le_refl _) (by omega)
   have N1 : NI r (mir (arrOf st') lo (lo + n)) lo (lo + n) := S.mir (by omega)
   obtain ⟨p1, hp1⟩ := Zd (xs := mir (arrOf st') lo (lo + n)) (i := lo + n - 1) (by rw [mirror_size]; omega)
   have hp1' := J5 (by omega) (by omega) hp1
   rw [hf] at hp1'
   cases hp1'
   have hq1 : (mir (arrOf st') lo (lo + n))[lo + n]? = some q := by rw [JF (by omega) (.inr (Nat.le_refl _))]; exact hq
   have N1' : NI r (arrOf (setArr st' (mir (arrOf st') lo (lo + n)))) lo (lo + (n + 1)) := N1.snoc (hi := lo + n) o (by omega) hp1 hq1 (o.ntr q p f (o.asy _ _ hr) hrf)
   generalize setArr st' (mir (arrOf st') lo (lo + n)) = st1 at B1 N1'
   refine wpS_bind (wpS_lift (wpAny_rule ⟨rfl, ?_⟩))
   refine wpS_bind (wpS_mono (wpS_forRange (I := fun y c stx => CB a₀ κ lo st' stx ∧ ∃ neq, c = (none, y, neq) ∧ NI r (arrOf stx) lo (lo + y) ∧ neq + 1 ≤ y ∧ EQ r (arrOf stx) (lo + y - (neq + 1)) (lo + y))
    (Q := fun c stx => CB a₀ κ lo st' stx ∧ ∃ m neq, c = (none, m, neq) ∧ n + 1 ≤ m ∧ m ≤ nrem ∧ NI r (arrOf stx) lo (lo + m) ∧ neq + 1 ≤ m ∧ EQ r (arrOf stx) (lo + m - (neq + 1)) (lo + m)) ?_ ?_ ⟨B1, 0, rfl, N1', by omega, EQ.one' o (by omega)⟩) ?_)
   ·rintro y c st2 hy1 hy2 ⟨B2, neq, rfl, N2, g1, e2⟩
    dsimp only
    have z2 := B2.size
    obtain ⟨p2, hp2⟩ := Zd (xs := arrOf st2) (i := lo + y - 1) (by omega)
    obtain ⟨q2, hq2⟩ := Zd (xs := arrOf st2) (i := lo + y) (by omega)
    refine wpS_bind (ZZ hc B2 hq2 hp2 ?_)
    cases hr2 : r q2 p2 with
    | true =>
     dsimp only
     rw [if_pos rfl]
     by_cases hq0 : neq > 0
     ·rw [if_pos hq0]
      refine wpS_bind (ZY ?_)
      have B3 := B2.rev (m := lo + y - (neq + 1)) (hi := lo + y) (by omega) (by omega)
      have N3 : NI r (mir (arrOf st2) (lo + y - (neq + 1)) (lo + y)) lo (lo + y) := N2.mirEq e2 (by omega) (by omega)
      obtain ⟨p3, hp3⟩ := Zd (xs := mir (arrOf st2) (lo + y - (neq + 1)) (lo + y)) (i := lo + y - 1) (by rw [mirror_size]; omega)
      have hp3' := J5 (by omega) (by omega) hp3
      have hq3 : (mir (arrOf st2) (lo + y - (neq + 1)) (lo + y))[lo + y]? = some q2 := by rw [JF (by omega) (.inr (Nat.le_refl _))]; exact hq2
      have h3 : r p3 q2 = false := o.ntr q2 p2 p3 (o.asy _ _ hr2) (e2 _ _ p3 p2 (Nat.le_refl _) (by omega) (by omega) (by omega) hp3' hp2)
      exact wpS_pure ⟨B3, 0, rfl, N3.snoc (hi := lo + y) o (by omega) hp3 hq3 h3, by omega, EQ.one' o (by omega)⟩
     ·rw [if_neg hq0]
      exact wpS_pure ⟨B2, 0, rfl, N2.snoc (hi := lo + y) o (by omega) hp2 hq2 (o.asy _ _ hr2), by omega, EQ.one' o (by omega)⟩
    | false =>
     dsimp only
     rw [if_neg Bool.false_ne_true]
     refine wpS_bind (ZZ hc B2 hp2 hq2 ?_)
     cases hr3 : r p2 q2 with
     | true => exact wpS_pure ⟨B2, y, neq, rfl, by omega, by omega, N2, g1, e2⟩
     | false =>
      refine wpS_pure ⟨B2, neq + 1, rfl, N2.snoc (hi := lo + y) o (by omega) hp2 hq2 hr3, by omega, ?_⟩
      have := e2.snoc (hi := lo + y) o (by omega) hp2 hq2 hr3 hr2
      rw [show lo + (y + 1) - (neq + 1 + 1) = lo + y - (neq + 1) by omega]
      exact this
   ·rintro c st2 ⟨B2, neq, rfl, N2, g1, e2⟩
    have e9 : max (n + 1) nrem = nrem := Nat.max_eq_right (by omega)
    rw [e9] at N2 g1 e2
    exact ⟨B2, nrem, neq, by rw [e9], by omega, by omega, N2, g1, e2⟩
   rintro c st3 ⟨B3, m, neq, rfl, m1, m2, N3, g3, e3⟩
   dsimp only
   have z3 := B3.size
   by_cases hq0 : neq > 0
   ·rw [if_pos hq0]
    refine wpS_bind (ZY ?_)
    have B4 := B3.rev (m := lo + m - (neq + 1)) (hi := lo + m) (by omega) (by omega)
    have N4 : NI r (arrOf (setArr st3 (mir (arrOf st3) (lo + m - (neq + 1)) (lo + m)))) lo (lo + m) := N3.mirEq e3 (by omega) (by omega)
    generalize setArr st3 (mir (arrOf st3) (lo + m - (neq + 1)) (lo + m)) = st4 at B4 N4
    refine wpS_bind (ZY ?_)
    have B9 := B4.rev (m := lo) (hi := lo + m) (Nat.le_refl _) (by omega)
    have S9 : SI r (arrOf (setArr st4 (mir (arrOf st4) lo (lo + m)))) lo (lo + m) := NI.mir N4 (by rw [B4.size]; omega)
    generalize setArr st4 (mir (arrOf st4) lo (lo + m)) = st9 at B9 S9
    have z9 := B9.size
    refine wpS_bind (wpS_forRange (I := fun y c stx => stx = st9 ∧ c = (none, y) ∧ SI r (arrOf st9) lo (lo + y)) ?_ ?_ ⟨rfl, rfl, S9⟩)
    ·rintro y c stx hy1 hy2 ⟨rfl, rfl, S⟩
     dsimp only
     obtain ⟨p9, hp9⟩ := Zd (xs := arrOf stx) (i := lo + y - 1) (by omega)
     obtain ⟨q9, hq9⟩ := Zd (xs := arrOf stx) (i := lo + y) (by omega)
     refine wpS_bind (ZZ hc B9 hq9 hp9 ?_)
     cases hr9 : r q9 p9 with
     | true => exact wpS_pure (wpS_pure (h y stx B9 (by omega) (by omega) S))
     | false => exact wpS_pure ⟨rfl, rfl, S.snoc (hi := lo + y) o (by omega) hp9 hq9 hr9⟩
    ·rintro c stx ⟨rfl, rfl, S⟩
     rw [Nat.max_eq_right (by omega)] at S
     have e9 : max m nrem = nrem := Nat.max_eq_right (by omega)
     dsimp only
     rw [e9]
     exact wpS_pure (h nrem stx B9 (by omega) (by omega) S)
   ·rw [if_neg hq0]
    refine wpS_bind (ZY ?_)
    have B9 := B3.rev (m := lo) (hi := lo + m) (Nat.le_refl _) (by omega)
    have S9 : SI r (arrOf (setArr st3 (mir (arrOf st3) lo (lo + m)))) lo (lo + m) := NI.mir N3 (by rw [B3.size]; omega)
    generalize setArr st3 (mir (arrOf st3) lo (lo + m)) = st9 at B9 S9
    have z9 := B9.size
    refine wpS_bind (wpS_forRange (I := fun y c stx => stx = st9 ∧ c = (none, y) ∧ SI r (arrOf st9) lo (lo + y)) ?_ ?_ ⟨rfl, rfl, S9⟩)
    ·rintro y c stx hy1 hy2 ⟨rfl, rfl, S⟩
     dsimp only
     obtain ⟨p9, hp9⟩ := Zd (xs := arrOf stx) (i := lo + y - 1) (by omega)
     obtain ⟨q9, hq9⟩ := Zd (xs := arrOf stx) (i := lo + y) (by omega)
     refine wpS_bind (ZZ hc B9 hq9 hp9 ?_)
     cases hr9 : r q9 p9 with
     | true => exact wpS_pure (wpS_pure (h y stx B9 (by omega) (by omega) S))
     | false => exact wpS_pure ⟨rfl, rfl, S.snoc (hi := lo + y) o (by omega) hp9 hq9 hr9⟩
    ·rintro c stx ⟨rfl, rfl, S⟩
     rw [Nat.max_eq_right (by omega)] at S
     have e9 : max m nrem = nrem := Nat.max_eq_right (by omega)
     dsimp only
     rw [e9]
     exact wpS_pure (h nrem stx B9 (by omega) (by omega) S)
 ·rw [if_neg hn1]
  obtain rfl : n = 1 := by omega
  have N1' : NI r (arrOf st') lo (lo + (1 + 1)) := (NI.one o).snoc (hi := lo + 1) o (by omega) hp hq (o.asy _ _ hr)
  refine wpS_bind (wpS_lift (wpAny_rule ⟨rfl, ?_⟩))
  refine wpS_bind (wpS_mono (wpS_forRange (I := fun y c stx => CB a₀ κ lo st' stx ∧ ∃ neq, c = (none, y, neq) ∧ NI r (arrOf stx) lo (lo + y) ∧ neq + 1 ≤ y ∧ EQ r (arrOf stx) (lo + y - (neq + 1)) (lo + y))
   (Q := fun c stx => CB a₀ κ lo st' stx ∧ ∃ m neq, c = (none, m, neq) ∧ 1 + 1 ≤ m ∧ m ≤ nrem ∧ NI r (arrOf stx) lo (lo + m) ∧ neq + 1 ≤ m ∧ EQ r (arrOf stx) (lo + m - (neq + 1)) (lo + m)) ?_ ?_ ⟨B0, 0, rfl, N1', by omega, EQ.one' o (by omega)⟩) ?_)
  ·rintro y c st2 hy1 hy2 ⟨B2, neq, rfl, N2, g1, e2⟩
   dsimp only
   have z2 := B2.size
   obtain ⟨p2, hp2⟩ := Zd (xs := arrOf st2) (i := lo + y - 1) (by omega)
   obtain ⟨q2, hq2⟩ := Zd (xs := arrOf st2) (i := lo + y) (by omega)
   refine wpS_bind (ZZ hc B2 hq2 hp2 ?_)
   cases hr2 : r q2 p2 with
   | true =>
    dsimp only
    rw [if_pos rfl]
    by_cases hq0 : neq > 0
    ·rw [if_pos hq0]
     refine wpS_bind (ZY ?_)
     have B3 := B2.rev (m := lo + y - (neq + 1)) (hi := lo + y) (by omega) (by omega)
     have N3 : NI r (mir (arrOf st2) (lo + y - (neq + 1)) (lo + y)) lo (lo + y) := N2.mirEq e2 (by omega) (by omega)
     obtain ⟨p3, hp3⟩ := Zd (xs := mir (arrOf st2) (lo + y - (neq + 1)) (lo + y)) (i := lo + y - 1) (by rw [mirror_size]; omega)
     have hp3' := J5 (by omega) (by omega) hp3
     have hq3 : (mir (arrOf st2) (lo + y - (neq + 1)) (lo + y))[lo + y]? = some q2 := by rw [JF (by omega) (.inr (Nat.le_refl _))]; exact hq2
     have h3 : r p3 q2 = false := o.ntr q2 p2 p3 (o.asy _ _ hr2) (e2 _ _ p3 p2 (Nat.le_refl _) (by omega) (by omega) (by omega) hp3' hp2)
     exact wpS_pure ⟨B3, 0, rfl, N3.snoc (hi := lo + y) o (by omega) hp3 hq3 h3, by omega, EQ.one' o (by omega)⟩
    ·rw [if_neg hq0]
     exact wpS_pure ⟨B2, 0, rfl, N2.snoc (hi := lo + y) o (by omega) hp2 hq2 (o.asy _ _ hr2), by omega, EQ.one' o (by omega)⟩
   | false =>
    dsimp only
    rw [if_neg Bool.false_ne_true]
    refine wpS_bind (ZZ hc B2 hp2 hq2 ?_)
    cases hr3 : r p2 q2 with
    | true => exact wpS_pure ⟨B2, y, neq, rfl, by omega, by omega, N2, g1, e2⟩
    | false =>
     refine wpS_pure ⟨B2, neq + 1, rfl, N2.snoc (hi := lo + y) o (by omega) hp2 hq2 hr3, by omega, ?_⟩
     have := e2.snoc (hi := lo + y) o (by omega) hp2 hq2 hr3 hr2
     rw [show lo + (y + 1) - (neq + 1 + 1) = lo + y - (neq + 1) by omega]
     exact this
  ·rintro c st2 ⟨B2, neq, rfl, N2, g1, e2⟩
   have e9 : max (1 + 1) nrem = nrem := Nat.max_eq_right (by omega)
   rw [e9] at N2 g1 e2
   exact ⟨B2, nrem, neq, by rw [e9], by omega, by omega, N2, g1, e2⟩
  rintro c st3 ⟨B3, m, neq, rfl, m1, m2, N3, g3, e3⟩
  dsimp only
  have z3 := B3.size
  by_cases hq0 : neq > 0
  ·rw [if_pos hq0]
   refine wpS_bind (ZY ?_)
   have B4 := B3.rev (m := lo + m - (neq + 1)) (hi := lo + m) (by omega) (by omega)
   have N4 : NI r (arrOf (setArr st3 (mir (arrOf st3) (lo + m - (neq + 1)) (lo + m)))) lo (lo + m) := N3.mirEq e3 (by omega) (by omega)
   generalize setArr st3 (mir (arrOf st3) (lo + m - (neq + 1)) (lo + m)) = st4 at B4 N4
   refine wpS_bind (ZY ?_)
   have B9 := B4.rev (m := lo) (hi := lo + m) (Nat.le_refl _) (by omega)
   have S9 : SI r (arrOf (setArr st4 (mir (arrOf st4) lo (lo + m)))) lo (lo + m) := NI.mir N4 (by rw [B4.size]; omega)
   generalize setArr st4 (mir (arrOf st4) lo (lo + m)) = st9 at B9 S9
   have z9 := B9.size
   refine wpS_bind (wpS_forRange (I := fun y c stx => stx = st9 ∧ c = (none, y) ∧ SI r (arrOf st9) lo (lo + y)) ?_ ?_ ⟨rfl, rfl, S9⟩)
   ·rintro y c stx hy1 hy2 ⟨rfl, rfl, S⟩
    dsimp only
    obtain ⟨p9, hp9⟩ := Zd (xs := arrOf stx) (i := lo + y - 1) (by omega)
    obtain ⟨q9, hq9⟩ := Zd (xs := arrOf stx) (i := lo + y) (by omega)
    refine wpS_bind (ZZ hc B9 hq9 hp9 ?_)
    cases hr9 : r q9 p9 with
    | true => exact wpS_pure (wpS_pure (h y stx B9 (by omega) (by omega) S))
    | false => exact wpS_pure ⟨rfl, rfl, S.snoc (hi := lo + y) o (by omega) hp9 hq9 hr9⟩
   ·rintro c stx ⟨rfl, rfl, S⟩
    rw [Nat.max_eq_right (by omega)] at S
    have e9 : max m nrem = nrem := Nat.max_eq_right (by omega)
    dsimp only
    rw [e9]
    exact wpS_pure (h nrem stx B9 (by omega) (by omega) S)
  ·rw [if_neg hq0]
   refine wpS_bind (ZY ?_)
   have B9 := B3.rev (m := lo) (hi := lo + m) (Nat.le_refl _) (by omega)
   have S9 : SI r (arrOf (setArr st3 (mir (arrOf st3) lo (lo + m)))) lo (lo + m) := NI.mir N3 (by rw [B3.size]; omega)
   generalize setArr st3 (mir (arrOf st3) lo (lo + m)) = st9 at B9 S9
   have z9 := B9.size
   refine wpS_bind (wpS_forRange (I := fun y c stx => stx = st9 ∧ c = (none, y) ∧ SI r (arrOf st9) lo (lo + y)) ?_ ?_ ⟨rfl, rfl, S9⟩)
   ·rintro y c stx hy1 hy2 ⟨rfl, rfl, S⟩
    dsimp only
    obtain ⟨p9, hp9⟩ := Zd (xs := arrOf stx) (i := lo + y - 1) (by omega)
    obtain ⟨q9, hq9⟩ := Zd (xs := arrOf stx) (i := lo + y) (by omega)
    refine wpS_bind (ZZ hc B9 hq9 hp9 ?_)
    cases hr9 : r q9 p9 with
    | true => exact wpS_pure (wpS_pure (h y stx B9 (by omega) (by omega) S))
    | false => exact wpS_pure ⟨rfl, rfl, S.snoc (hi := lo + y) o (by omega) hp9 hq9 hr9⟩
   ·rintro c stx ⟨rfl, rfl, S⟩
    rw [Nat.max_eq_right (by omega)] at S
    have e9 : max m nrem = nrem := Nat.max_eq_right (by omega)
    dsimp only
    rw [e9]
    exact wpS_pure (h nrem stx B9 (by omega) (by omega) S)
end
end PyProof.Rows.Tim
set_option Elab.async false
set_option linter.all false
set_option maxRecDepth 100000
set_option maxHeartbeats 4000000
namespace PyProof.Rows.Tim
open PySem
section
variable {prog : Program} {w : World} {A : Around} {E : Value → Shared → Prop} {s : Shared} {κ : SortKind} {a₀ : Array Keyed} {r : Keyed → Keyed → Bool}
theorem Zd0 {x y z : Keyed} (o : Ord r) (h : r z x = true) (h2 : r y x = false) : r z y = true := by
 cases e : r z y with
 | true => rfl
 | false =>
  have := o.ntr x y z h2 e
  rw [h] at this
  cases this
theorem Za9 {st : SortSt} {i j : Nat} {Q : Unit → SortSt → Prop} (h : Q () (setArr st (bubble (arrOf st) i (i - j)))) : wpS (model prog w) A E s (moveDown' i j) Q st := by
 rw [moveDown'_eq]
 exact wpS_modify h
theorem SI.put {xs : Array Keyed} {lo k l : Nat} {q : Keyed} (o : Ord r) (S : SI r xs lo (lo + k)) (hq : xs[lo + k]? = some q) (hl : l ≤ k) (h1 : ∀ i x, i < l → xs[lo + i]? = some x → r q x = false) (h2 : ∀ i x, l ≤ i → i < k → xs[lo + i]? = some x → r q x = true) : SI r (bubble xs (lo + k) (lo + k - (lo + l))) lo (lo + (k + 1)) := by
 have hs : lo + k < xs.size := (Array.getElem?_eq_some_iff.mp hq).1
 intro i j x y g1 g2 g3 hx hy
 rw [getElem?_bubble hs _ (by omega)] at hx hy
 rw [show lo + k - (lo + k - (lo + l)) = lo + l by omega] at hx hy
 by_cases ei : i = lo + l
 ·rw [if_pos ei, hq] at hx
  cases hx
  by_cases ej : j = lo + l
  ·rw [if_pos ej, hq] at hy
   cases hy
   exact o.irr _
  ·rw [if_neg ej, if_pos (by omega)] at hy
   exact o.asy _ _ (h2 (j - 1 - lo) y (by omega) (by omega) (by rw [show lo + (j - 1 - lo) = j - 1 by omega]; exact hy))
 ·rw [if_neg ei] at hx
  by_cases ej : j = lo + l
  ·rw [if_pos ej, hq] at hy
   cases hy
   rw [if_neg (by omega)] at hx
   exact h1 (i - lo) x (by omega) (by rw [show lo + (i - lo) = i by omega]; exact hx)
  ·rw [if_neg ej] at hy
   by_cases gi : lo + l < i
   ·rw [if_pos (by omega)] at hx hy
    exact S (i - 1) (j - 1) x y (by omega) (by omega) (by omega) hx hy
   ·rw [if_neg (by omega)] at hx
    by_cases gj : lo + l < j
    ·rw [if_pos (by omega)] at hy
     exact S i (j - 1) x y (by omega) (by omega) (by omega) hx hy
    ·rw [if_neg (by omega)] at hy
     exact S i j x y (by omega) (by omega) (by omega) hx hy
theorem Jy {st st0 : SortSt} {lo n ok : Nat} {Q : Bool → SortSt → Prop} (o : Ord r) (hc : Cmp prog w A E s κ a₀ r) (B0 : CB a₀ κ lo st0 st) (h1 : 1 ≤ ok) (hn : ok ≤ n) (hz : lo + n ≤ a₀.size) (S0 : SI r (arrOf st) lo (lo + ok))
  (h : ∀ st', CB a₀ κ lo st0 st' → SI r (arrOf st') lo (lo + n) → Q true st') : wpS (model prog w) A E s (binarySort' lo n ok) Q st := by
 rw [binarySort'_eq]
 dsimp only
 rw [Nat.max_eq_left h1]
 refine wpS_bind (wpS_forRange (I := fun k c st' => c = (none, ()) ∧ CB a₀ κ lo st0 st' ∧ SI r (arrOf st') lo (lo + k)) ?_ ?_ ⟨rfl, B0, S0⟩)
 ·rintro k c st1 hk1 hk2 ⟨rfl, B1, S1⟩
  try dsimp only
  have z1 := B1.size
  obtain ⟨q, hq⟩ := Zd (xs := arrOf st1) (i := lo + k) (by omega)
  refine wpS_bind (wpS_mono (wpS_forRange (I := fun y c st' => st' = st1 ∧ ∃ l u, c = (none, l, u) ∧ l ≤ u ∧ u ≤ k ∧ (∀ i x, i < l → (arrOf st1)[lo + i]? = some x → r q x = false) ∧ (∀ i x, u ≤ i → i < k → (arrOf st1)[lo + i]? = some x → r q x = true) ∧ u - l ≤ k - y)
   (Q := fun c st' => st' = st1 ∧ ∃ l u, c = (none, l, u) ∧ l ≤ k ∧ (∀ i x, i < l → (arrOf st1)[lo + i]? = some x → r q x = false) ∧ (∀ i x, l ≤ i → i < k → (arrOf st1)[lo + i]? = some x → r q x = true)) ?_ ?_ ⟨rfl, 0, k, rfl, by omega, by omega, fun i x hi => absurd hi (by omega), fun i x g1 g2 => absurd g2 (by omega), by omega⟩) ?_)
  ·rintro y c st' _ hy ⟨rfl, l, u, rfl, g1, g2, g3, g4, g5⟩
   dsimp only
   by_cases hge : l ≥ u
   ·rw [if_pos hge]
    exact wpS_pure ⟨rfl, l, u, rfl, by omega, g3, fun i x g6 => g4 i x (by omega)⟩
   ·rw [if_neg hge]
    have hm : (l + u) / 2 < u := by omega
    have hm2 : l ≤ (l + u) / 2 := by omega
    generalize (l + u) / 2 = m at hm hm2
    obtain ⟨p, hp⟩ := Zd (xs := arrOf st') (i := lo + m) (by omega)
    refine wpS_bind (ZZ hc B1 hq hp ?_)
    cases hr : r q p with
    | true =>
     refine wpS_pure ⟨rfl, l, m, rfl, hm2, by omega, g3, fun i x g6 g7 hx => ?_, by omega⟩
     exact Zd0 o hr (S1 (lo + m) (lo + i) p x (by omega) (by omega) (by omega) hp hx)
    | false =>
     refine wpS_pure ⟨rfl, m + 1, u, rfl, by omega, g2, fun i x g6 hx => ?_, g4, by omega⟩
     exact o.ntr x p q (S1 (lo + i) (lo + m) x p (by omega) (by omega) (by omega) hx hp) hr
  ·rintro c st' ⟨rfl, l, u, rfl, g1, g2, g3, g4, g5⟩
   rw [Nat.max_eq_right (Nat.zero_le _)] at g5
   exact ⟨rfl, l, u, rfl, by omega, g3, fun i x g6 => g4 i x (by omega)⟩
  rintro c st' ⟨rfl, l, u, rfl, g1, g3, g4⟩
  dsimp only
  refine wpS_bind (Za9 (wpS_pure ⟨rfl, ⟨B1.kind, B1.pend, B1.fail, (bubble_perm _ _ _).trans B1.perm, fun i hi => ?_⟩, S1.put o hq g1 g3 g4⟩))
  show (bubble (arrOf st') (lo + k) (lo + k - (lo + l)))[i]? = _
  rw [getElem?_bubble (by omega) _ (by omega), if_neg (by omega), if_neg (by omega)]
  exact B1.pre i hi
 ·rintro c st1 ⟨rfl, B1, S1⟩
  rw [Nat.max_eq_right hn] at S1
  exact wpS_pure (h st1 B1 S1)
end
end PyProof.Rows.Tim
set_option Elab.async false
set_option linter.all false
set_option maxRecDepth 100000
set_option maxHeartbeats 4000000
namespace PyProof.Rows.Tim
open PySem
def seg (L : List Keyed) (s n : Nat) : List Keyed := (L.drop s).take n
theorem YB {L : List Keyed} {s n i : Nat} (h : i < n) : (seg L s n)[i]? = L[s + i]? := by
 unfold seg
 rw [List.getElem?_take_of_lt h, List.getElem?_drop]
theorem Zay {L : List Keyed} {s n : Nat} (h : s + n ≤ L.length) : (seg L s n).length = n := by
 unfold seg
 rw [List.length_take, List.length_drop]; omega
theorem SI.pw {r : Keyed → Keyed → Bool} {xs : Array Keyed} {lo n : Nat} (h : SI r xs lo (lo + n)) : Pw r (seg xs.toList lo n) := by
 unfold Pw
 rw [List.pairwise_iff_getElem]
 intro i j hi hj hij
 have hn : j < n := by unfold seg at hj; rw [List.length_take] at hj; omega
 have e1 : (seg xs.toList lo n)[i]? = some (seg xs.toList lo n)[i] := List.getElem?_eq_getElem hi
 have e2 : (seg xs.toList lo n)[j]? = some (seg xs.toList lo n)[j] := List.getElem?_eq_getElem hj
 rw [YB (by omega), Array.getElem?_toList] at e1
 rw [YB hn, Array.getElem?_toList] at e2
 exact h (lo + i) (lo + j) _ _ (by omega) (by omega) (by omega) e1 e2
def Runs (r : Keyed → Keyed → Bool) (L : List Keyed) : List (Nat × Nat × Nat) → Nat → Nat → Prop
 | [], p, q => p = q
 | x :: rest, p, q => x.1 = p ∧ 1 ≤ x.2.1 ∧ Pw r (seg L x.1 x.2.1) ∧ Runs r L rest (p + x.2.1) q
section
variable {r : Keyed → Keyed → Bool} {L L' : List Keyed}
theorem Runs.le : ∀ {ps : List (Nat × Nat × Nat)} {p q : Nat}, Runs r L ps p q → p + ps.length ≤ q
 | [], _, _, h => by cases h; exact Nat.le_refl _
 | x :: ps, p, q, h => by
  have := Runs.le h.2.2.2
  have := h.2.1
  rw [List.length_cons]
  omega
theorem Runs.app : ∀ {l1 l2 : List (Nat × Nat × Nat)} {p q : Nat}, Runs r L (l1 ++ l2) p q ↔ ∃ m, Runs r L l1 p m ∧ Runs r L l2 m q
 | [], l2, p, q => ⟨fun h => ⟨p, rfl, h⟩, fun ⟨m, h1, h2⟩ => by cases h1; exact h2⟩
 | x :: l1, l2, p, q => by
  constructor
  ·rintro ⟨h1, h2, h3, h4⟩
   obtain ⟨m, g1, g2⟩ := Runs.app.mp h4
   exact ⟨m, ⟨h1, h2, h3, g1⟩, g2⟩
  ·rintro ⟨m, ⟨h1, h2, h3, g1⟩, g2⟩
   exact ⟨h1, h2, h3, Runs.app.mpr ⟨m, g1, g2⟩⟩
theorem Runs.congr : ∀ {ps : List (Nat × Nat × Nat)} {p q : Nat}, Runs r L ps p q → (∀ s n, p ≤ s → s + n ≤ q → seg L s n = seg L' s n) → Runs r L' ps p q
 | [], _, _, h, _ => h
 | x :: ps, p, q, ⟨h1, h2, h3, h4⟩, e => by
  have := Runs.le h4
  refine ⟨h1, h2, ?_, Runs.congr h4 fun s n g1 g2 => e s n (by omega) g2⟩
  rw [← e x.1 x.2.1 (by omega) (by omega)]
  exact h3
theorem Zax {m s n : Nat} (h : L.take m = L'.take m) (hs : s + n ≤ m) : seg L s n = seg L' s n := by
 have key : ∀ M : List Keyed, seg M s n = seg (M.take m) s n := fun M => by
  unfold seg
  rw [List.drop_take, List.take_take, Nat.min_eq_left (by omega)]
 rw [key L, key L', h]
theorem JL {m s n : Nat} (h : L.drop m = L'.drop m) (hs : m ≤ s) : seg L s n = seg L' s n := by
 have key : ∀ M : List Keyed, seg M s n = ((M.drop m).drop (s - m)).take n := fun M => by
  unfold seg
  rw [List.drop_drop, show m + (s - m) = s by omega]
 rw [key L, key L', h]
theorem ZbB {A B M : List Keyed} {k n : Nat} (o : Ord r) (sA : Pw r A) (sB : Pw r B) (hM : M.Perm (A.drop k ++ B.take n)) (sM : Pw r M) (h1 : ∀ x ∈ A.take k, ∀ y ∈ B, r y x = false) (h2 : ∀ z ∈ A, ∀ w ∈ B.drop n, r w z = false) : Pw r (A.take k ++ (M ++ B.drop n)) := by
 have pa : Pw r (A.take k) := List.Pairwise.sublist (List.take_sublist _ _) sA
 have pb : Pw r (B.drop n) := List.Pairwise.sublist (List.drop_sublist _ _) sB
 have sA' : Pw r (A.take k ++ A.drop k) := by rw [List.take_append_drop]; exact sA
 have sB' : Pw r (B.take n ++ B.drop n) := by rw [List.take_append_drop]; exact sB
 refine List.pairwise_append.mpr ⟨pa, List.pairwise_append.mpr ⟨sM, pb, fun z hz w hw => ?_⟩, fun x hx z hz => ?_⟩
 ·rcases List.mem_append.mp (hM.mem_iff.mp hz) with hz | hz
  ·exact h2 z (List.mem_of_mem_drop hz) w hw
  ·exact (List.pairwise_append.mp sB').2.2 z hz w hw
 ·rcases List.mem_append.mp hz with hz | hz
  ·rcases List.mem_append.mp (hM.mem_iff.mp hz) with hz | hz
   ·exact (List.pairwise_append.mp sA').2.2 x hx z hz
   ·exact h1 x hx z (List.mem_of_mem_take hz)
  ·exact h1 x hx z (List.mem_of_mem_drop hz)
theorem ZaB (off : Nat) : ∀ (M : List Keyed) (j : Nat) (xs : Array Keyed), off + j + M.length ≤ xs.size → ((M.zipIdx j).foldl (fun a x => a.setIfInBounds (off + x.snd) x.fst) xs).toList = xs.toList.take (off + j) ++ (M ++ xs.toList.drop (off + j + M.length))
 | [], j, xs, _ => by
  show xs.toList = _
  rw [List.nil_append, List.length_nil, Nat.add_zero, List.take_append_drop]
 | m :: M, j, xs, h => by
  rw [List.length_cons] at h
  rw [List.zipIdx_cons, List.foldl_cons, ZaB off M (j + 1) _ (by rw [Array.size_setIfInBounds]; omega), Array.toList_setIfInBounds]
  have hl : off + j < xs.toList.length := by rw [Array.length_toList]; omega
  rw [List.drop_set_of_lt (by omega), ← Nat.add_assoc, List.take_add_one, List.take_set_of_le (Nat.le_refl _), List.getElem?_set_self hl]
  rw [List.append_assoc, List.length_cons, show off + j + 1 + M.length = off + j + (M.length + 1) by omega]
  rfl
end
section
variable {prog : Program} {w : World} {A : Around} {E : Value → Shared → Prop} {s : Shared} {κ : SortKind} {a₀ : Array Keyed} {r : Keyed → Keyed → Bool}
theorem ZcX {st st' : SortSt} {Q : PUnit → SortSt → Prop} (h : Q ⟨⟩ st') : wpS (model prog w) A E s (set st' : StateT SortSt Sem PUnit) Q st := by
 unfold wpS
 exact wpAny_pure ⟨rfl, h⟩
theorem ZcY {α : Type} {m : StateT SortSt Sem α} {Q : α → SortSt → Prop} {st : SortSt} (P : SortSt → Prop) (hp : P st) (h : ∀ st0, P st0 → wpS (model prog w) A E s m Q st0) : wpS (model prog w) A E s m Q st := h st hp
theorem Ui {st : SortSt} {i : Nat} {Q : Bool → SortSt → Prop} (o : Ord r) (hc : Cmp prog w A E s κ a₀ r) (hk : kindOf st = κ) (hP : (arrOf st).Perm a₀) (hF : failedOf st = none) {pre post : List (Nat × Nat × Nat)} {sa na pw sb nb pw2 : Nat}
  (hp : (pendingOf st).toList = pre ++ (sa, na, pw) :: (sb, nb, pw2) :: post) (hi : pre.length = i) (sbE : sb = sa + na) (n1 : 1 ≤ na) (n2 : 1 ≤ nb) (hz : sb + nb ≤ a₀.size) (SA : Pw r (seg (arrOf st).toList sa na)) (SB : Pw r (seg (arrOf st).toList sb nb))
  (h : ∀ st', kindOf st' = κ → (arrOf st').Perm a₀ → failedOf st' = none → (pendingOf st').toList = pre ++ (sa, na + nb, pw) :: post → (arrOf st').toList.take sa = (arrOf st).toList.take sa → (arrOf st').toList.drop (sb + nb) = (arrOf st).toList.drop (sb + nb) → Pw r (seg (arrOf st').toList sa (na + nb)) → Q true st') :
  wpS (model prog w) A E s (mergeAt' i) Q st := by
 have hsz : (arrOf st).size = a₀.size := hP.size_eq
 have e1 : (pendingOf st)[i]? = some (sa, na, pw) := by
  rw [← Array.getElem?_toList, hp, ← hi]
  simp
 have e2 : (pendingOf st)[i + 1]? = some (sb, nb, pw2) := by
  rw [← Array.getElem?_toList, hp, ← hi, List.getElem?_append_right (by omega), show pre.length + 1 - pre.length = 1 by omega]
  rfl
 have hpend : (((pendingOf st).setIfInBounds i (sa, na + nb, pw)).eraseIdxIfInBounds (i + 1)).toList = pre ++ (sa, na + nb, pw) :: post := by
  rw [Array.toList_eraseIdxIfInBounds, Array.toList_setIfInBounds, hp, ← hi, List.set_append_right _ _ (Nat.le_refl _), Nat.sub_self, List.set_cons_zero, List.eraseIdx_append_of_length_le (by omega), show pre.length + 1 - pre.length = 1 by omega]
  rfl
 show wpS (model prog w) A E s (_ >>= _) _ _
 obtain ⟨kd, xs, pd, ga, fl⟩ := st
 refine wpS_bind (wpS_get ?_)
 replace e1 : pd[i]? = some (sa, na, pw) := e1
 replace e2 : pd[i + 1]? = some (sb, nb, pw2) := e2
 dsimp only
 rw [e1, e2]
 dsimp only
 refine wpS_bind (ZcX ?_)
 refine ZcY (fun st0 => kindOf st0 = κ ∧ arrOf st0 = xs ∧ (pendingOf st0).toList = pre ++ (sa, na + nb, pw) :: post ∧ failedOf st0 = none) ⟨hk, rfl, hpend, hF⟩ ?_
 rintro st0 ⟨g1, g2, g3, g4⟩
 clear hpend e1 e2
 replace hP : xs.Perm a₀ := hP
 replace hsz : xs.size = a₀.size := hsz
 replace SA : Pw r (seg xs.toList sa na) := SA
 replace SB : Pw r (seg xs.toList sb nb) := SB
 have mm : ∀ {j : Nat} {x : Keyed}, xs[j]? = some x → x ∈ a₀.toList := fun hx => (Array.perm_iff_toList_perm.mp hP).mem_iff.mp (Zs hx)
 have lA : (seg xs.toList sa na).length = na := Zay (by rw [Array.length_toList]; omega)
 have lB : (seg xs.toList sb nb).length = nb := Zay (by rw [Array.length_toList]; omega)
 have atA : ∀ {j : Nat} {x : Keyed}, j < na → xs[sa + j]? = some x → (seg xs.toList sa na)[j]? = some x := fun hj hx => by rw [YB hj, Array.getElem?_toList]; exact hx
 have atB : ∀ {j : Nat} {x : Keyed}, j < nb → xs[sb + j]? = some x → (seg xs.toList sb nb)[j]? = some x := fun hj hx => by rw [YB hj, Array.getElem?_toList]; exact hx
 have atA' : ∀ {j : Nat} {x : Keyed}, (seg xs.toList sa na)[j]? = some x → j < na ∧ xs[sa + j]? = some x := fun {j x} hx => by
  have hj : j < na := by have := (List.getElem?_eq_some_iff.mp hx).1; omega
  exact ⟨hj, by rw [YB hj, Array.getElem?_toList] at hx; exact hx⟩
 have atB' : ∀ {j : Nat} {x : Keyed}, (seg xs.toList sb nb)[j]? = some x → j < nb ∧ xs[sb + j]? = some x := fun {j x} hx => by
  have hj : j < nb := by have := (List.getElem?_eq_some_iff.mp hx).1; omega
  exact ⟨hj, by rw [YB hj, Array.getElem?_toList] at hx; exact hx⟩
 have fin : ∀ (k n : Nat) (M : List Keyed) (st' : SortSt), k ≤ na → n ≤ nb → kindOf st' = κ → failedOf st' = none → (pendingOf st').toList = pre ++ (sa, na + nb, pw) :: post → M.Perm ((seg xs.toList sa na).drop k ++ (seg xs.toList sb nb).take n) → Pw r M →
   (∀ x ∈ (seg xs.toList sa na).take k, ∀ y ∈ seg xs.toList sb nb, r y x = false) → (∀ z ∈ seg xs.toList sa na, ∀ w ∈ (seg xs.toList sb nb).drop n, r w z = false) →
   (arrOf st').toList = xs.toList.take (sa + k) ++ (M ++ xs.toList.drop (sa + k + M.length)) → Q true st' := fun k n M st' hkn hnn f1 f2 f3 f4 f5 f6 f7 f8 => by
  have lM : M.length = (na - k) + n := by
   rw [f4.length_eq, List.length_append, List.length_drop, List.length_take, lA, lB, Nat.min_eq_left hnn]
  have hL : xs.toList.length = a₀.size := by rw [Array.length_toList]; exact hsz
  have eA : xs.toList.take (sa + k) = xs.toList.take sa ++ (seg xs.toList sa na).take k := by
   rw [List.take_add]
   unfold seg
   rw [List.take_take, Nat.min_eq_left hkn]
  have eB : xs.toList.drop (sa + k + M.length) = (seg xs.toList sb nb).drop n ++ xs.toList.drop (sb + nb) := by
   rw [lM, show sa + k + (na - k + n) = sb + n by omega, ← List.drop_drop]
   have : xs.toList.drop sb = seg xs.toList sb nb ++ xs.toList.drop (sb + nb) := by
    unfold seg
    rw [← List.drop_drop, List.take_append_drop]
   rw [this, List.drop_append_of_le_length (by rw [lB]; exact hnn)]
  have eAll : xs.toList = xs.toList.take sa ++ ((seg xs.toList sa na ++ seg xs.toList sb nb) ++ xs.toList.drop (sb + nb)) := by
   have a1 : xs.toList.drop sa = seg xs.toList sa na ++ xs.toList.drop sb := by
    unfold seg
    rw [sbE, ← List.drop_drop, List.take_append_drop]
   have a2 : xs.toList.drop sb = seg xs.toList sb nb ++ xs.toList.drop (sb + nb) := by
    unfold seg
    rw [← List.drop_drop, List.take_append_drop]
   rw [List.append_assoc, ← a2, ← a1, List.take_append_drop]
  have eN : (arrOf st').toList = xs.toList.take sa ++ (((seg xs.toList sa na).take k ++ (M ++ (seg xs.toList sb nb).drop n)) ++ xs.toList.drop (sb + nb)) := by
   rw [f8, eA, eB]
   simp only [List.append_assoc]
  have lX : (xs.toList.take sa).length = sa := by rw [List.length_take]; omega
  have lY : ((seg xs.toList sa na).take k ++ (M ++ (seg xs.toList sb nb).drop n)).length = na + nb := by
   rw [List.length_append, List.length_append, List.length_take, List.length_drop, lA, lB, lM]; omega
  have pY : ((seg xs.toList sa na).take k ++ (M ++ (seg xs.toList sb nb).drop n)).Perm (seg xs.toList sa na ++ seg xs.toList sb nb) := by
   refine List.Perm.trans (List.Perm.append_left _ (List.Perm.append_right _ f4)) ?_
   rw [List.append_assoc, List.take_append_drop, ← List.append_assoc, List.take_append_drop]
  refine h st' f1 ?_ f2 f3 ?_ ?_ ?_
  ·refine Array.perm_iff_toList_perm.mpr (List.Perm.trans ?_ (Array.perm_iff_toList_perm.mp hP))
   rw [eN]
   refine List.Perm.trans (List.Perm.append_left _ (List.Perm.append_right _ pY)) ?_
   rw [← eAll]
  ·rw [eN, List.take_left' lX]
  ·rw [eN, ← List.append_assoc, List.drop_left' (by rw [List.length_append, lX, lY]; omega)]
  ·have : seg (arrOf st').toList sa (na + nb) = (seg xs.toList sa na).take k ++ (M ++ (seg xs.toList sb nb).drop n) := by
    rw [eN]
    show List.take (na + nb) (List.drop sa (xs.toList.take sa ++ (((seg xs.toList sa na).take k ++ (M ++ (seg xs.toList sb nb).drop n)) ++ xs.toList.drop (sb + nb)))) = _
    rw [List.drop_left' lX, List.take_left' lY]
   rw [this]
   exact ZbB o SA SB f4 f5 f6 f7
 obtain ⟨y0, hy0⟩ := Zd (xs := xs) (i := sb) (by omega)
 refine wpS_bind (Zi hy0 ?_)
 have hB0 : ∀ y ∈ seg xs.toList sb nb, r y y0 = false := fun y hy => by
  obtain ⟨j, hj⟩ := List.getElem?_of_mem hy
  exact Z7 o SB (atB (j := 0) (by omega) hy0) hj (Nat.zero_le _)
 refine wpS_bind (ZD hc g1 (fun i => match xs[sa + i]? with | some x => !r y0 x | none => false) (fun i hi => ?_) (mm hy0) (fun i j hij hj hp => ?_) (by omega) fun k kn klo khi => ?_)
 ·obtain ⟨x, hx⟩ := Zd (xs := xs) (i := sa + i) (by omega)
  refine ⟨x, hx, mm hx, ?_⟩
  try dsimp only
  rw [hx]
  rfl
 ·obtain ⟨xj, hxj⟩ := Zd (xs := xs) (i := sa + j) (by omega)
  obtain ⟨xi, hxi⟩ := Zd (xs := xs) (i := sa + i) (by omega)
  try dsimp only at hp ⊢
  rw [hxj] at hp
  rw [hxi]
  rw [Bool.not_eq_true'] at hp ⊢
  exact o.ntr _ _ _ (Z7 o SA (atA (by omega) hxi) (atA (by omega) hxj) hij) hp
 dsimp only
 have low : ∀ x ∈ (seg xs.toList sa na).take k, ∀ y ∈ seg xs.toList sb nb, r y x = false := fun x hx y hy => by
  obtain ⟨j, hj⟩ := List.getElem?_of_mem hx
  have hjk : j < k := by have := (List.getElem?_eq_some_iff.mp hj).1; rw [List.length_take] at this; omega
  rw [List.getElem?_take_of_lt hjk] at hj
  obtain ⟨hj1, hj2⟩ := atA' hj
  have := klo j hjk
  try dsimp only at this
  rw [hj2, Bool.not_eq_true'] at this
  exact o.ntr x y0 y this (hB0 y hy)
 by_cases hz0 : (na - k == 0) = true
 ·rw [if_pos hz0]
  have ek : k = na := by have := beq_iff_eq.mp hz0; omega
  subst ek
  refine wpS_pure (fin k 0 [] st0 (Nat.le_refl _) (Nat.zero_le _) g1 g4 g3 (by rw [List.drop_eq_nil_of_le (by omega)]; exact .refl _) .nil low (fun z hz w hw => ?_) ?_)
  ·exact low z (by rw [List.take_of_length_le (by omega)]; exact hz) w (List.mem_of_mem_drop hw)
  ·rw [g2, List.nil_append, List.length_nil, Nat.add_zero, List.take_append_drop]
 rw [if_neg hz0]
 have hz0' : ¬ (na - k = 0) := fun z => hz0 (beq_iff_eq.mpr z)
 obtain ⟨x0, hx0⟩ := Zd (xs := xs) (i := sa + k + (na - k) - 1) (by omega)
 refine wpS_bind (Zi hx0 ?_)
 have hx0' : xs[sa + (na - 1)]? = some x0 := by rw [← hx0]; congr 1; omega
 have hA0 : ∀ x ∈ seg xs.toList sa na, r x0 x = false := fun x hx => by
  obtain ⟨j, hj⟩ := List.getElem?_of_mem hx
  exact Z7 o SA hj (atA (j := na - 1) (by omega) hx0') (by have := (atA' hj).1; omega)
 refine wpS_bind (ZD hc g1 (fun i => match xs[sb + i]? with | some y => r y x0 | none => false) (fun i hi => ?_) (mm hx0) (fun i j hij hj hp => ?_) (by omega) fun n nn nlo nhi => ?_)
 ·obtain ⟨y, hy⟩ := Zd (xs := xs) (i := sb + i) (by omega)
  refine ⟨y, hy, mm hy, ?_⟩
  try dsimp only
  rw [hy]
  rfl
 ·obtain ⟨yj, hyj⟩ := Zd (xs := xs) (i := sb + j) (by omega)
  obtain ⟨yi, hyi⟩ := Zd (xs := xs) (i := sb + i) (by omega)
  try dsimp only at hp ⊢
  rw [hyj] at hp
  rw [hyi]
  exact Jb o hp (Z7 o SB (atB (by omega) hyi) (atB (by omega) hyj) hij)
 dsimp only
 have high : ∀ z ∈ seg xs.toList sa na, ∀ w ∈ (seg xs.toList sb nb).drop n, r w z = false := fun z hz w hw => by
  obtain ⟨j, hj⟩ := List.getElem?_of_mem hw
  rw [List.getElem?_drop] at hj
  obtain ⟨hj1, hj2⟩ := atB' hj
  have := nhi (n + j) (by omega) hj1
  try dsimp only at this
  rw [hj2] at this
  exact o.ntr z x0 w (hA0 z hz) this
 by_cases hz1 : (n == 0) = true
 ·rw [if_pos hz1]
  have en : n = 0 := beq_iff_eq.mp hz1
  subst en
  refine wpS_pure (fin na 0 [] st0 (Nat.le_refl _) (Nat.zero_le _) g1 g4 g3 (by rw [List.drop_eq_nil_of_le (by omega)]; exact .refl _) .nil (fun x hx y hy => ?_) high ?_)
  ·exact high x (List.mem_of_mem_take hx) y (by rw [List.drop_zero]; exact hy)
  ·rw [g2, List.nil_append, List.length_nil, Nat.add_zero, List.take_append_drop]
 rw [if_neg hz1]
 have hz1' : ¬ (n = 0) := fun z => hz1 (beq_iff_eq.mpr z)
 have xA : (xs.extract (sa + k) sb).toList = (seg xs.toList sa na).drop k := by
  rw [Ju]
  unfold seg
  rw [List.drop_take, List.drop_drop, show sb - (sa + k) = na - k by omega]
 have xB : (xs.extract sb (sb + n)).toList = (seg xs.toList sb nb).take n := by
  rw [Ju, show sb + n - sb = n by omega]
  unfold seg
  rw [List.take_take, Nat.min_eq_left nn]
 have sizeA : (xs.extract (sa + k) sb).size = na - k := by rw [← Array.length_toList, xA, List.length_drop, lA]
 have sizeB : (xs.extract sb (sb + n)).size = n := by rw [← Array.length_toList, xB, List.length_take, lB]; omega
 have C : MCx r (xs.extract (sa + k) sb) (xs.extract sb (sb + n)) := ⟨o, by rw [xA]; exact List.Pairwise.sublist (List.drop_sublist _ _) SA, by rw [xB]; exact List.Pairwise.sublist (List.take_sublist _ _) SB⟩
 have mA : ∀ x ∈ (xs.extract (sa + k) sb).toList, x ∈ a₀.toList := fun x hx => by
  rw [xA] at hx
  obtain ⟨j, hj⟩ := List.getElem?_of_mem (List.mem_of_mem_drop hx)
  exact mm (atA' hj).2
 have mB : ∀ x ∈ (xs.extract sb (sb + n)).toList, x ∈ a₀.toList := fun x hx => by
  rw [xB] at hx
  obtain ⟨j, hj⟩ := List.getElem?_of_mem (List.mem_of_mem_take hx)
  exact mm (atB' hj).2
 have m0 : ∀ y, (xs.extract sb (sb + n))[0]? = some y → ∀ x ∈ (xs.extract (sa + k) sb).toList, r x y = false := fun y hy x hx => by
  have hy1 := Zu hy
  rw [xB, List.getElem?_take_of_lt (by omega), YB (by omega), Nat.add_zero, Array.getElem?_toList, hy0] at hy1
  cases hy1
  rw [xA] at hx
  obtain ⟨j, hj⟩ := List.getElem?_of_mem hx
  rw [List.getElem?_drop] at hj
  obtain ⟨hj1, hj2⟩ := atA' hj
  have := khi (k + j) (by omega) hj1
  try dsimp only at this
  rw [hj2, Bool.not_eq_false'] at this
  exact o.asy _ _ this
 have ml : ∀ x, (xs.extract (sa + k) sb)[(xs.extract (sa + k) sb).size - 1]? = some x → ∀ y ∈ (xs.extract sb (sb + n)).toList, r x y = false := fun x hx y hy => by
  have hx1 := Zu hx
  rw [sizeA, xA, List.getElem?_drop, YB (by omega), Array.getElem?_toList, show sa + (k + (na - k - 1)) = sa + (na - 1) by omega, hx0'] at hx1
  cases hx1
  rw [xB] at hy
  obtain ⟨j, hj⟩ := List.getElem?_of_mem hy
  have hjn : j < n := by have := (List.getElem?_eq_some_iff.mp hj).1; rw [List.length_take] at this; omega
  rw [List.getElem?_take_of_lt hjn] at hj
  obtain ⟨hj1, hj2⟩ := atB' hj
  have := nlo j hjn
  try dsimp only at this
  rw [hj2] at this
  exact o.asy _ _ this
 have done : ∀ (res : Array Keyed) (st1 : SortSt), SG st0 st1 → Good r (xs.extract (sa + k) sb) (xs.extract sb (sb + n)) res → Q true (setArr st1 (List.foldl (fun a x => a.setIfInBounds (sa + k + x.snd) x.fst) (arrOf st1) res.toList.zipIdx)) := fun res st1 sg gd => by
  have p1 := gd.1
  rw [xA, xB] at p1
  have lR : res.toList.length = na - k + n := by rw [p1.length_eq, List.length_append, List.length_drop, List.length_take, lA, lB]; omega
  refine fin k n res.toList _ kn nn (by show kindOf st1 = κ; rw [sg.1]; exact g1) (by show failedOf st1 = none; rw [sg.2.2.2]; exact g4) (by show (pendingOf st1).toList = _; rw [sg.2.2.1]; exact g3) p1 gd.2 low high ?_
  show (List.foldl (fun a x => a.setIfInBounds (sa + k + x.snd) x.fst) (arrOf st1) res.toList.zipIdx).toList = _
  rw [sg.2.1, g2]
  exact ZaB (sa + k) res.toList 0 xs (by rw [lR]; omega)
 by_cases hle : na - k ≤ n
 ·rw [if_pos hle]
  refine wpS_bind (Ug hc g1 C mA mB (by omega) (by omega) m0 ml fun res st1 sg gd => ?_)
  refine wpS_bind (wpS_modify (wpS_bind (wpS_get ?_)))
  have ef : (failedOf (setArr st1 (List.foldl (fun a x => a.setIfInBounds (sa + k + x.snd) x.fst) (arrOf st1) res.toList.zipIdx))).isNone = true := by
   show (failedOf st1).isNone = true
   rw [sg.2.2.2, g4]
   rfl
  rw [ef]
  exact wpS_pure (done res st1 sg gd)
 ·rw [if_neg hle]
  refine wpS_bind (Uh hc g1 C mA mB (by omega) (by omega) m0 ml fun res st1 sg gd => ?_)
  refine wpS_bind (wpS_modify (wpS_bind (wpS_get ?_)))
  have ef : (failedOf (setArr st1 (List.foldl (fun a x => a.setIfInBounds (sa + k + x.snd) x.fst) (arrOf st1) res.toList.zipIdx))).isNone = true := by
   show (failedOf st1).isNone = true
   rw [sg.2.2.2, g4]
   rfl
  rw [ef]
  exact wpS_pure (done res st1 sg gd)
end
end PyProof.Rows.Tim
set_option Elab.async false
set_option linter.all false
set_option maxRecDepth 100000
set_option maxHeartbeats 4000000
namespace PyProof.Rows.Tim
open PySem
section
variable {prog : Program} {w : World} {A : Around} {E : Value → Shared → Prop} {s : Shared} {κ : SortKind} {a₀ : Array Keyed} {r : Keyed → Keyed → Bool}
structure RS (a₀ : Array Keyed) (κ : SortKind) (r : Keyed → Keyed → Bool) (st : SortSt) (lo : Nat) : Prop where
 kind : kindOf st = κ
 perm : (arrOf st).Perm a₀
 fail : failedOf st = none
 runs : Runs r (arrOf st).toList (pendingOf st).toList 0 lo
 le : lo ≤ a₀.size
theorem cut2 {α : Type} {l : List α} {i : Nat} (h : i + 1 < l.length) : ∃ pre a b post, l = pre ++ a :: b :: post ∧ pre.length = i := by
 refine ⟨l.take i, l[i], l[i + 1], l.drop (i + 2), ?_, by rw [List.length_take]; omega⟩
 rw [← List.drop_eq_getElem_cons h, ← List.drop_eq_getElem_cons (by omega), List.take_append_drop]
theorem RS.merge {st : SortSt} {lo i : Nat} {Q : Bool → SortSt → Prop} (o : Ord r) (hc : Cmp prog w A E s κ a₀ r) (R : RS a₀ κ r st lo) (hi : i + 1 < (pendingOf st).size)
  (h : ∀ st', RS a₀ κ r st' lo → (pendingOf st').size + 1 = (pendingOf st).size → (arrOf st').toList.drop lo = (arrOf st).toList.drop lo → Q true st') : wpS (model prog w) A E s (mergeAt' i) Q st := by
 obtain ⟨pre, ⟨sa, na, pw⟩, ⟨sb, nb, pw2⟩, post, hp, hl⟩ := cut2 (l := (pendingOf st).toList) (i := i) (by rw [Array.length_toList]; exact hi)
 have hr := R.runs
 rw [hp] at hr
 obtain ⟨m, h1, h2⟩ := Runs.app.mp hr
 obtain ⟨a1, a2, a3, h3⟩ := h2
 obtain ⟨b1, b2, b3, h4⟩ := h3
 dsimp only at a1 a2 a3 b1 b2 b3 h4
 subst a1
 have l4 := h4.le
 have l1 := h1.le
 have le := R.le
 refine Ui o hc R.kind R.perm R.fail hp hl b1 a2 b2 (by omega) a3 b3 fun st' g1 g2 g3 g4 g5 g6 g7 => ?_
 refine h st' ⟨g1, g2, g3, ?_, le⟩ ?_ ?_
 ·rw [g4]
  refine Runs.app.mpr ⟨sa, h1.congr fun s n q1 q2 => Zax g5.symm q2, rfl, (show 1 ≤ na + nb by omega), g7, ?_⟩
  show Runs r (arrOf st').toList post (sa + (na + nb)) lo
  rw [← Nat.add_assoc]
  exact h4.congr fun s n q1 q2 => JL (m := sb + nb) g6.symm (by omega)
 ·rw [← Array.length_toList, ← Array.length_toList, g4, hp]
  simp only [List.length_append, List.length_cons]
  omega
 ·have key : ∀ M : List Keyed, M.drop lo = (M.drop (sb + nb)).drop (lo - (sb + nb)) := fun M => by
   rw [List.drop_drop]
   congr 1
   omega
  rw [key, key (arrOf st).toList, g6]
theorem RS.push {st : SortSt} {lo n : Nat} (R : RS a₀ κ r st lo) (n1 : 1 ≤ n) (hz : lo + n ≤ a₀.size) (S : Pw r (seg (arrOf st).toList lo n)) : RS a₀ κ r (setPending st ((pendingOf st).push (lo, n, 0))) (lo + n) := by
 refine ⟨R.kind, R.perm, R.fail, ?_, hz⟩
 show Runs r (arrOf st).toList ((pendingOf st).push (lo, n, 0)).toList 0 (lo + n)
 rw [Array.toList_push]
 exact Runs.app.mpr ⟨lo, R.runs, rfl, n1, S, rfl⟩
theorem Up {L : List Keyed} {pw : Nat} : ∀ {ps : List (Nat × Nat × Nat)} {i p q : Nat}, Runs r L ps p q → Runs r L (ps.modify i fun x => (x.fst, x.2.fst, pw)) p q
 | [], i, p, q, h => by rw [List.modify_nil]; exact h
 | x :: ps, 0, p, q, h => by
  rw [List.modify_zero_cons]
  exact h
 | x :: ps, i + 1, p, q, ⟨h1, h2, h3, h4⟩ => by
  rw [List.modify_succ_cons]
  exact ⟨h1, h2, h3, Up h4⟩
theorem RS.pow {st : SortSt} {lo i pw : Nat} (R : RS a₀ κ r st lo) : RS a₀ κ r (setPending st ((pendingOf st).modify i fun x => (x.fst, x.2.fst, pw))) lo := by
 refine ⟨R.kind, R.perm, R.fail, ?_, R.le⟩
 show Runs r (arrOf st).toList ((pendingOf st).modify i fun x => (x.fst, x.2.fst, pw)).toList 0 lo
 rw [Array.toList_modify]
 exact Up R.runs
theorem ZbV {xs ys : Array Keyed} {lo : Nat} (h : ∀ k, k < lo → xs[k]? = ys[k]?) : xs.toList.take lo = ys.toList.take lo := by
 refine List.ext_getElem? fun k => ?_
 by_cases hk : k < lo
 ·rw [List.getElem?_take_of_lt hk, List.getElem?_take_of_lt hk, Array.getElem?_toList, Array.getElem?_toList]
  exact h k hk
 ·rw [List.getElem?_eq_none (by rw [List.length_take]; omega), List.getElem?_eq_none (by rw [List.length_take]; omega)]
theorem CB.rs {st st' : SortSt} {lo : Nat} (R : RS a₀ κ r st lo) (B : CB a₀ κ lo st st') : RS a₀ κ r st' lo := by
 refine ⟨B.kind, B.perm, B.fail.trans R.fail, ?_, R.le⟩
 rw [B.pend]
 exact R.runs.congr fun s n q1 q2 => Zax (ZbV fun k hk => (B.pre k hk).symm) q2
theorem Wm {st : SortSt} {Q : Unit → SortSt → Prop} (o : Ord r) (hc : Cmp prog w A E s κ a₀ r) (h2 : 2 ≤ a₀.size) (k0 : kindOf st = κ) (p0 : (arrOf st).Perm a₀) (f0 : failedOf st = none) (e0 : pendingOf st = #[])
  (h : ∀ st', (arrOf st').Perm a₀ → failedOf st' = none → Pw r (arrOf st').toList → Q () st') : wpS (model prog w) A E s sortRuns' Q st := by
 rw [sortRuns'_eq]
 dsimp only
 refine wpS_bind (wpS_get ?_)
 have z0 : (arrOf st).size = a₀.size := p0.size_eq
 rw [z0]
 generalize minRun' a₀.size a₀.size 0 = mr
 refine wpS_bind (wpS_mono (wpS_forRange (I := fun x c st1 => ∃ lo, c = (none, lo) ∧ RS a₀ κ r st1 lo ∧ x ≤ lo) (Q := fun c st1 => c = (none, a₀.size) ∧ RS a₀ κ r st1 a₀.size) ?step ?fin ⟨0, rfl, ⟨k0, p0, f0, by rw [e0]; exact rfl, Nat.zero_le _⟩, Nat.le_refl _⟩) ?post)
 case fin =>
  rintro c st1 ⟨lo, rfl, R, hx⟩
  rw [Nat.max_eq_right (Nat.zero_le _)] at hx
  have := R.le
  obtain rfl : lo = a₀.size := by omega
  exact ⟨rfl, R⟩
 case step =>
  rintro x c st1 _ hx ⟨lo, rfl, R1, hxl⟩
  dsimp only
  by_cases hge : lo ≥ a₀.size
  ·rw [if_pos hge]
   have := R1.le
   obtain rfl : lo = a₀.size := by omega
   exact wpS_pure ⟨rfl, R1⟩
  rw [if_neg hge]
  refine wpS_bind (Wn o hc (st := st1) ⟨R1.kind, rfl, rfl, R1.perm, fun _ _ => rfl⟩ (by omega) (by omega) fun found st2 B2 f1 f2 S => ?_)
  dsimp only
  by_cases hlt : found < mr
  ·rw [if_pos hlt]
   refine wpS_bind (wpS_lift (wpAny_rule ⟨rfl, ?_⟩))
   have hfn : found ≤ min (a₀.size - lo) mr := by omega
   have hfz : min (a₀.size - lo) mr ≤ a₀.size - lo := by omega
   generalize min (a₀.size - lo) mr = n at hfn hfz
   refine wpS_bind (Jy o hc B2 f1 hfn (by omega) S fun st3 B3 S3 => ?_)
   rw [if_neg (by decide)]
   have R2 := CB.rs R1 B3
   have S2 := S3.pw
   have n1 : 1 ≤ n := by omega
   clear S3 B3 B2 S
   clear st2
   revert R2 S2
   generalize st3 = st2
   intro R2 S2
   refine wpS_bind (wpS_get ?_)
   cases hb : (pendingOf st2).back? with
   | none =>
    try dsimp only
    exact wpS_bind (wpS_modify (wpS_pure ⟨_, rfl, R2.push n1 (by omega) S2, by omega⟩))
   | some z =>
    obtain ⟨s1, m1, p1⟩ := z
    try dsimp only
    refine wpS_bind (wpS_mono (wpS_forRange (I := fun _ c st' => c = (none, ()) ∧ RS a₀ κ r st' lo ∧ (arrOf st').toList.drop lo = (arrOf st2).toList.drop lo) (Q := fun c st' => c = (none, ()) ∧ RS a₀ κ r st' lo ∧ (arrOf st').toList.drop lo = (arrOf st2).toList.drop lo) ?_ (fun c st' hh => hh) ⟨rfl, R2, rfl⟩) ?_)
    ·rintro y c st' _ _ ⟨rfl, R, hd⟩
     refine wpS_bind (wpS_get ?_)
     by_cases hs : (pendingOf st').size > 1
     ·rw [if_pos hs]
      cases hq : (pendingOf st')[(pendingOf st').size - 2]? with
      | none => exact wpS_pure ⟨rfl, R, hd⟩
      | some z =>
       obtain ⟨z1, z2, older⟩ := z
       dsimp only
       split
       ·exact wpS_pure ⟨rfl, R, hd⟩
       ·refine wpS_bind (R.merge o hc (by omega) fun st'' R'' _ hd'' => ?_)
        rw [if_neg (by decide)]
        exact wpS_pure ⟨rfl, R'', hd''.trans hd⟩
     ·rw [if_neg hs]
      exact wpS_pure ⟨rfl, R, hd⟩
    rintro c st' ⟨rfl, R, hd⟩
    dsimp only
    refine wpS_bind (wpS_modify (wpS_bind (wpS_modify (wpS_pure ⟨_, rfl, R.pow.push n1 (by omega) ?_, by omega⟩))))
    show Pw r (seg (arrOf st').toList lo _)
    rw [JL (L' := (arrOf st2).toList) hd (Nat.le_refl _)]
    exact S2
  ·rw [if_neg hlt]
   have R2 := CB.rs R1 B2
   have S2 := S.pw
   have n1 := f1
   clear S B2
   clear R1
   refine wpS_bind (wpS_get ?_)
   cases hb : (pendingOf st2).back? with
   | none =>
    try dsimp only
    exact wpS_bind (wpS_modify (wpS_pure ⟨_, rfl, R2.push n1 (by omega) S2, by omega⟩))
   | some z =>
    obtain ⟨s1, m1, p1⟩ := z
    try dsimp only
    refine wpS_bind (wpS_mono (wpS_forRange (I := fun _ c st' => c = (none, ()) ∧ RS a₀ κ r st' lo ∧ (arrOf st').toList.drop lo = (arrOf st2).toList.drop lo) (Q := fun c st' => c = (none, ()) ∧ RS a₀ κ r st' lo ∧ (arrOf st').toList.drop lo = (arrOf st2).toList.drop lo) ?_ (fun c st' hh => hh) ⟨rfl, R2, rfl⟩) ?_)
    ·rintro y c st' _ _ ⟨rfl, R, hd⟩
     refine wpS_bind (wpS_get ?_)
     by_cases hs : (pendingOf st').size > 1
     ·rw [if_pos hs]
      cases hq : (pendingOf st')[(pendingOf st').size - 2]? with
      | none => exact wpS_pure ⟨rfl, R, hd⟩
      | some z =>
       obtain ⟨z1, z2, older⟩ := z
       dsimp only
       split
       ·exact wpS_pure ⟨rfl, R, hd⟩
       ·refine wpS_bind (R.merge o hc (by omega) fun st'' R'' _ hd'' => ?_)
        rw [if_neg (by decide)]
        exact wpS_pure ⟨rfl, R'', hd''.trans hd⟩
     ·rw [if_neg hs]
      exact wpS_pure ⟨rfl, R, hd⟩
    rintro c st' ⟨rfl, R, hd⟩
    dsimp only
    refine wpS_bind (wpS_modify (wpS_bind (wpS_modify (wpS_pure ⟨_, rfl, R.pow.push n1 (by omega) ?_, by omega⟩))))
    show Pw r (seg (arrOf st').toList lo _)
    rw [JL (L' := (arrOf st2).toList) hd (Nat.le_refl _)]
    exact S2
 case post =>
  rintro c st1 ⟨rfl, R1⟩
  dsimp only
  refine wpS_bind (wpS_mono (wpS_forRange (I := fun x c st' => c = (none, ()) ∧ RS a₀ κ r st' a₀.size ∧ (pendingOf st').size + x ≤ a₀.size) (Q := fun c st' => c = (none, ()) ∧ RS a₀ κ r st' a₀.size ∧ (pendingOf st').size ≤ 1) ?_ ?_ ⟨rfl, R1, by have := R1.runs.le; rw [Array.length_toList] at this; omega⟩) ?_)
  ·rintro x c st' _ _ ⟨rfl, R, hx⟩
   refine wpS_bind (wpS_get ?_)
   by_cases hs : (pendingOf st').size ≤ 1
   ·rw [if_pos hs]
    exact wpS_pure ⟨rfl, R, hs⟩
   rw [if_neg hs]
   have idx : ∀ c : Prop, ∀ _ : Decidable c, (if c then (pendingOf st').size - 2 - 1 else (pendingOf st').size - 2) + 1 < (pendingOf st').size := fun c _ => by split <;> omega
   refine wpS_bind (R.merge o hc (idx _ _) fun st'' R'' z'' _ => ?_)
   rw [if_neg (by decide)]
   exact wpS_pure ⟨rfl, R'', by omega⟩
  ·rintro c st' ⟨rfl, R, hx⟩
   rw [Nat.max_eq_right (Nat.zero_le _)] at hx
   exact ⟨rfl, R, by omega⟩
  rintro c st' ⟨rfl, R, hs⟩
  refine wpS_pure (h st' R.perm R.fail ?_)
  have hr := R.runs
  have hl : (pendingOf st').toList.length ≤ 1 := by rw [Array.length_toList]; exact hs
  match hp : (pendingOf st').toList, hl with
  | [], _ =>
   rw [hp] at hr
   have : 0 = a₀.size := hr
   omega
  | [x], _ =>
   rw [hp] at hr
   obtain ⟨q1, q2, q3, q4⟩ := hr
   have q4' : 0 + x.2.1 = a₀.size := q4
   rw [q1] at q3
   have : seg (arrOf st').toList 0 x.2.1 = (arrOf st').toList := by
    unfold seg
    rw [List.drop_zero, List.take_of_length_le (by rw [Array.length_toList, R.perm.size_eq]; omega)]
   rw [this] at q3
   exact q3
  | _ :: _ :: _, h => simp at h
end
end PyProof.Rows.Tim
set_option Elab.async false
set_option linter.all false
set_option maxRecDepth 100000
set_option maxHeartbeats 4000000
namespace PyProof.Rows.Tim
open PySem PySem.W
section
variable {prog : Program} {w : World} {A : Around} {E : Value → Shared → Prop} {s : Shared} {κ : SortKind} {r : Keyed → Keyed → Bool}
def Asks (prog : Program) (w : World) (A : Around) (E : Value → Shared → Prop) (κ : SortKind) (r : Keyed → Keyed → Bool) (a : Addr) (h : Heap) (vs : List Value) : Prop :=
 ∀ s6 : Shared, (∀ b o, b ≠ a → h.get? b = some o → s6.heap.get? b = some o) → (2 ≤ vs.length → ∀ Q : SortKind → Shared → Prop, Q κ s6 → wpAny (model prog w) A (keyKind' vs.toArray) Q E s6) ∧ Cmp prog w A E s6 κ (pairsOf vs) r
theorem UH (o : Ord r) {a : Addr} {vs : List Value} {n : Nat} {P : PySem.Fin → Shared → Prop} (ho : s.heap.get? a = some (seqObj "list" vs.toArray n)) (hc : Asks prog w A E κ r a s.heap vs) (hz : vs.length ≤ 1000)
  (h : ∀ xs : Array Keyed, xs.Perm (pairsOf vs) → Pw r xs.toList → P (.done (.ret .none)) { s with heap := sortedHeap s.heap a vs (xs.map (·.2)) }) :
  wpAny (model prog w) A (Builtin.«list.sort» ⟨[.ref a], []⟩) P E s := by
 rw [list_sort_plain]
 have ha : a < s.heap.objs.size := Heap.lt_size ho
 have hszl : vs.toArray.size ≤ sizeLine := by rw [List.size_toArray, sizeLine_eq]; omega
 refine wpAny_bind (listItems_at ho rfl ?_)
 refine wpAny_bind (listUpdate_at ho rfl ?_ hszl)
 obtain ⟨e1, ho1⟩ : ∃ e1, (s.heap.update a (Obj.mapSeq fun _ => #[])).get? a = some (seqObj "list" #[] e1) := ⟨_, get?_update_seq ho (fun _ => #[])⟩
 refine wpAny_bind (seqEpoch_at ho1 rfl ?_)
 refine wpAny_bind (wpAny_newTuple ?_ (by simpa using hszl))
 refine wpAny_bind (wpAny_newList ?_)
 refine wpAny_holding ?_
 have ho6 : (((s.heap.update a (Obj.mapSeq fun _ => #[])).push (seqObj "tuple" vs.toArray 0)).push (seqObj "list" #[] 0)).get? a = some (seqObj "list" #[] e1) := by
  rw [Heap.get?_push_ne _ _ _ (by rw [size_push', Heap.size_update]; exact Nat.ne_of_lt (Nat.lt_succ_of_lt ha)), Heap.get?_push_ne _ _ _ (by rw [Heap.size_update]; exact Nat.ne_of_lt ha)]
  exact ho1
 show wpAny (model prog w) A _ P E { s with heap := ((s.heap.update a (Obj.mapSeq fun _ => #[])).push (seqObj "tuple" vs.toArray 0)).push (seqObj "list" #[] 0) }
 dsimp only
 have keep : ∀ b o, b ≠ a → s.heap.get? b = some o → ((((s.heap.update a (Obj.mapSeq fun _ => #[])).push (seqObj "tuple" vs.toArray 0)).push (seqObj "list" #[] 0))).get? b = some o := fun b ob hb e =>
  Heap.get?_push_of_some _ (Heap.get?_push_of_some _ (by rw [Heap.get?_update_ne _ _ _ _ hb]; exact e))
 obtain ⟨hk, hcm⟩ := hc { s with heap := ((s.heap.update a (Obj.mapSeq fun _ => #[])).push (seqObj "tuple" vs.toArray 0)).push (seqObj "list" #[] 0) } keep
 have hsz : vs.toArray.size = vs.length := by simp
 by_cases h2 : vs.toArray.size < 2
 ·rw [if_pos h2, if_pos h2]
  refine wpAny_bind (wpAny_pure ?_)
  rw [StateT.run_pure]
  refine wpAny_bind (wpAny_pure ?_)
  dsimp only
  refine wpAny_bind (seqEpoch_at ho6 rfl ?_)
  refine wpAny_bind (listUpdate_at ho6 rfl ?_ (hsz2 := by rw [Array.size_map]; show (pairsOf vs).size ≤ _; rw [pairsOf_size, sizeLine_eq]; omega))
  simp only [bne_self_eq_false, Bool.false_eq_true, if_false]
  refine wpAny_pure (h (pairsOf vs) (Array.Perm.refl _) ?_)
  have hl : (pairsOf vs).toList.length < 2 := by rw [Array.length_toList, pairsOf_size]; omega
  match (pairsOf vs).toList, hl with
  | [], _ => exact .nil
  | [x], _ => exact List.pairwise_singleton _ _
  | _ :: _ :: _, h => exact absurd h (by simp)
 ·rw [if_neg h2, if_neg h2]
  refine wpAny_bind (hk (by omega) _ ?_)
  refine wpAny_bind (wpAny_mono (Wm (κ := κ) (r := r) (a₀ := pairsOf vs) (st := SortSt.mk' κ (vs.toArray.zip vs.toArray) #[] 7 none)
   (Q := fun _ st' => (arrOf st').Perm (pairsOf vs) ∧ failedOf st' = none ∧ Pw r (arrOf st').toList) o hcm (by rw [pairsOf_size]; omega) rfl (Array.Perm.refl _) rfl rfl fun st' a1 a2 a3 => ⟨a1, a2, a3⟩) ?_ fun _ _ e => e)
  rintro ⟨⟨⟩, st'⟩ s' ⟨rfl, hp, hf, hs⟩
  dsimp only
  refine wpAny_bind (seqEpoch_at ho6 rfl ?_)
  refine wpAny_bind (listUpdate_at ho6 rfl ?_ (hsz2 := by refine Nat.le_trans (Nat.le_of_eq ((Array.size_map ..).trans (hp.size_eq.trans (pairsOf_size _)))) ?_; rw [sizeLine_eq]; omega))
  rw [hf]
  simp only [bne_self_eq_false, Bool.false_eq_true, if_false]
  exact wpAny_pure (h _ hp hs)
theorem ZbW (o : Ord r) {l : Addr} {vs : List Value} {Q : Value → Shared → Prop} (hl : s.heap.IsList l vs.toArray) (hc : ∀ h' a, (∀ b ob, s.heap.get? b = some ob → h'.get? b = some ob) → (∀ b ob, s.heap.get? b = some ob → b ≠ a) → Asks prog w A.in1.in1 (fun _ _ => False) κ r a h' vs) (hz : vs.length ≤ 1000)
  (h : ∀ xs : Array Keyed, xs.Perm (pairsOf vs) → Pw r xs.toList → Q (.ref (s.heap.objs.size + 1)) { s with heap := sortedAll s.heap vs (xs.map (·.2)) }) :
  wpAny (model prog w) A (call (.builtin "sorted") [.ref l]) Q E s := by
 have hszl : vs.length ≤ sizeLine := by rw [sizeLine_eq]; omega
 refine Calls.call_function_entry kind_sorted plain_sorted entry_sorted (args_sorted1 _) ?_
 unfold Builtin.«sorted»
 refine wpAny_bind (m := checkCount "sorted" 1 1 _) (wpAny_pure ?_)
 refine wpAny_bind (collect_list hl ?_ hszl)
 refine wpAny_bind (wpAny_newList ?_ hszl)
 have hsz : ((s.heap.push (seqObj "list" #[] 0)).update s.heap.objs.size (Obj.mapSeq (· ++ vs.toArray))).objs.size = s.heap.objs.size + 1 := by
  rw [Heap.size_update, size_push']
 have hoL : (((s.heap.push (seqObj "list" #[] 0)).update s.heap.objs.size (Obj.mapSeq (· ++ vs.toArray))).push (seqObj "list" vs.toArray 0)).get? (s.heap.objs.size + 1) = some (seqObj "list" vs.toArray 0) := by
  rw [← hsz]; exact Heap.get?_push_size _ rfl
 show wpAny _ _ _ _ _ { s with heap := ((s.heap.push (seqObj "list" #[] 0)).update s.heap.objs.size (Obj.mapSeq (· ++ vs.toArray))).push (seqObj "list" vs.toArray 0) }
 rw [hsz]
 have asks := hc (((s.heap.push (seqObj "list" #[] 0)).update s.heap.objs.size (Obj.mapSeq (· ++ vs.toArray))).push (seqObj "list" vs.toArray 0)) (s.heap.objs.size + 1)
  (fun b ob e => Heap.get?_push_of_some _ (by rw [Heap.get?_update_ne _ _ _ _ (Nat.ne_of_lt (Heap.lt_size e))]; exact Heap.get?_push_of_some _ e)) (fun b ob e => Nat.ne_of_lt (Nat.lt_succ_of_lt (Heap.lt_size e)))
 have asksE : Asks prog w A.in1.in1 E κ r (s.heap.objs.size + 1) (((s.heap.push (seqObj "list" #[] 0)).update s.heap.objs.size (Obj.mapSeq (· ++ vs.toArray))).push (seqObj "list" vs.toArray 0)) vs := fun s6 h6 => by
  obtain ⟨q1, q2⟩ := asks s6 h6
  refine ⟨fun g Q hq => wpAny_mono (q1 g Q hq) (fun _ _ x => x) fun _ _ x => x.elim, fun x y st Q m1 m2 hk hq => ?_⟩
  exact wpAny_mono (q2 x y st Q m1 m2 hk hq) (fun _ _ x => x) fun _ _ x => x.elim
 refine wpAny_bind (wpAny_holding (wpAny_call_entry slot_list_sort ⟨_, hoL, rfl⟩ entry_list_sort (UH o hoL asksE hz fun xs a1 a2 => ⟨_, rfl, ?_⟩) (args_list_sort _)))
 exact wpAny_pure ⟨_, rfl, h xs a1 a2⟩
end
def lexB : List Int → List Int → Bool
 | [], [] => false
 | [], _ :: _ => true
 | _ :: _, [] => false
 | a :: l, b :: m => if a = b then lexB l m else decide (a < b)
theorem UK : ∀ x y, lexB x y = true → lexB y x = false
 | [], [], h => by cases h
 | [], _ :: _, _ => rfl
 | _ :: _, [], h => by cases h
 | a :: l, b :: m, h => by
  unfold lexB at h ⊢
  by_cases e : a = b
  ·rw [if_pos e] at h
   rw [if_pos e.symm]
   exact UK l m h
  ·rw [if_neg e] at h
   rw [if_neg (Ne.symm e)]
   have := of_decide_eq_true h
   exact decide_eq_false (by omega)
theorem UJ : ∀ x y z, lexB y x = false → lexB z y = false → lexB z x = false
 | [], [], [], _, _ => rfl
 | [], [], _ :: _, _, _ => rfl
 | [], _ :: _, [], _, h => by cases h
 | [], _ :: _, _ :: _, _, _ => rfl
 | _ :: _, [], _, h, _ => by cases h
 | _ :: _, _ :: _, [], _, h => by cases h
 | a :: l, b :: m, c :: n, h1, h2 => by
  unfold lexB at h1 h2 ⊢
  by_cases e1 : b = a
  ·rw [if_pos e1] at h1
   by_cases e2 : c = b
   ·rw [if_pos e2] at h2
    rw [if_pos (e2.trans e1)]
    exact UJ l m n h1 h2
   ·rw [if_neg e2] at h2
    have := of_decide_eq_false h2
    rw [if_neg (by omega)]
    exact decide_eq_false (by omega)
  ·rw [if_neg e1] at h1
   have q1 := of_decide_eq_false h1
   by_cases e2 : c = b
   ·rw [if_neg (by omega)]
    exact decide_eq_false (by omega)
   ·rw [if_neg e2] at h2
    have q2 := of_decide_eq_false h2
    rw [if_neg (by omega)]
    exact decide_eq_false (by omega)
theorem ZaQ : ∀ x y, lexB x y = false → lexB y x = false → x = y
 | [], [], _, _ => rfl
 | [], _ :: _, h, _ => by cases h
 | _ :: _, [], _, h => by cases h
 | a :: l, b :: m, h1, h2 => by
  unfold lexB at h1 h2
  by_cases e : a = b
  ·rw [if_pos e] at h1
   rw [if_pos e.symm] at h2
   rw [e, ZaQ l m h1 h2]
  ·rw [if_neg e] at h1
   rw [if_neg (Ne.symm e)] at h2
   have q1 := of_decide_eq_false h1
   have q2 := of_decide_eq_false h2
   omega
theorem Zc8 (key : Value → List Int) : Ord fun x y : Keyed => lexB (key x.1) (key y.1) := ⟨fun _ _ => UK _ _, fun _ _ _ => UJ _ _ _⟩
section
variable {prog : Program} {w : World} {A : Around} {s : Shared} {b : Bool} {Q : Bool → Shared → Prop}
theorem Zdb {c : Bool} {x y : Int} {t u : Tok} (h : Q (decide (x < y)) s) : wpAny (model prog w) A (oneLt' c (.int x t) (.int y u)) Q (fun _ _ => False) s := by
 cases c with
 | true => exact oneLt_int h
 | false => exact kat_one _ _ (lt_int (Q := PySem.W.BoolBack Q) h)
theorem UN {fin : Bool} : ∀ {us vs : List Value} {xs ys : List Int} {i : Nat}, IntsAre us xs → IntsAre vs ys → fin = decide (xs.length < ys.length) → Q (lexB xs ys) s → KatLex prog w A b fin Q (us.zip vs) i s
 | _, _, _, _, i, .nil, .nil, hf, h => by
  subst hf
  exact h
 | _, _, _, _, i, .nil, .cons _ _ _, hf, h => by
  subst hf
  exact h
 | _, _, _, _, i, .cons _ _ _, .nil, hf, h => by
  subst hf
  exact h
 | _, _, _, _, i, .cons x t ix, .cons y u iy, hf, h => by
  rw [List.zip_cons_cons]
  refine kat_cons (SeqAt.EqAt.int_int (A := A) (s := s) x t y u _ _ _ _ ?_)
  unfold lexB at h
  by_cases e : x = y
  ·rw [if_pos e] at h
   rw [beq_iff_eq.mpr e]
   exact kat_yes (UN ix iy (by rw [hf]; exact decide_eq_decide.mpr (by simp only [List.length_cons]; omega)) h)
  ·rw [if_neg e] at h
   rw [beq_eq_false_iff_ne.mpr e]
   exact kat_no (Zdb h)
end
end PyProof.Rows.Tim
set_option Elab.async false
set_option linter.all false
set_option maxRecDepth 100000
set_option maxHeartbeats 40000000
namespace L2
open PySem PySem.Spec PyProof.Rows PyProof.Rows.Tim
def TpAt (H : Hp) (v : V) (k : List Int) : Prop := ∃ t : Addr, v = .ref t ∧ H t = some (.tup (k.map V.int))
theorem TpAt.same {H H' : Hp} {v : V} {k : List Int} (h : TpAt H v k) (s : Same H H') : TpAt H' v k := by
 obtain ⟨t, e, h1⟩ := h
 exact ⟨t, e, s _ _ h1⟩
def keyAt (h : Heap) : Value → List Int
 | .ref t => match h.get? t with
  | some o => match o.data with
   | .seq its _ => its.toList.map numOf
   | _ => []
  | none => []
 | _ => []
theorem Jd {h : Heap} {t : Addr} {o : Obj} {its : Array Value} {n : Nat} {k : List Int} (e : h.get? t = some o) (d : o.data = .seq its n) (i : IntsAre its.toList k) : keyAt h (.ref t) = k := by
 unfold keyAt
 dsimp only
 rw [e]
 dsimp only
 rw [d]
 dsimp only
 clear d e
 generalize its.toList = us at i
 induction i with
 | nil => rfl
 | cons x t _ ih => rw [List.map_cons, ih]; rfl
def toV : Value → V
 | .ref t => .ref t
 | _ => .non
def TupI (h : Heap) (u : Value) (k : List Int) : Prop := ∃ (t : Addr) (o : Obj) (its : Array Value) (n : Nat), u = .ref t ∧ h.get? t = some o ∧ o.cls = .type "tuple" ∧ o.data = .seq its n ∧ IntsAre its.toList k
theorem TupI.keep {h h' : Heap} {u : Value} {k : List Int} {a : Addr} (x : TupI h u k) (kp : ∀ b o, b ≠ a → h.get? b = some o → h'.get? b = some o) (na : ∀ b o, h.get? b = some o → b ≠ a) : TupI h' u k := by
 obtain ⟨t, o, its, n, e, g, c, d, i⟩ := x
 exact ⟨t, o, its, n, e, kp t o (na t o g) g, c, d, i⟩
theorem Wy {h : Heap} : ∀ {us : List Value} {ks : List (List Int)}, Paired (TupI h) us ks → (∀ k ∈ ks, k ≠ []) → ∃ fs, PySem.W.KatTups h us fs ∧ fs.length = us.length ∧ ∀ f ∈ fs, ∃ n t, f = .int n t
 | _, _, .nil, _ => ⟨[], .nil, rfl, fun f hf => by cases hf⟩
 | _, _, .cons (a := u) (b := k) ⟨t, o, its, n, e, g, c, d, i⟩ r, hk => by
  obtain ⟨fs, h1, h2, h3⟩ := Wy r fun k hk' => hk k (List.mem_cons_of_mem _ hk')
  subst e
  cases k with
  | nil => exact absurd rfl (hk _ List.mem_cons_self)
  | cons x xs =>
   have : ∃ tk us, its.toList = .int x tk :: us := by
    cases hh : its.toList with
    | nil => rw [hh] at i; cases i
    | cons a b => rw [hh] at i; cases i with | cons x t r => exact ⟨_, _, rfl⟩
   obtain ⟨tk, us, eq⟩ := this
   refine ⟨.int x tk :: fs, .cons g c d (by rw [← Array.getElem?_toList, eq]; rfl) h1, by rw [List.length_cons, List.length_cons, h2], fun f hf => ?_⟩
   rcases List.mem_cons.mp hf with rfl | hf
   ·exact ⟨_, _, rfl⟩
   ·exact h3 f hf
theorem Yw {α β : Type} {R : α → β → Prop} : ∀ {xs : List α} {ys : List β} {x : α}, Paired R xs ys → x ∈ xs → ∃ y ∈ ys, R x y
 | _, _, _, .cons h r, m => by
  rcases List.mem_cons.mp m with rfl | m
  ·exact ⟨_, List.mem_cons_self, h⟩
  ·obtain ⟨y, hy, q⟩ := Yw r m
   exact ⟨y, List.mem_cons_of_mem _ hy, q⟩
theorem YY {α β : Type} {R : α → β → Prop} {f : α → β} : ∀ {xs : List α} {ys : List β}, Paired R xs ys → (∀ x y, R x y → f x = y) → xs.map f = ys
 | _, _, .nil, _ => rfl
 | _, _, .cons h r, e => by rw [List.map_cons, e _ _ h, YY r e]
theorem Jq {vs : List Value} {p : Keyed} (h : p ∈ (pairsOf vs).toList) : p.1 ∈ vs ∧ p.2 = p.1 := by
 unfold pairsOf at h
 rw [Array.toList_zip, List.toList_toArray] at h
 have : ∀ (l : List Value), p ∈ l.zip l → p.1 ∈ l ∧ p.2 = p.1 := fun l => by
  induction l with
  | nil => intro h; cases h
  | cons a l ih =>
   intro h
   rw [List.zip_cons_cons] at h
   rcases List.mem_cons.mp h with rfl | h
   ·exact ⟨List.mem_cons_self, rfl⟩
   ·exact ⟨List.mem_cons_of_mem _ (ih h).1, (ih h).2⟩
 exact this vs h
section
variable {X : Cx}
theorem Jk : CallR X (.builtin "sorted") (fun xs H Q => ∃ (p : Addr) (vs : List V) (ks : List (List Int)), xs = [.ref p] ∧ SqL X.K H p vs ∧ Paired (TpAt H) vs ks ∧ (∀ k ∈ ks, k ≠ []) ∧ vs.length ≤ 1000 ∧
  ∀ (q : Addr) (vs' : List V) (ks' : List (List Int)), H q = none → ks'.Perm ks → ks'.Pairwise (fun a b => lexB b a = false) → Paired (TpAt H) vs' ks' → Q (.ref q) (upd H q (.lst vs'))) := by
 intro pins s σ H xs us Q I r h
 obtain ⟨p, vs, ks, rfl, hp, pr, hne, hz, q⟩ := h
 obtain ⟨u, rfl, ru⟩ := vals1 r
 cases ru
 obtain ⟨its, rv, pl, _⟩ := I.list hp
 have hl := rv.length
 have key : ∀ {vs : List V} {ks : List (List Int)} {its : List Value}, Paired (TpAt H) vs ks → Vals vs its → Paired (fun u k => TupI s.heap u k ∧ TpAt H (toV u) k) its ks := by
  intro vs ks its pr
  induction pr generalizing its with
  | nil => intro rv; cases rv; exact .nil
  | cons hh _ ih =>
   intro rv
   cases rv with
   | cons r1 r2 =>
    refine .cons ?_ (ih r2)
    obtain ⟨t, rfl, ht⟩ := hh
    cases r1
    obtain ⟨items, ri, ⟨o, go, oc, n, od⟩, _⟩ := I.tuple (SqT.of ht)
    exact ⟨⟨t, o, _, n, rfl, go, oc, od, by simpa using Wd ri⟩, t, rfl, ht⟩
 have tp := key pr rv
 have tu : Paired (TupI s.heap) its ks := Paired.mapP tp fun _ _ h => h.1
 have ek : its.map (keyAt s.heap) = ks := YY tu fun u k ⟨t, o, it, n, e, g, _, d, i⟩ => by rw [e]; exact Jd g d i
 refine ZbW (κ := tuples' true) (r := fun x y => lexB (keyAt s.heap x.1) (keyAt s.heap y.1)) (Zc8 _) pl.isList (fun h' a kp na s6 h6 => ?_) (by omega) fun xs hxp hxs => ?_
 ·have tu6 : Paired (TupI s6.heap) its ks := Paired.mapP tu fun u k x => x.keep (a := a) (fun b o hb e => h6 b o hb (kp b o e)) na
  refine ⟨fun h2 Q' hq => ?_, fun x y st Q' mx my hk hq => ?_⟩
  ·obtain ⟨fs, kt, kl, kf⟩ := Wy tu6 hne
   refine PySem.W.kat_kind (T := .type "int") kt (by omega) (fun v hv => ?_) (by rfl) hq
   obtain ⟨n, t, rfl⟩ := kf v hv
   exact PySem.W.Looks.of_pure rfl
  ·rw [lt'_eq]
   refine wpS_bind (wpS_get ?_)
   rw [hk]
   obtain ⟨mx1, _⟩ := Jq mx
   obtain ⟨my1, _⟩ := Jq my
   obtain ⟨kx, _, tx, ox, ix, nx, ex, gx, cx, dx, jx⟩ := Yw tu mx1
   obtain ⟨ky, _, ty, oy, iy, ny, ey, gy, cy, dy, jy⟩ := Yw tu my1
   have e1 : keyAt s.heap x.1 = kx := by rw [ex]; exact Jd gx dx jx
   have e2 : keyAt s.heap y.1 = ky := by rw [ey]; exact Jd gy dy jy
   dsimp only at hq
   rw [e1, e2] at hq
   rw [ex, ey]
   refine wpS_bind (wpS_lift (wpAny_attempt (PySem.W.kat_lt (h6 _ _ (na _ _ gx) (kp _ _ gx)) dx (h6 _ _ (na _ _ gy) (kp _ _ gy)) dy (UN jx jy ?_ ⟨rfl, ?_⟩))))
   ·have l1 := jx.length
    have l2 := jy.length
    rw [Array.length_toList] at l1 l2
    rw [l1, l2]
   ·exact wpS_pure hq
 ·have hmem : ∀ pq ∈ xs.toList, pq.1 ∈ its ∧ pq.2 = pq.1 := fun pq hpq => Jq ((Array.perm_iff_toList_perm.mp hxp).mem_iff.mp hpq)
  have eo : (xs.map (·.2)).toList = xs.toList.map (·.1) := by
   rw [Array.toList_map]
   exact List.map_congr_left fun pq hpq => (hmem pq hpq).2
  have po : (xs.toList.map (·.1)).Perm its := by
   refine List.Perm.trans ((Array.perm_iff_toList_perm.mp hxp).map _) ?_
   unfold pairsOf
   rw [Array.toList_zip, List.toList_toArray]
   have : ∀ l : List Value, (l.zip l).map (·.1) = l := fun l => by
    induction l with
    | nil => rfl
    | cons a l ih => rw [List.zip_cons_cons, List.map_cons, ih]
   rw [this]
  generalize hout : xs.map (·.2) = out at eo
  have rel : ∀ u ∈ out.toList, ∃ k, TpAt H (toV u) k ∧ keyAt s.heap u = k ∧ RelV (toV u) u := fun u hu => by
   rw [eo] at hu
   obtain ⟨k, _, ⟨t, o, it, n, e, g, _, d, i⟩, hT⟩ := Yw tp (po.mem_iff.mp hu)
   subst e
   exact ⟨k, hT, Jd g d i, rfl⟩
  have vals : ∀ l : List Value, (∀ u ∈ l, ∃ k, TpAt H (toV u) k ∧ keyAt s.heap u = k ∧ RelV (toV u) u) → Vals (l.map toV) l ∧ Paired (TpAt H) (l.map toV) (l.map (keyAt s.heap)) := fun l => by
   induction l with
   | nil => intro _; exact ⟨.nil, .nil⟩
   | cons u l ih =>
    intro hl
    obtain ⟨i1, i2⟩ := ih fun v hv => hl v (List.mem_cons_of_mem _ hv)
    obtain ⟨k, a1, a2, a3⟩ := hl u List.mem_cons_self
    exact ⟨.cons a3 i1, .cons (by rw [a2]; exact a1) i2⟩
  obtain ⟨v1, v2⟩ := vals out.toList rel
  obtain ⟨e, he⟩ := sortedAll_at s.heap its out
  have lo : out.toList.length = its.length := by rw [eo]; exact po.length_eq
  have hlen : (out.toList.map toV).length ≤ sizeLine := by rw [List.length_map, lo, sizeLine_eq]; omega
  refine ⟨.ref (s.heap.objs.size + 1), _, I.laid (t' := s.toks) (a := s.heap.objs.size + 1) (o := .lst (out.toList.map toV)) (fun b o => sortedAll_old) (Nat.le_succ _) ⟨hlen, out.toList, e, v1, by simpa using he⟩, rfl, q _ _ (out.toList.map (keyAt s.heap)) (I.hok.fresh (Nat.le_succ _)) ?_ ?_ v2⟩
  ·rw [← ek, eo]
   exact po.map _
  ·rw [eo, List.map_map, List.pairwise_map]
   exact hxs
end
end L2
set_option Elab.async false
set_option linter.all false
set_option maxRecDepth 100000
set_option maxHeartbeats 40000000
namespace L2
open PySem PySem.Spec PyProof.Rows PyProof.Rows.Tim
abbrev I4 := Int × Int × Int × Int
end L2
set_option Elab.async false
set_option linter.all false
set_option maxRecDepth 100000
set_option maxHeartbeats 40000000
namespace PyProof.Rows.Tim
open PySem
end PyProof.Rows.Tim
namespace L2
open PySem PySem.Spec PyProof.Rows PyProof.Rows.Tim
end L2
set_option Elab.async false
set_option linter.all false
set_option maxRecDepth 100000
namespace L2
open PySem PySem.Spec PyProof.Rows
end L2
set_option Elab.async false
set_option linter.all false
set_option maxRecDepth 100000
set_option maxHeartbeats 4000000
namespace L2
open PySem PySem.Spec PyProof.Rows SeqAt
section
variable {X : Cx}
theorem Zcb : OpR X (compareOp .Is) (fun x y H Q => ∃ a b : Bool, x = .bl a ∧ y = .bl b ∧ Q (.bl (a == b)) H) := by
 intro pins s σ H x y u v Q I rx ry h
 obtain ⟨a, b, rfl, rfl, q⟩ := h
 cases rx
 cases ry
 refine wpAny_is_plain rfl ⟨.bl _, H, I, ?_, q⟩
 show Value.bool (Value.bool a == Value.bool b) = Value.bool (a == b)
 cases a <;> cases b <;> rfl
end
end L2
set_option Elab.async false
set_option linter.all false
set_option maxRecDepth 100000
namespace U
open PySem L2 PyProof.Rows
def ScrAt (K : PySem.W.Frag) (H : Hp) (a : Addr) (ns : List Int) : Prop := (∃ o, H a = some (.frz o (.lst (ns.map V.int)))) ∨ ∃ (o : Obj) (its : Array Value) (n : Nat), K.lookup a = some o ∧ o.cls = .type "list" ∧ o.dict = none ∧ o.data = .seq its n ∧ its.size ≤ sizeLine ∧ Vals (ns.map V.int) its.toList
theorem ScrAt.sq {K : PySem.W.Frag} {H : Hp} {a : Addr} {ns : List Int} (h : ScrAt K H a ns) : SqL K H a (ns.map V.int) := by
 rcases h with ⟨o, h⟩ | h
 ·exact .inl (.inr ⟨o, h⟩)
 ·exact .inr h
theorem ScrAt.same {K : PySem.W.Frag} {H H' : Hp} {a : Addr} {ns : List Int} (h : ScrAt K H a ns) (s : Same H H') : ScrAt K H' a ns := by
 rcases h with ⟨o, h⟩ | h
 ·exact .inl ⟨o, s _ _ h⟩
 ·exact .inr h
theorem ScrAt.x {K : PySem.W.Frag} {H H' : Hp} {a p : Addr} {ns : List Int} {o : HO} (h : ScrAt K H a ns) (s : SameX p H H') (hp : H p = some o) (hn : ∀ ob u, o ≠ .frz ob u) : ScrAt K H' a ns := by
 rcases h with ⟨ob, h⟩ | h
 ·exact .inl ⟨ob, s _ _ h fun z => by rw [z, hp] at h; cases h; exact hn _ _ rfl⟩
 ·exact .inr h
end U
set_option Elab.async false
set_option linter.all false
set_option maxRecDepth 100000
namespace U
open PySem L2 PyProof.Rows PySem.Spec
def BmAt (mg : Str → Option Value) (h : Heap) : Prop := ∃ bm ob, mg "__builtins__" = some (.ref bm) ∧ bm ≠ builtinsNs ∧ h.get? bm = some ob ∧ ob.cls = .type "module" ∧ ob.dict = some builtinsNs ∧ ob.data = .plain
theorem Zal {P : Program} {w : World} {K : PySem.W.Frag} {mg mb : Str → Option Value} {k : Nat} {fa a : Addr} {Pts : List Addr} {fd : FuncData} {x : Str} {sp : Sp} {s₁ : Shared} {vs : List Value} {ns : List Int}
  (KX : K.In s₁.heap) (hns : s₁.heap.Ns mainGlobals mg) (hb : s₁.heap.Ns builtinsNs mb) (hbb : ∀ x : Str, x ≠ "__name__" → mb x = bootBuiltins x) (hlim : s₁.heap.NoLimit) (hg : s₁.gens = #[])
  (ha : s₁.heap.get? a = some { cls := .type "list", data := .seq vs.toArray }) (hi : IntsAre vs ns) (hl : ns.length ≤ sizeLine) (hr : Room k callerA)
  (hTs : ∀ Pt ∈ Pts, s₁.heap.get? Pt = some (PySem.W.tabObj #[])) (hCs : ∀ Pt ∈ Pts, ∃ c, PySem.W.CodeHd s₁.heap c Pt) (hKPs : ∀ Pt ∈ Pts, K.lookup Pt = none) (hbm : BmAt mg s₁.heap)
  (F : ∀ base : Heap, K.In base → base.Ns mainGlobals mg → BmAt mg base → FnOk P w K mg base CX0 k fa fd [x] sp) (hbind : ∀ (s : Shared) (u : Value), BindsTo s fd ⟨[u], []⟩ [(x, u)])
  (hsp : ∀ H : Hp, ScrAt K H a ns → (∀ Pt ∈ Pts, H Pt = some (.tbl #[])) → sp [.ref a] H (fun v _ => v = .bl true) fun _ _ _ => False) :
  codeAny (model P w) callerA (.call (.ref fa) ⟨[.ref a], []⟩) (fun r s' => r = .ok (.ret (.bool true)) ∧ OldK s₁.heap s'.heap ∧ s'.os = s₁.os ∧ AllBare s'.gens) s₁ := by
 have rv := Ww hi
 have lenV := hi.length
 have hT' : ∀ {Pt : Addr}, Pt ∈ Pts → s₁.heap.get? Pt = some { cls := .none, data := .fields #[] } := fun h => hTs _ h
 have hPa : a ∉ Pts := fun z => by have h := hT' z; rw [ha] at h; cases h
 have core : ∀ H : Hp, (∀ b, b ∉ Pts → H b = none ∨ ∃ o xs, H b = some (.frz o (.lst xs))) → ScrAt K H a ns → (∀ Pt ∈ Pts, H Pt = some (.tbl #[])) → HOk P w H s₁.heap → (∀ b, H b ≠ none → b = a ∨ b ∈ Pts) → (H a ≠ none → K.lookup a = none) →
   codeAny (model P w) callerA (.call (.ref fa) ⟨[.ref a], []⟩) (fun r s' => r = .ok (.ret (.bool true)) ∧ OldK s₁.heap s'.heap ∧ s'.os = s₁.os ∧ AllBare s'.gens) s₁ := by
  intro H hO hS hP hok hA hK
  have base_of : ∀ {b : Addr} {o : Obj}, s₁.heap.get? b = some o → H b = none → (hidT s₁.heap H).get? b = some o := fun e n => US e n
  have noA : ∀ {b : Addr} {o : Obj}, s₁.heap.get? b = some o → (∀ vs n, o.data ≠ .seq vs n) → (∀ ps, o.data ≠ .fields ps) → H b = none := fun {b o} e d1 d2 => by
   cases q : H b with
   | none => rfl
   | some u =>
    rcases hA b (by rw [q]; simp) with e' | e'
    ·subst e'
     rw [ha] at e; cases e
     exact absurd rfl (d1 _ _)
    ·rw [hT' e'] at e; cases e
     exact absurd rfl (d2 _)
  have nsK : ∀ {b : Addr} {m : Str → Option Value}, s₁.heap.Ns b m → (hidT s₁.heap H).Ns b m := fun {b m} ⟨o, es, ep, e, d, r⟩ => ⟨o, es, ep, base_of e (noA e (fun _ _ z => by rw [d] at z; cases z) fun _ z => by rw [d] at z; cases z), d, r⟩
  have hKb : K.In (hidT s₁.heap H) := fun b o e => base_of (KX b o e) (by
   cases q : H b with
   | none => rfl
   | some u =>
    rcases hA b (by rw [q]; simp) with e' | e'
    ·subst e'
     rw [hK (by rw [q]; simp)] at e; cases e
    ·rw [hKPs _ e'] at e; cases e)
  have hM : Mod K mg (hidT s₁.heap H) := ⟨hKb, nsK hns, ⟨mb, nsK hb, hbb⟩, let ⟨mc, h1, h2⟩ := hlim; ⟨mc, nsK h1, h2⟩⟩
  have hbm' : BmAt mg (hidT s₁.heap H) := let ⟨bm, ob, b1, b2, b3, b4, b5, b6⟩ := hbm; ⟨bm, ob, b1, b2, base_of b3 (noA b3 (fun _ _ z => by rw [b6] at z; cases z) fun _ z => by rw [b6] at z; cases z), b4, b5, b6⟩
  have e0 : Env0 P w K mg (hidT s₁.heap H) callerA [] s₁ H := ⟨rfl, hM, fun b o e => ZaL e, Nat.le_of_eq (WK _ _), trivial, fun b hb => absurd (show b ∈ ([] : List Addr) from hb) (by simp), hok, .of_eq hg⟩
  refine codeAny_mono ((F _ hKb (nsK hns) hbm').run callerA [] s₁ H ⟨[.ref a], []⟩ [.ref a] [.ref a] _ _ hr e0 (hbind s₁ (.ref a)) (.cons rfl .nil) (hsp H hS hP)) fun r s' h => ?_
  cases r with
  | error e => exact False.elim h
  | ok fl =>
   cases fl with
   | next => exact False.elim h
   | brk => exact False.elim h
   | cont => exact False.elim h
   | ret u =>
    obtain ⟨v, H', os, bare, un, hok', r', q⟩ := h
    have q' : v = .bl true := q
    subst q'
    obtain rfl : u = Value.bool true := r'
    have old : ∀ b o, s₁.heap.get? b = some o → asItWas s₁.heap s'.heap b o := fun b o e => by
     cases q : H b with
     | none => exact .inl (un.keep b o e q (by intro z; exact absurd (show b ∈ ([] : List Addr) from z) (by simp)) (by simp))
     | some u =>
      by_cases hbP : b ∈ Pts
      ·obtain ⟨more, z⟩ := un.tbls b _ (hP b hbP)
       have e2 : s'.heap.get? b = some { cls := .none, data := .fields (#[] ++ more) } := hok' b _ z
       rw [hT' hbP] at e
       cases e
       obtain ⟨c, hC⟩ := hCs b hbP
       exact .inr (.inl ⟨(hC.tab (hTs b hbP)).isCodeTable, rfl, #[], more, rfl, e2⟩)
      ·rcases hO b hbP with z | ⟨ob, xs, z⟩
       ·rw [q] at z; cases z
       ·have z2 := un.frzs b ob _ z
        obtain ⟨e1, _⟩ := hok b _ z
        obtain ⟨e2, _⟩ := hok' b _ z2
        rw [e] at e1; cases e1
        exact .inl e2
    exact ⟨rfl, ⟨old, fun b o e => un.there b o e (by simp)⟩, os, bare⟩
 cases hk : K.lookup a with
 | some o =>
  have e := KX a o hk
  rw [ha] at e
  cases e
  refine core (fun b => if b ∈ Pts then some (.tbl #[]) else none) (fun b n => .inl (if_neg n)) (.inr ⟨_, vs.toArray, _, hk, rfl, rfl, rfl, by rw [List.size_toArray, lenV]; exact hl, by simpa using rv⟩) (fun Pt h => if_pos h) (fun b u z => ?_) (fun b z => ?_) fun z => absurd (if_neg hPa) z
  ·by_cases hb : b ∈ Pts
   ·have z' := (if_pos hb).symm.trans z
    cases z'
    exact hT' hb
   ·have z' := (if_neg hb).symm.trans z
    cases z'
  ·by_cases hb : b ∈ Pts
   ·exact .inr hb
   ·exact absurd (if_neg hb) z
 | none =>
  refine core (fun b => if b ∈ Pts then some (.tbl #[]) else if b = a then some (.frz { cls := .type "list", data := .seq vs.toArray } (.lst (ns.map V.int))) else none) (fun b n => ?_) (.inl ⟨{ cls := .type "list", data := .seq vs.toArray }, (if_neg hPa).trans (if_pos rfl)⟩) (fun Pt h => if_pos h) (fun b u z => ?_) (fun b z => ?_) fun _ => hk
  ·by_cases hb : b = a
   ·exact .inr ⟨_, _, (if_neg n).trans (if_pos hb)⟩
   ·exact .inl ((if_neg n).trans (if_neg hb))
  ·by_cases hP : b ∈ Pts
   ·have z' := (if_pos hP).symm.trans z
    cases z'
    exact hT' hP
   ·by_cases hb : b = a
    ·have z' := ((if_neg hP).trans (if_pos hb)).symm.trans z
     cases z'
     subst hb
     exact ⟨ha, by rw [List.length_map]; exact hl, vs, _, rv, ha⟩
    ·have z' := ((if_neg hP).trans (if_neg hb)).symm.trans z
     cases z'
  ·by_cases hP : b ∈ Pts
   ·exact .inr hP
   ·by_cases hb : b = a
    ·exact .inl hb
    ·exact absurd ((if_neg hP).trans (if_neg hb)) z
theorem walk_ofTs {l : PySem.W.OpenLaw} {n k : Nat} {q : Program} {loose : List Str} {XP : (Str → Option Value) → Heap → Prop} {YP : World → Heap → Prop} {d : DefRec} {K : Params → PySem.W.Frag} {sp : PySem.W.Frag → Sp} {x : Str} {Pts : List Addr}
    (hn : l.most = some n) (hn2 : n ≤ sizeLine) (hdf : d.params.defaults = []) (hr : Room k callerA)
    (hY : ∀ (w : World) (h : Heap), YP w h → (K w.params).In h) (hYT : ∀ (w : World) (h : Heap), YP w h → ∀ Pt ∈ Pts, h.get? Pt = some (PySem.W.tabObj #[]))
    (hC : ∀ (w : World) (h : Heap), (K w.params).In h → ∀ Pt ∈ Pts, ∃ c, PySem.W.CodeHd h c Pt) (hKP : ∀ w : World, ∀ Pt ∈ Pts, (K w.params).lookup Pt = none)
    (F : ∀ (w : World) (mg : Str → Option Value) (fa : Addr) (h : Heap), (K w.params).In h → h.Ns mainGlobals mg → mg d.name = some (.ref fa) →
      ∃ fd : FuncData, (∀ (s : Shared) (u : Value), BindsTo s fd ⟨[u], []⟩ [(x, u)]) ∧
        ∀ base : Heap, (K w.params).In base → base.Ns mainGlobals mg → BmAt mg base → FnOk l.prog w (K w.params) mg base CX0 k fa fd [x] (sp (K w.params)))
    (hsp : ∀ (K : PySem.W.Frag) (H : Hp) (a : Addr) (ns : List Int), ns.length ≤ n → ScrAt K H a ns → (∀ Pt ∈ Pts, H Pt = some (.tbl #[])) → sp K [.ref a] H (fun v _ => v = .bl true) fun _ _ _ => False) :
    PySem.W.WalkO q loose XP YP l.row.toRowW d [] (fun f vs => PySem.call f vs) := by
  refine Att.attach_call hn hdf fun w s₀ s₁ mg mb fa o pm cd doc a vs ns G Y ho hd hcd hmg hobj hints hlen hg => ?_
  have KX := hY w _ Y
  obtain ⟨fd, hb, hF⟩ := F w mg fa _ KX G.T.g hmg
  exact Zal KX G.T.g G.T.b G.T.builtins G.T.nolimit hg hobj hints (Nat.le_trans hlen hn2) hr (hYT w _ Y) (hC w _ KX) (hKP w) G.T.bmain hF hb (fun H hS hP => hsp (K w.params) H a ns hlen hS hP)
end U
set_option Elab.async false
set_option linter.all false
set_option maxRecDepth 100000
namespace U
open PySem L2 PyProof.Rows PySem.Spec
def DefAt (K : PySem.W.Frag) (x : Str) (st : Stmt) : Prop := ∃ f fd, PySem.W.nsIn K mainGlobals x = some (some (.ref f)) ∧ Fun K x x st f fd
theorem defAt_mk {K : PySem.W.Frag} {x : Str} {st : Stmt} {f : Addr} {oc : Value} {od an : Option Addr} {osl : Array (Option Value)} {kV doc pm cdv ct : Value} (e1 : PySem.W.nsIn K mainGlobals x = some (some (.ref f)))
  (e2 : K.lookup f = some ⟨oc, od, .func (PySem.W.fnOf x x (defArgs st) (defBody st) (defScope st) .none kV doc pm an cdv ct), osl⟩) (e3 : PySem.W.codeIn K cdv x = true) (e4 : PySem.W.keepIn K (.ref f) = true) : DefAt K x st := ⟨f, _, e1, Zd7 e2 e3 e4⟩
section
variable {P : Program} {w : World} {K : PySem.W.Frag} {mg : Str → Option Value} {base : Heap}
abbrev BindsAs (x : Str) (st : Stmt) (ps : List Str) : Prop := ∀ (kV doc pm : Value) (an : Option Addr) (cdv ct : Value) (us : List Value), us.length = ps.length → bindArgs (PySem.W.fnOf x x (defArgs st) (defBody st) (defScope st) .none kV doc pm an cdv ct) ⟨us, []⟩ = pure (ps.zip us)
theorem DefAt.to {h : Heap} {x : Str} {st : Stmt} {ps : List Str} {k : Nat} {sp : Sp} (d : DefAt K x st) (KX : K.In h) (G : h.Ns mainGlobals mg) (hb : BindsAs x st ps) (ok : ∀ f fd, Fun K x x st f fd → FnOk P w K mg base CX0 k f fd ps sp) : Def P w K mg base k x ps sp := by
 obtain ⟨f, fd, e, F⟩ := d
 exact ⟨f, fd, ok f fd F, PySem.W.mg_of KX G e, F.kp, F.binds hb⟩
theorem DefAt.toR {h : Heap} {x : Str} {st : Stmt} {ps : List Str} {k : Nat} {sp : Sp} (d : DefAt K x st) (KX : K.In h) (G : h.Ns mainGlobals mg) (hb : BindsAs x st ps) (ok : ∀ f fd, Fun K x x st f fd → FnOk P w K mg base (CXR P w) k f fd ps sp) : DefR P w K mg base k x ps sp := by
 obtain ⟨f, fd, e, F⟩ := d
 exact ⟨f, fd, ok f fd F, PySem.W.mg_of KX G e, F.kp, F.binds hb⟩
def noneAt (K : PySem.W.Frag) (x : Str) : Bool := match PySem.W.nsIn K mainGlobals x with | some none => true | _ => false
theorem Zbu {h : Heap} {x : Str} (KX : K.In h) (G : h.Ns mainGlobals mg) (e : noneAt K x = true) : mg x = none := by
 unfold noneAt at e
 split at e
 ·rename_i q
  exact PySem.W.mg_none_of KX G q
 ·cases e
abbrev Binds1 (x a : Str) (st : Stmt) : Prop := ∀ (kV doc pm : Value) (an : Option Addr) (cdv ct u : Value), bindArgs (PySem.W.fnOf x x (defArgs st) (defBody st) (defScope st) .none kV doc pm an cdv ct) ⟨[u], []⟩ = pure [(a, u)]
theorem b1 {x a : Str} {st : Stmt} (h : Binds1 x a st) : BindsAs x st [a] := fun kV doc pm an cdv ct us hl => match us, hl with | [u], _ => h kV doc pm an cdv ct u
theorem b2 {x a b : Str} {st : Stmt} (h : ∀ (kV doc pm : Value) (an : Option Addr) (cdv ct u v : Value), bindArgs (PySem.W.fnOf x x (defArgs st) (defBody st) (defScope st) .none kV doc pm an cdv ct) ⟨[u, v], []⟩ = pure [(a, u), (b, v)]) : BindsAs x st [a, b] := fun kV doc pm an cdv ct us hl => match us, hl with | [u, v], _ => h kV doc pm an cdv ct u v
theorem b3 {x a b c : Str} {st : Stmt} (h : ∀ (kV doc pm : Value) (an : Option Addr) (cdv ct u v w : Value), bindArgs (PySem.W.fnOf x x (defArgs st) (defBody st) (defScope st) .none kV doc pm an cdv ct) ⟨[u, v, w], []⟩ = pure [(a, u), (b, v), (c, w)]) : BindsAs x st [a, b, c] := fun kV doc pm an cdv ct us hl => match us, hl with | [u, v, w], _ => h kV doc pm an cdv ct u v w
end
end U
set_option Elab.async false
set_option linter.all false
set_option maxRecDepth 100000
set_option maxHeartbeats 4000000
namespace HS
open PySem PySem.SetTable
abbrev Ris (l : List Nat) : Prop := l.Pairwise (· < ·)
theorem Zb3 {xs : Array Nat} (hr : Ris xs.toList) {i k : Nat} (hi : i < xs.size) (hk : k < xs.size) (h : i < k) : xs[i] < xs[k] := by
 have := List.pairwise_iff_getElem.mp hr i k (by simpa using hi) (by simpa using hk) h
 simpa using this
theorem Zb2 {xs : Array Nat} (hr : Ris xs.toList) {i k : Nat} (hi : i < xs.size) (hk : k < xs.size) (h : i ≤ k) : xs[i] ≤ xs[k] := by
 rcases Nat.lt_or_eq_of_le h with h | h
 ·exact Nat.le_of_lt (Zb3 hr hi hk h)
 ·subst h; exact Nat.le_refl _
theorem Wj {xs : Array Nat} {j : Nat} (hr : Ris xs.toList) : ∀ (fuel lo hi : Nat), hi ≤ xs.size → lo ≤ hi → hi - lo ≤ fuel → (∀ i (h : i < xs.size), i < lo → xs[i] < j) → (∀ i (h : i < xs.size), hi ≤ i → j ≤ xs[i]) →
  below.go xs j fuel lo hi ≤ xs.size ∧ (∀ i (h : i < xs.size), i < below.go xs j fuel lo hi → xs[i] < j) ∧ (∀ i (h : i < xs.size), below.go xs j fuel lo hi ≤ i → j ≤ xs[i])
 | 0, lo, hi, h1, h2, h3, h4, h5 => by
  have e : lo = hi := by omega
  subst e
  exact ⟨h1, h4, h5⟩
 | fuel + 1, lo, hi, h1, h2, h3, h4, h5 => by
  unfold below.go
  by_cases hlt : lo < hi
  ·rw [if_pos hlt]
   dsimp only
   have hm : (lo + hi) / 2 < xs.size := by omega
   have e : xs.getD ((lo + hi) / 2) j = xs[(lo + hi) / 2] := by
    unfold Array.getD
    rw [dif_pos hm]
    rfl
   rw [e]
   by_cases hc : xs[(lo + hi) / 2] < j
   ·rw [if_pos hc]
    refine Wj hr fuel _ hi h1 (by omega) (by omega) (fun i h hi' => ?_) h5
    exact Nat.lt_of_le_of_lt (Zb2 hr h hm (by omega)) hc
   ·rw [if_neg hc]
    refine Wj hr fuel lo _ (by omega) (by omega) (by omega) h4 (fun i h hi' => ?_)
    exact Nat.le_trans (Nat.le_of_not_lt hc) (Zb2 hr hm h hi')
  ·rw [if_neg hlt]
   have e : lo = hi := by omega
   subst e
   exact ⟨h1, h4, h5⟩
theorem Y5 {xs : Array Nat} {j : Nat} (hr : Ris xs.toList) : below xs j ≤ xs.size ∧ (∀ i (h : i < xs.size), i < below xs j → xs[i] < j) ∧ (∀ i (h : i < xs.size), below xs j ≤ i → j ≤ xs[i]) :=
 Wj hr _ _ _ (Nat.le_refl _) (Nat.zero_le _) (by omega) (fun i h z => absurd z (Nat.not_lt_zero _)) (fun i h z => by omega)
theorem YK {xs : Array Nat} {i j : Nat} (hr : Ris xs.toList) (h : xs[i]? = some j) : below xs j = i := by
 obtain ⟨hi, e⟩ := Array.getElem?_eq_some_iff.mp h
 obtain ⟨h1, h2, h3⟩ := Y5 (j := j) hr
 rcases Nat.lt_trichotomy (below xs j) i with q | q | q
 ·have a := h3 (below xs j) (by omega) (Nat.le_refl _)
  have b := Zb3 hr (by omega) hi q
  omega
 ·exact q
 ·have := h2 i hi q
  omega
theorem WA {t : SetTable} {i j : Nat} (hr : Ris t.place.toList) (h : t.place[i]? = some j) : t.slot j = .live i := by
 unfold slot
 rw [YK hr h]
 dsimp only
 rw [h, if_pos (by simp)]
theorem U9 {t : SetTable} {j : Nat} (hd : t.dummies = #[]) (h : j ∉ t.place.toList) : t.slot j = .empty := by
 unfold slot
 dsimp only
 have h1 : ¬ (t.place[below t.place j]? == some j) = true := by
  intro z
  have z' := eq_of_beq z
  obtain ⟨hi, e⟩ := Array.getElem?_eq_some_iff.mp z'
  exact h (by rw [← e]; simp)
 have h2 : ¬ has t.dummies j = true := by
  rw [hd]
  unfold has
  simp
 rw [if_neg h1, if_neg h2]
theorem ZdZ {xs : Array Nat} {j : Nat} (h : j ∈ xs.toList) : ∃ i : Nat, xs[i]? = some j := by
 obtain ⟨i, hi, e⟩ := List.getElem_of_mem h
 exact ⟨i, by rw [← Array.getElem?_toList, List.getElem?_eq_getElem hi, e]⟩
theorem Zec {xs : Array Nat} {i j : Nat} (h : xs[i]? = some j) : j ∈ xs.toList := by
 rw [← Array.getElem?_toList] at h
 exact List.mem_of_getElem? h
theorem WC {t : SetTable} {j : Nat} : (t.put j).1.place.toList = t.place.toList.take (below t.place j) ++ j :: t.place.toList.drop (below t.place j) := by
 unfold put
 exact toList_insertAt _ _ _
theorem Zc2 {t : SetTable} {j : Nat} (hr : Ris t.place.toList) (h : j ∉ t.place.toList) : Ris (t.put j).1.place.toList := by
 rw [WC]
 obtain ⟨h1, h2, h3⟩ := Y5 (j := j) hr
 generalize below t.place j = p at *
 have a : ∀ x ∈ t.place.toList.take p, x < j := fun x hx => by
  obtain ⟨i, hi, e⟩ := List.getElem_of_mem hx
  rw [List.length_take] at hi
  rw [List.getElem_take] at e
  rw [← e]
  have := h2 i (by simp at hi; omega) (by omega)
  simpa using this
 have b : ∀ x ∈ t.place.toList.drop p, j < x := fun x hx => by
  obtain ⟨i, hi, e⟩ := List.getElem_of_mem hx
  rw [List.length_drop] at hi
  rw [List.getElem_drop] at e
  have := h3 (p + i) (by simp at hi; omega) (by omega)
  have e' : t.place[p + i]'(by simp at hi; omega) = x := by simpa using e
  rw [e'] at this
  rcases Nat.lt_or_eq_of_le this with q | q
  ·exact q
  ·exact absurd (List.mem_of_mem_drop hx) (by rw [← q]; exact h)
 refine List.pairwise_append.mpr ?_
 refine ⟨hr.sublist (List.take_sublist ..), List.pairwise_cons.mpr ⟨b, hr.sublist (List.drop_sublist ..)⟩, fun x hx y hy => ?_⟩
 rcases List.mem_cons.mp hy with rfl | hy
 ·exact a x hx
 ·exact Nat.lt_trans (a x hx) (b y hy)
abbrev tb (m : Nat) : SetTable := { mask := m, place := #[], dummies := #[], finger := 0, led := false, moves := 0, plain := false }
def adv (m : Nat) (p : Probe) : Probe := (tb m).advance p
theorem Zed (t : SetTable) (p : Probe) : t.advance p = adv t.mask p := rfl
def it (m : Nat) (p : Probe) : Nat → Probe
 | 0 => p
 | k + 1 => adv m (it m p k)
theorem Yk (m : Nat) (p : Probe) : ∀ k, it m p (k + 1) = it m (adv m p) k
 | 0 => rfl
 | k + 1 => by
  show adv m (it m p (k + 1)) = adv m (it m (adv m p) k)
  rw [Yk m p k]
theorem Wc (m : Nat) (p : Probe) (a : Nat) : ∀ b, it m p (a + b) = it m (it m p a) b
 | 0 => rfl
 | b + 1 => by
  show adv m (it m p (a + b)) = adv m (it m (it m p a) b)
  rw [Wc m p a b]
theorem WY (m : Nat) (p : Probe) : (adv m p).dummy = p.dummy := by
 unfold adv advance
 split <;> rfl
theorem UP (m : Nat) (p : Probe) : ∀ k, (it m p k).dummy = p.dummy
 | 0 => rfl
 | k + 1 => (WY m _).trans (UP m p k)
theorem ZaY {t : SetTable} {hashAt : Nat → Int} {h : Int} (hr : Ris t.place.toList) (hd : t.dummies = #[]) : ∀ (n fuel : Nat) (p : Probe), p.dummy = none → n < fuel → (∀ k < n, (it t.mask p k).j ∈ t.place.toList) → (it t.mask p n).j ∉ t.place.toList →
  (probe.go t hashAt h fuel p = some (.empty (it t.mask p n).j none) ∧ ∀ k < n, ∀ i : Nat, t.place[i]? = some (it t.mask p k).j → hashAt i ≠ h) ∨
  ∃ k i : Nat, k < n ∧ t.place[i]? = some (it t.mask p k).j ∧ hashAt i = h ∧ probe.go t hashAt h fuel p = some (.candidate (it t.mask p k).j i (it t.mask p (k + 1))) ∧ ∀ k' < k, ∀ i : Nat, t.place[i]? = some (it t.mask p k').j → hashAt i ≠ h
 | 0, 0, p, _, h1, _, _ => absurd h1 (Nat.lt_irrefl _)
 | n + 1, 0, p, _, h1, _, _ => absurd h1 (Nat.not_lt_zero _)
 | 0, fuel + 1, p, hp, h1, h2, h3 => by
  refine .inl ⟨?_, fun k hk => absurd hk (Nat.not_lt_zero _)⟩
  unfold probe.go
  have e : t.slot p.j = .empty := U9 hd h3
  rw [e]
  dsimp only
  rw [hp]
  rfl
 | n + 1, fuel + 1, p, hp, h1, h2, h3 => by
  obtain ⟨i, hi⟩ := ZdZ (h2 0 (Nat.succ_pos _))
  have e : t.slot p.j = .live i := WA hr hi
  unfold probe.go
  rw [e]
  dsimp only
  rw [Zed]
  by_cases hh : hashAt i = h
  ·rw [if_pos (by simp [hh])]
   exact .inr ⟨0, i, Nat.succ_pos _, hi, hh, rfl, fun k' hk' => absurd hk' (Nat.not_lt_zero _)⟩
  ·rw [if_neg (by simp [hh])]
   have uniq : ∀ i' : Nat, t.place[i']? = some (it t.mask p 0).j → hashAt i' ≠ h := fun i' hi' => by
    have q1 := YK hr hi'
    have q2 := YK hr hi
    have : i' = i := q1.symm.trans q2
    subst this
    exact hh
   rcases ZaY (hashAt := hashAt) (h := h) hr hd n fuel (adv t.mask p) (by rw [WY]; exact hp) (by omega) (fun k hk => by rw [← Yk]; exact h2 (k + 1) (by omega)) (by rw [← Yk]; exact h3) with ⟨g1, g2⟩ | ⟨k, i2, g1, g2, g3, g4, g5⟩
   ·rw [← Yk] at g1
    refine .inl ⟨g1, fun k hk => ?_⟩
    cases k with
    | zero => exact uniq
    | succ k => rw [Yk]; exact g2 k (by omega)
   ·rw [← Yk] at g2 g4
    rw [← Yk] at g4
    refine .inr ⟨k + 1, i2, by omega, g2, g3, g4, fun k' hk' => ?_⟩
    cases k' with
    | zero => exact uniq
    | succ k' => rw [Yk]; exact g5 k' (by omega)
end HS
set_option Elab.async false
set_option linter.all false
set_option maxRecDepth 100000
set_option maxHeartbeats 4000000
namespace HS
open PySem PySem.SetTable
abbrev fr (m i pt : Nat) : Probe := { j := i, more := runEnd m i - i, i, perturb := pt, dummy := none }
abbrev st (m : Nat) (h : Int) : Probe := fr m (bits h % (m + 1)) (bits h)
def lp (m : Nat) (x : Nat × Nat) : Nat × Nat := leap m x.1 x.2
def lps (m : Nat) (x : Nat × Nat) : Nat → Nat × Nat
 | 0 => x
 | k + 1 => lp m (lps m x k)
theorem J9 (m : Nat) (x : Nat × Nat) : ∀ k, lps m x (k + 1) = lps m (lp m x) k
 | 0 => rfl
 | k + 1 => by
  show lp m (lps m x (k + 1)) = lp m (lps m (lp m x) k)
  rw [J9 m x k]
theorem ZaO (m : Nat) (x : Nat × Nat) (a : Nat) : ∀ b, lps m x (a + b) = lps m (lps m x a) b
 | 0 => rfl
 | b + 1 => by
  show lp m (lps m x (a + b)) = lp m (lps m (lps m x a) b)
  rw [ZaO m x a b]
theorem ZdH (m i : Nat) : runEnd m i - i ≤ 9 := by
 unfold runEnd
 split <;> omega
theorem Wb (m i pt : Nat) : ∀ k, k ≤ runEnd m i - i → it m (fr m i pt) k = { j := i + k, more := runEnd m i - i - k, i := i, perturb := pt, dummy := none }
 | 0, _ => rfl
 | k + 1, h => by
  show adv m (it m (fr m i pt) k) = _
  rw [Wb m i pt k (by omega)]
  unfold adv advance
  dsimp only
  rw [if_pos (by omega)]
  have e : runEnd m i - i - k - 1 = runEnd m i - i - (k + 1) := by omega
  rw [e, Nat.add_assoc]
theorem Ub (m i pt : Nat) : it m (fr m i pt) (runEnd m i - i + 1) = fr m (lp m (i, pt)).1 (lp m (i, pt)).2 := by
 show adv m (it m (fr m i pt) (runEnd m i - i)) = _
 rw [Wb m i pt _ (Nat.le_refl _)]
 unfold adv advance
 dsimp only
 rw [if_neg (by omega)]
 rfl
theorem UO (m : Nat) : ∀ (k : Nat) (x : Nat × Nat), ∃ d, d ≤ 10 * k ∧ it m (fr m x.1 x.2) d = fr m (lps m x k).1 (lps m x k).2
 | 0, x => ⟨0, by omega, rfl⟩
 | k + 1, x => by
  obtain ⟨d, h1, h2⟩ := UO m k (lp m x)
  refine ⟨runEnd m x.1 - x.1 + 1 + d, by have := ZdH m x.1; omega, ?_⟩
  rw [Wc, Ub m x.1 x.2]
  rw [J9]
  exact h2
theorem Zcs (m : Nat) (x : Nat × Nat) : ∀ k, (lps m x k).2 = x.2 / 32 ^ k
 | 0 => by simp [lps]
 | k + 1 => by
  show (lps m x k).2 / 32 = _
  rw [Zcs m x k, Nat.div_div_eq_div_mul, Nat.pow_succ]
theorem Zd1 (m : Nat) (x : Nat × Nat) (h : x.1 < m + 1) : ∀ k, (lps m x k).1 < m + 1
 | 0 => h
 | k + 1 => Nat.mod_lt _ (Nat.succ_pos _)
def nx (m i : Nat) : Nat := (i * 5 + 1) % (m + 1)
def nxs (m : Nat) : Nat → Nat
 | 0 => 0
 | k + 1 => nx m (nxs m k)
def nxL (m : Nat) : Nat → Nat → List Nat
 | 0, _ => []
 | k + 1, i => i :: nxL m k (nx m i)
theorem Zcm (m : Nat) : ∀ (k n : Nat) (f : Nat), f ∈ nxL m k (nxs m n) → ∃ u, n ≤ u ∧ u < n + k ∧ nxs m u = f
 | 0, n, f, h => by cases h
 | k + 1, n, f, h => by
  rcases List.mem_cons.mp h with rfl | h
  ·exact ⟨n, Nat.le_refl _, by omega, rfl⟩
  ·obtain ⟨u, h1, h2, h3⟩ := Zcm m k (n + 1) f h
   exact ⟨u, by omega, by omega, h3⟩
def Msk (m : Nat) : Prop := m = 7 ∨ m = 31 ∨ m = 127 ∨ m = 511
def cycB (m : Nat) : Bool := (List.range (m + 1)).all fun f => (nxL m (m + 1) 0).contains f
theorem cyc7 : cycB 7 = true ∧ nxs 7 8 = 0 := by decide +kernel
theorem cyc31 : cycB 31 = true ∧ nxs 31 32 = 0 := by decide +kernel
theorem cyc127 : cycB 127 = true ∧ nxs 127 128 = 0 := by decide +kernel
theorem cyc511 : cycB 511 = true ∧ nxs 511 512 = 0 := by decide +kernel
theorem Za6 {m : Nat} (hm : Msk m) : cycB m = true ∧ nxs m (m + 1) = 0 := by
 rcases hm with rfl | rfl | rfl | rfl
 ·exact cyc7
 ·exact cyc31
 ·exact cyc127
 ·exact cyc511
theorem ZcN {m f : Nat} (hm : Msk m) (hf : f < m + 1) : ∃ u, u < m + 1 ∧ nxs m u = f := by
 have := List.all_eq_true.mp (Za6 hm).1 f (List.mem_range.mpr hf)
 obtain ⟨u, _, h2, h3⟩ := Zcm m (m + 1) 0 f (show f ∈ nxL m (m + 1) 0 by simpa using this)
 exact ⟨u, by omega, h3⟩
theorem lps0 (m : Nat) : ∀ (k s : Nat), lps m (nxs m s, 0) k = (nxs m (s + k), 0)
 | 0, s => rfl
 | k + 1, s => by
  show lp m (lps m (nxs m s, 0) k) = _
  rw [lps0 m k s]
  unfold lp leap
  simp [nxs, nx]
theorem UF {m a : Nat} (hm : Msk m) : ∀ k, nxs m (m + 1 + k) = nxs m k
 | 0 => (Za6 hm).2
 | k + 1 => by
  show nx m (nxs m (m + 1 + k)) = nx m (nxs m k)
  rw [UF (a := a) hm k]
theorem full {m a f : Nat} (hm : Msk m) (ha : a < m + 1) (hf : f < m + 1) : ∃ k, k < m + 1 ∧ (lps m (a, 0) k).1 = f := by
 obtain ⟨s, hs, rfl⟩ := ZcN hm ha
 obtain ⟨u, hu, rfl⟩ := ZcN hm hf
 by_cases h : s ≤ u
 ·exact ⟨u - s, by omega, by rw [lps0]; show nxs m (s + (u - s)) = _; congr 1; omega⟩
 ·refine ⟨m + 1 + u - s, by omega, ?_⟩
  rw [lps0]
  show nxs m (s + (m + 1 + u - s)) = _
  rw [show s + (m + 1 + u - s) = m + 1 + u by omega, UF (a := 0) hm]
theorem Za7 (h : Int) : bits h < 2 ^ 64 := by
 unfold bits
 have h1 : 0 ≤ h % (2 ^ 64 : Int) := Int.emod_nonneg _ (by decide)
 have h2 : h % (2 ^ 64 : Int) < 2 ^ 64 := Int.emod_lt_of_pos _ (by decide)
 omega
theorem WQ {m i pt f : Nat} (hm : Msk m) (hi : i < m + 1) (hp : pt < 2 ^ 64) (hf : f < m + 1) : ∃ k, k < m + 14 ∧ (lps m (i, pt) k).1 = f := by
 have e : (lps m (i, pt) 13).2 = 0 := by
  rw [Zcs]
  exact Nat.div_eq_of_lt (Nat.lt_of_lt_of_le hp (by decide))
 have l := Zd1 m (i, pt) hi 13
 obtain ⟨k, h1, h2⟩ := full hm l hf
 refine ⟨13 + k, by omega, ?_⟩
 rw [ZaO]
 have e2 : lps m (i, pt) 13 = ((lps m (i, pt) 13).1, 0) := by rw [← e]
 rw [e2]
 exact h2
theorem cover {m f : Nat} (hm : Msk m) (h : Int) (hf : f < m + 1) : ∃ n, n < 10 * turns m ∧ (it m (st m h) n).j = f := by
 obtain ⟨k, h1, h2⟩ := WQ hm (Nat.mod_lt _ (Nat.succ_pos _)) (Za7 h) hf (i := bits h % (m + 1))
 obtain ⟨d, h3, h4⟩ := UO m k (bits h % (m + 1), bits h)
 refine ⟨d, by unfold turns; omega, ?_⟩
 show (it m (fr m (bits h % (m + 1)) (bits h)) d).j = f
 rw [h4]
 exact h2
def Leads (m : Nat) (occ : Nat → Prop) (p : Probe) (j : Nat) : Prop := ∃ n, (it m p n).j = j ∧ ∀ k < n, occ (it m p k).j
theorem Leads.mono {m : Nat} {occ occ' : Nat → Prop} {p : Probe} {j : Nat} (h : Leads m occ p j) (w : ∀ x, occ x → occ' x) : Leads m occ' p j :=
 let ⟨n, a, b⟩ := h; ⟨n, a, fun k hk => w _ (b k hk)⟩
theorem Zap {m f : Nat} {occ : Nat → Prop} (hm : Msk m) (h : Int) (hf : f < m + 1) (ho : ¬ occ f) : ∃ n, n < 10 * turns m ∧ (∀ k < n, occ (it m (st m h) k).j) ∧ ¬ occ (it m (st m h) n).j := by
 obtain ⟨n, h1, h2⟩ := cover hm h hf
 have key : ∀ n, n < 10 * turns m → ¬ occ (it m (st m h) n).j → ∃ n, n < 10 * turns m ∧ (∀ k < n, occ (it m (st m h) k).j) ∧ ¬ occ (it m (st m h) n).j := by
  intro n
  induction n using Nat.strongRecOn with
  | _ n ih =>
   intro g1 g2
   by_cases z : ∀ k < n, occ (it m (st m h) k).j
   ·exact ⟨n, g1, z, g2⟩
   ·have : ∃ k, k < n ∧ ¬ occ (it m (st m h) k).j := Classical.byContradiction fun c => z fun k hk => Classical.byContradiction fun o => c ⟨k, hk, o⟩
    obtain ⟨k, hk, o⟩ := this
    exact ih k hk (by omega) o
 exact key n h1 (by rw [h2]; exact ho)
theorem WM {m : Nat} {owner : Array (Option Nat)} : ∀ (fuel k : Nat) (i pt : Nat), k < fuel → ((owner.getD (lps m (i, pt) k).1 (some 0)).isNone = true) →
  ∃ j, layClean.free m owner fuel i pt = some j ∧ (owner.getD j (some 0)).isNone = true ∧ Leads m (fun x => (owner.getD x (some 0)).isNone = false) (fr m i pt) j
 | 0, k, i, pt, h, _ => absurd h (Nat.not_lt_zero _)
 | fuel + 1, k, i, pt, h, ho => by
  unfold layClean.free
  cases hq : (List.range (runEnd m i + 1 - i)).find? fun k => (owner.getD (i + k) (some 0)).isNone with
  | some d =>
   dsimp only
   have h1 := List.find?_some hq
   have hmem := List.mem_of_find?_eq_some hq
   rw [List.mem_range] at hmem
   refine ⟨i + d, rfl, h1, d, ?_, fun k hk => ?_⟩
   ·rw [Wb m i pt d (by unfold runEnd at *; split at hmem <;> split <;> omega)]
   ·rw [Wb m i pt k (by unfold runEnd at *; split at hmem <;> split <;> omega)]
    obtain ⟨as, bs, e, hall⟩ := (List.find?_eq_some_iff_append.mp hq).2
    have hk2 : k ∈ as := by
     have hp : (List.range (runEnd m i + 1 - i)).Pairwise (· < ·) := List.pairwise_lt_range
     have hkm : k ∈ List.range (runEnd m i + 1 - i) := List.mem_range.mpr (by omega)
     rw [e] at hp hkm
     rcases List.mem_append.mp hkm with q | q
     ·exact q
     ·rcases List.mem_cons.mp q with q | q
      ·omega
      ·have := (List.pairwise_cons.mp (List.pairwise_append.mp hp).2.1).1 k q
       omega
    have := hall k hk2
    simpa using this
  | none =>
   dsimp only
   have hall := List.find?_eq_none.mp hq
   have hocc : ∀ d, d ≤ runEnd m i - i → (owner.getD (i + d) (some 0)).isNone = false := fun d hd => by
    have := hall d (List.mem_range.mpr (by unfold runEnd at *; split at hd <;> split <;> omega))
    exact Bool.eq_false_iff.mpr this
   cases k with
   | zero =>
    have := hocc 0 (Nat.zero_le _)
    rw [show (lps m (i, pt) 0).1 = i + 0 from rfl, this] at ho
    cases ho
   | succ k =>
    rw [J9] at ho
    obtain ⟨j, g1, g2, n, g3, g4⟩ := WM (m := m) (owner := owner) fuel k (lp m (i, pt)).1 (lp m (i, pt)).2 (by omega) ho
    refine ⟨j, g1, g2, runEnd m i - i + 1 + n, ?_, fun d hd => ?_⟩
    ·rw [Wc, Ub]
     exact g3
    ·by_cases hd2 : d ≤ runEnd m i - i
     ·rw [Wb m i pt d hd2]
      exact hocc d hd2
     ·obtain ⟨c, rfl⟩ : ∃ c, d = runEnd m i - i + 1 + c := ⟨d - (runEnd m i - i + 1), by omega⟩
      rw [Wc, Ub]
      exact g4 c (by omega)
end HS
set_option Elab.async false
set_option linter.all false
set_option maxRecDepth 100000
set_option maxHeartbeats 4000000
namespace HS
open PySem PySem.SetTable
theorem ZcB {m : Nat} {p : Probe} (h : p.j + p.more ≤ m) : (adv m p).j + (adv m p).more ≤ m := by
 unfold adv advance
 split
 ·dsimp only; omega
 ·dsimp only [leap, runEnd]
  have := Nat.mod_lt (p.i * 5 + 1 + p.perturb / 32) (show 0 < m + 1 by omega)
  split <;> omega
theorem ZaW {m : Nat} {p : Probe} (h : p.j + p.more ≤ m) : ∀ k, (it m p k).j + (it m p k).more ≤ m
 | 0 => h
 | k + 1 => ZcB (ZaW h k)
theorem Zdx {m : Nat} (h : Int) (k : Nat) : (it m (st m h) k).j < m + 1 := by
 have := ZaW (m := m) (p := st m h) (by
  have := Nat.mod_lt (bits h) (show 0 < m + 1 by omega)
  dsimp only [fr, runEnd]
  split <;> omega) k
 omega
structure T0 (t : SetTable) (es : Array (Int × Value)) : Prop where
 sz : t.place.size = es.size
 ris : Ris t.place.toList
 dum : t.dummies = #[]
 le : ∀ j ∈ t.place.toList, j < t.mask + 1
 ld : ∀ z ∈ t.place.toList.zip es.toList, Leads t.mask (· ∈ t.place.toList) (st t.mask z.2.1) z.1
def Roomy (m n : Nat) : Prop := (m = 7 ∧ n ≤ 4) ∨ (m = 31 ∧ n ≤ 18) ∨ (m = 127 ∧ n ≤ 76) ∨ (m = 511 ∧ n ≤ 306)
theorem Roomy.msk {m n : Nat} (h : Roomy m n) : Msk m := by
 rcases h with ⟨h, _⟩ | ⟨h, _⟩ | ⟨h, _⟩ | ⟨h, _⟩
 ·exact .inl h
 ·exact .inr (.inl h)
 ·exact .inr (.inr (.inl h))
 ·exact .inr (.inr (.inr h))
theorem Roomy.lt {m n : Nat} (h : Roomy m n) : n + 1 < m := by
 rcases h with ⟨h, _⟩ | ⟨h, _⟩ | ⟨h, _⟩ | ⟨h, _⟩ <;> omega
theorem Roomy.small {m n : Nat} (h : Roomy m n) : n ≤ 306 := by
 rcases h with ⟨h, _⟩ | ⟨h, _⟩ | ⟨h, _⟩ | ⟨h, _⟩ <;> omega
theorem WB {l : List Nat} (h : Ris l) : l.Nodup := List.Pairwise.imp (fun h => Nat.ne_of_lt h) h
theorem T0.free {t : SetTable} {es : Array (Int × Value)} (T : T0 t es) (h : es.size < t.mask + 1) : ∃ f, f < t.mask + 1 ∧ f ∉ t.place.toList := by
 refine Classical.byContradiction fun c => ?_
 have all : ∀ f, f < t.mask + 1 → f ∈ t.place.toList := fun f hf => Classical.byContradiction fun n => c ⟨f, hf, n⟩
 have p : (t.place.toList).Perm (List.range (t.mask + 1)) := (List.perm_ext_iff_of_nodup (WB T.ris) List.nodup_range).mpr fun f => ⟨fun hf => List.mem_range.mpr (T.le f hf), fun hf => all f (List.mem_range.mp hf)⟩
 have := p.length_eq
 rw [List.length_range, Array.length_toList, T.sz] at this
 omega
theorem T0.fits {t : SetTable} {es : Array (Int × Value)} (T : T0 t es) (h : es.size ≤ t.mask) : t.fits es.size = true := by
 unfold SetTable.fits SetTable.fill
 rw [T.dum, T.sz]
 simp [h]
theorem ZcV {α β : Type} {a : List α} {b : List β} (p : Nat) (x : α) (y : β) (h : a.length = b.length) : (a.take p ++ x :: a.drop p).zip (b.take p ++ y :: b.drop p) = (a.zip b).take p ++ (x, y) :: (a.zip b).drop p := by
 rw [List.zip_append (by rw [List.length_take, List.length_take, h]), List.zip_cons_cons]
 simp only [List.zip, List.take_zipWith, List.drop_zipWith]
theorem T0.put {t : SetTable} {es : Array (Int × Value)} (T : T0 t es) {h : Int} {x : Value} {n : Nat} (h1 : ∀ k < n, (it t.mask (st t.mask h) k).j ∈ t.place.toList) (h2 : (it t.mask (st t.mask h) n).j ∉ t.place.toList) (pl : Bool) :
  T0 { (t.put (it t.mask (st t.mask h) n).j).1 with plain := pl } (insertAt es (t.put (it t.mask (st t.mask h) n).j).2 (h, x)) := by
 have lt := Zdx (m := t.mask) h n
 generalize hf : (it t.mask (st t.mask h) n).j = f at *
 have pl1 := WC (t := t) (j := f)
 have e2 : (t.put f).2 = below t.place f := rfl
 have em : (t.put f).1.mask = t.mask := rfl
 have occ : ∀ y, y ∈ t.place.toList → y ∈ (t.put f).1.place.toList := fun y hy => by
  rw [pl1]
  rw [← List.take_append_drop (below t.place f) t.place.toList] at hy
  rcases List.mem_append.mp hy with q | q
  ·exact List.mem_append_left _ q
  ·exact List.mem_append_right _ (List.mem_cons_of_mem _ q)
 have lz : t.place.toList.length = es.toList.length := by rw [Array.length_toList, Array.length_toList, T.sz]
 refine ⟨?_, Zc2 T.ris h2, ?_, fun j hj => ?_, fun z hz => ?_⟩
 ·have a : (t.put f).1.place.size = t.place.size + 1 := by
   rw [← Array.length_toList, pl1, List.length_append, List.length_cons, List.length_take, List.length_drop, Array.length_toList]
   have := (Y5 (j := f) T.ris).1
   omega
  have b : (insertAt es (t.put f).2 (h, x)).size = es.size + 1 := by
   rw [← Array.length_toList, (insertAt_perm es _ (h, x)).length_eq, Array.length_toList, Array.size_push]
  show (t.put f).1.place.size = _
  rw [a, b, T.sz]
 ·show (if has t.dummies f then _ else t.dummies) = #[]
  rw [T.dum]
  simp [has]
 ·show j < t.mask + 1
  have hj' : j ∈ (t.put f).1.place.toList := hj
  rw [pl1] at hj'
  rcases List.mem_append.mp hj' with q | q
  ·exact T.le j (List.mem_of_mem_take q)
  ·rcases List.mem_cons.mp q with q | q
   ·rw [q]; exact lt
   ·exact T.le j (List.mem_of_mem_drop q)
 ·have hz' : z ∈ (t.put f).1.place.toList.zip (insertAt es (t.put f).2 (h, x)).toList := hz
  rw [pl1, toList_insertAt, e2, ZcV _ _ _ lz] at hz'
  have old : ∀ z ∈ t.place.toList.zip es.toList, Leads t.mask (· ∈ (t.put f).1.place.toList) (st t.mask z.2.1) z.1 := fun z hz => (T.ld z hz).mono occ
  rcases List.mem_append.mp hz' with q | q
  ·exact old z (List.mem_of_mem_take q)
  ·rcases List.mem_cons.mp q with q | q
   ·rw [q]
    exact ⟨n, hf, fun k hk => occ _ (h1 k hk)⟩
   ·exact old z (List.mem_of_mem_drop q)
structure LInv (m : Nat) (hs : List Int) (owner : Array (Option Nat)) : Prop where
 sz : owner.size = m + 1
 lt : ∀ (j k : Nat), owner[j]? = some (some k) → k < hs.length
 at_ : ∀ (k : Nat) (h : Int), hs[k]? = some h → ∃ j : Nat, owner[j]? = some (some k) ∧ Leads m (fun x => ∃ k, owner[x]? = some (some k)) (st m h) j
 inj : ∀ (j j' k : Nat), owner[j]? = some (some k) → owner[j']? = some (some k) → j = j'
def live (m : Nat) (owner : Array (Option Nat)) : List (Nat × Nat) := (List.range (m + 1)).filterMap fun j => (owner.getD j none).map (j, ·)
theorem WL {owner : Array (Option Nat)} {j k : Nat} : owner.getD j none = some k ↔ owner[j]? = some (some k) := by
 rw [Array.getD_eq_getD_getElem?]
 cases owner[j]? with
 | none => simp
 | some o => cases o <;> simp
theorem ZU {m : Nat} {owner : Array (Option Nat)} (hs : owner.size = m + 1) {x : Nat × Nat} : x ∈ live m owner ↔ owner[x.1]? = some (some x.2) := by
 unfold live
 rw [List.mem_filterMap]
 constructor
 ·rintro ⟨j, hj, e⟩
  obtain ⟨k, hk, rfl⟩ := Option.map_eq_some_iff.mp e
  exact WL.mp hk
 ·intro h
  obtain ⟨hl, _⟩ := Array.getElem?_eq_some_iff.mp h
  exact ⟨x.1, List.mem_range.mpr (by omega), by rw [WL.mpr h]; rfl⟩
theorem Wa (m : Nat) (owner : Array (Option Nat)) : Ris ((live m owner).map (·.1)) := by
 refine List.pairwise_map.mpr ?_
 unfold live
 refine List.pairwise_filterMap.mpr (List.Pairwise.imp ?_ (List.pairwise_lt_range (n := m + 1)))
 intro a b hab x hx y hy
 obtain ⟨_, _, rfl⟩ := Option.map_eq_some_iff.mp hx
 obtain ⟨_, _, rfl⟩ := Option.map_eq_some_iff.mp hy
 exact hab
theorem WH {m : Nat} {hs : List Int} {owner : Array (Option Nat)} (L : LInv m hs owner) : ((live m owner).map (·.2)).Perm (List.range hs.length) := by
 refine (List.perm_ext_iff_of_nodup ?_ List.nodup_range).mpr fun k => ?_
 ·refine List.nodup_iff_pairwise_ne.mpr (List.pairwise_map.mpr ?_)
  refine List.Pairwise.imp_of_mem ?_ (List.pairwise_map.mp (Wa m owner))
  intro a b ha hb hab e
  have h1 := (ZU L.sz).mp ha
  have h2 := (ZU L.sz).mp hb
  rw [e] at h1
  have := L.inj _ _ _ h1 h2
  omega
 ·rw [List.mem_range]
  constructor
  ·intro h
   obtain ⟨x, hx, rfl⟩ := List.mem_map.mp h
   exact L.lt _ _ ((ZU L.sz).mp hx)
  ·intro h
   obtain ⟨j, hj, _⟩ := L.at_ k _ (List.getElem?_eq_getElem h)
   exact List.mem_map.mpr ⟨(j, k), (ZU L.sz).mpr hj, rfl⟩
theorem UG {m : Nat} {hs : List Int} {owner : Array (Option Nat)} (L : LInv m hs owner) : (live m owner).length = hs.length := by
 have := (WH L).length_eq
 rw [List.length_map, List.length_range] at this
 exact this
theorem LInv.free {m : Nat} {hs : List Int} {owner : Array (Option Nat)} (L : LInv m hs owner) (h : hs.length < m + 1) : ∃ f, f < m + 1 ∧ owner[f]? = some none := by
 refine Classical.byContradiction fun c => ?_
 have all : ∀ f, f < m + 1 → ∃ k, owner[f]? = some (some k) := fun f hf => by
  have hf' : f < owner.size := by rw [L.sz]; exact hf
  cases e : owner[f] with
  | none => exact absurd ⟨f, hf, by rw [Array.getElem?_eq_getElem hf', e]⟩ c
  | some k => exact ⟨k, by rw [Array.getElem?_eq_getElem hf', e]⟩
 have p : ((live m owner).map (·.1)).Perm (List.range (m + 1)) := (List.perm_ext_iff_of_nodup (WB (Wa m owner)) List.nodup_range).mpr fun f => by
  rw [List.mem_range, List.mem_map]
  constructor
  ·rintro ⟨x, hx, rfl⟩
   obtain ⟨hl, _⟩ := Array.getElem?_eq_some_iff.mp ((ZU L.sz).mp hx)
   rw [L.sz] at hl
   exact hl
  ·intro hf
   obtain ⟨k, hk⟩ := all f hf
   exact ⟨(f, k), (ZU L.sz).mpr hk, rfl⟩
 have := p.length_eq
 rw [List.length_map, UG L, List.length_range] at this
 omega
theorem getD_some {owner : Array (Option Nat)} {j : Nat} : (owner.getD j (some 0)).isNone = true ↔ owner[j]? = some none := by
 rw [Array.getD_eq_getD_getElem?]
 cases owner[j]? with
 | none => simp
 | some o => cases o <;> simp
theorem LInv.step {m : Nat} {hs : List Int} {owner : Array (Option Nat)} (hm : Msk m) (L : LInv m hs owner) (hl : hs.length < m + 1) (h : Int) :
  ∃ j, layClean.free m owner (turns m) (bits h % (m + 1)) (bits h) = some j ∧ LInv m (hs ++ [h]) (owner.setIfInBounds j (some hs.length)) := by
 obtain ⟨f, hf, hn⟩ := L.free hl
 obtain ⟨k, hk, e⟩ := WQ hm (Nat.mod_lt (bits h) (show 0 < m + 1 by omega)) (Za7 h) hf
 obtain ⟨j, g1, g2, g3⟩ := WM (m := m) (owner := owner) (turns m) k (bits h % (m + 1)) (bits h) (by unfold turns; omega) (by rw [e]; exact getD_some.mpr hn)
 have g2' := getD_some.mp g2
 obtain ⟨jl, _⟩ := Array.getElem?_eq_some_iff.mp g2'
 have at_j : (owner.setIfInBounds j (some hs.length))[j]? = some (some hs.length) := by simp [jl]
 have at_ne : ∀ {i : Nat}, i ≠ j → (owner.setIfInBounds j (some hs.length))[i]? = owner[i]? := fun {i} hi => by
  rw [Array.getElem?_setIfInBounds]
  rw [if_neg (Ne.symm hi)]
 have YH : ∀ {i k : Nat}, owner[i]? = some (some k) → i ≠ j := fun {i k} hi z => by rw [z, g2'] at hi; cases hi
 have occ : ∀ x : Nat, (∃ k : Nat, owner[x]? = some (some k)) → ∃ k : Nat, (owner.setIfInBounds j (some hs.length))[x]? = some (some k) := fun x hx => by
  obtain ⟨k, hk⟩ := hx
  exact ⟨k, by rw [at_ne (YH hk)]; exact hk⟩
 refine ⟨j, g1, ⟨by rw [Array.size_setIfInBounds]; exact L.sz, fun i k hi => ?_, fun k h' hk' => ?_, fun i i' k hi hi' => ?_⟩⟩
 ·rw [List.length_append]
  by_cases hij : i = j
  ·rw [hij, at_j] at hi
   cases hi
   simp
  ·rw [at_ne hij] at hi
   have := L.lt _ _ hi
   simp; omega
 ·by_cases hkl : k < hs.length
  ·rw [List.getElem?_append_left hkl] at hk'
   obtain ⟨i, hi, ld⟩ := L.at_ k h' hk'
   exact ⟨i, by rw [at_ne (YH hi)]; exact hi, ld.mono occ⟩
  ·rw [List.getElem?_append_right (by omega)] at hk'
   have ek : k = hs.length := by
    have := (List.getElem?_eq_some_iff.mp hk').1
    simp at this
    omega
   subst ek
   simp at hk'
   subst hk'
   obtain ⟨n, en, hall⟩ := g3
   refine ⟨j, at_j, n, en, fun d hd => ?_⟩
   have hx := hall d hd
   have hlt : (it m (fr m (bits h % (m + 1)) (bits h)) d).j < owner.size := by rw [L.sz]; exact Zdx h d
   show ∃ k : Nat, (owner.setIfInBounds j (some hs.length))[(it m (fr m (bits h % (m + 1)) (bits h)) d).j]? = some (some k)
   generalize (it m (fr m (bits h % (m + 1)) (bits h)) d).j = x at *
   have e := Array.getElem?_eq_getElem hlt
   cases e2 : owner[x] with
   | none =>
    rw [e2] at e
    rw [getD_some.mpr e] at hx
    cases hx
   | some k =>
    rw [e2] at e
    exact occ x ⟨k, e⟩
 ·by_cases hij : i = j
  ·by_cases hij' : i' = j
   ·rw [hij, hij']
   ·rw [hij, at_j] at hi
    rw [at_ne hij'] at hi'
    cases hi
    exact absurd (L.lt _ _ hi') (Nat.lt_irrefl _)
  ·by_cases hij' : i' = j
   ·rw [hij', at_j] at hi'
    rw [at_ne hij] at hi
    cases hi'
    exact absurd (L.lt _ _ hi) (Nat.lt_irrefl _)
   ·rw [at_ne hij] at hi
    rw [at_ne hij'] at hi'
    exact L.inj _ _ _ hi hi'
end HS
set_option Elab.async false
set_option linter.all false
set_option maxRecDepth 100000
set_option maxHeartbeats 4000000
namespace HS
open PySem PySem.SetTable
def layF (m : Nat) (acc : Option (Array (Option Nat) × Nat)) (h : Int) : Option (Array (Option Nat) × Nat) := do
 let (owner, k) ← acc
 let j ← layClean.free m owner (turns m) (bits h % (m + 1)) (bits h)
 pure (owner.setIfInBounds j (some k), k + 1)
theorem UM (m : Nat) (hs : Array Int) : layClean m hs = (hs.toList.foldl (layF m) (some (Array.replicate (m + 1) none, 0))).map (·.1) := by
 unfold layClean
 rw [← Array.foldl_toList]
 rfl
theorem WN {m : Nat} (hm : Msk m) : ∀ (rest hs : List Int) (owner : Array (Option Nat)), LInv m hs owner → hs.length + rest.length ≤ m + 1 →
  ∃ owner', rest.foldl (layF m) (some (owner, hs.length)) = some (owner', (hs ++ rest).length) ∧ LInv m (hs ++ rest) owner'
 | [], hs, owner, L, _ => ⟨owner, by rw [List.append_nil]; rfl, by rw [List.append_nil]; exact L⟩
 | h :: rest, hs, owner, L, hl => by
  rw [List.length_cons] at hl
  obtain ⟨j, g1, g2⟩ := L.step hm (by omega) h
  obtain ⟨o', g3, g4⟩ := WN hm rest (hs ++ [h]) _ g2 (by rw [List.length_append, List.length_singleton]; omega)
  refine ⟨o', ?_, by rw [← List.append_cons] at g4; exact g4⟩
  rw [List.foldl_cons]
  have e : layF m (some (owner, hs.length)) h = some (owner.setIfInBounds j (some hs.length), (hs ++ [h]).length) := by
   unfold layF
   simp [g1]
  rw [e, g3, ← List.append_cons]
theorem Jh {es : Array (Int × Value)} : ∀ {L : List (Nat × Nat)}, (∀ x ∈ L, x.2 < es.size) → (L.map (·.2)).filterMap (fun k => es[k]?) = L.map fun x => (es[x.2]?).getD (0, .none)
 | [], _ => rfl
 | x :: L, h => by
  have hx := h x List.mem_cons_self
  rw [List.map_cons, List.filterMap_cons, List.map_cons, Array.getElem?_eq_getElem hx]
  dsimp only
  rw [Jh fun y hy => h y (List.mem_cons_of_mem _ hy)]
  rfl
theorem ZbE {m : Nat} (hm : Msk m) (es : Array (Int × Value)) (hl : es.size ≤ m + 1) (fi mo : Nat) (le pl : Bool) :
  ∃ t order, laid m fi mo le pl (es.map (·.1)) = some (t, order) ∧ t.mask = m ∧ T0 t (order.filterMap (es[·]?)) ∧ (order.filterMap (es[·]?)).toList.Perm es.toList := by
 have L0 : LInv m [] (Array.replicate (m + 1) none) := by
  refine ⟨Array.size_replicate .., fun j k h => ?_, fun k h hk => by simp at hk, fun j j' k h => ?_⟩ <;>
  ·rw [Array.getElem?_replicate] at h
   split at h <;> cases h
 obtain ⟨owner, e1, L⟩ := WN hm (es.map (·.1)).toList [] _ L0 (by simp; exact hl)
 rw [List.nil_append] at e1 L
 have hsz : ((es.map (·.1)).toList).length = es.size := by simp
 have e2 : layClean m (es.map (·.1)) = some owner := by
  rw [UM]
  have e1' : List.foldl (layF m) (some (Array.replicate (m + 1) none, 0)) (es.map (·.1)).toList = _ := e1
  rw [e1']
  rfl
 have hlt : ∀ x ∈ live m owner, x.2 < es.size := fun x hx => by
  have := L.lt _ _ ((ZU L.sz).mp hx)
  rw [hsz] at this
  exact this
 have efm : (((live m owner).map (·.2)).toArray.filterMap (es[·]?)).toList = (live m owner).map fun x => (es[x.2]?).getD (0, .none) := by
  rw [Array.toList_filterMap]
  exact Jh hlt
 have perm : (((live m owner).map (·.2)).toArray.filterMap (es[·]?)).toList.Perm es.toList := by
  rw [Array.toList_filterMap]
  have p := (WH L).filterMap (fun i => es[i]?)
  rw [hsz, filterMap_getElem?_range] at p
  exact p
 refine ⟨{ mask := m, place := ((live m owner).map (·.1)).toArray, dummies := #[], finger := fi, led := le, moves := mo, plain := pl }, ((live m owner).map (·.2)).toArray, ?_, rfl, ?_, perm⟩
 ·unfold laid
  rw [e2]
  rfl
 ·refine ⟨?_, Wa m owner, rfl, fun j hj => ?_, fun z hz => ?_⟩
  ·have := perm.length_eq
   rw [Array.length_toList, Array.length_toList] at this
   rw [this]
   show ((live m owner).map (·.1)).toArray.size = _
   rw [List.size_toArray, List.length_map, UG L, hsz]
  ·obtain ⟨x, hx, rfl⟩ := List.mem_map.mp (show j ∈ (live m owner).map (·.1) from hj)
   obtain ⟨hq, _⟩ := Array.getElem?_eq_some_iff.mp ((ZU L.sz).mp hx)
   rw [L.sz] at hq
   exact hq
  ·have hz' : z ∈ ((live m owner).map (·.1)).zip (((live m owner).map (·.2)).toArray.filterMap (es[·]?)).toList := hz
   rw [efm, List.zip_map', List.mem_map] at hz'
   obtain ⟨x, hx, rfl⟩ := hz'
   have hxs := (ZU L.sz).mp hx
   have hxl := hlt x hx
   have eh : (es.map (·.1)).toList[x.2]? = some (es[x.2].1) := by simp [hxl]
   obtain ⟨j, g1, g2⟩ := L.at_ _ _ eh
   have ej := L.inj _ _ _ g1 hxs
   subst ej
   dsimp only
   rw [Array.getElem?_eq_getElem hxl, Option.getD_some]
   refine g2.mono fun y hy => ?_
   obtain ⟨k, hk⟩ := hy
   exact List.mem_map.mpr ⟨(y, k), (ZU L.sz).mpr hk, rfl⟩
theorem grow {m n : Nat} (h : Roomy m n) (hn : n + 1 ≤ 306) : ((n + 1) * 5 ≥ m * 3 ∧ Roomy (sizeAbove (grown (n + 1)) - 1) (n + 1) ∧ sizeAbove (grown (n + 1)) ≤ 512) ∨ (¬ (n + 1) * 5 ≥ m * 3 ∧ Roomy m (n + 1)) := by
 rcases h with ⟨rfl, h⟩ | ⟨rfl, h⟩ | ⟨rfl, h⟩ | ⟨rfl, h⟩
 ·by_cases q : n = 4
  ·subst q
   exact .inl ⟨by decide, .inr (.inl ⟨by decide, by decide⟩), by decide⟩
  ·exact .inr ⟨by omega, .inl ⟨rfl, by omega⟩⟩
 ·by_cases q : n = 18
  ·subst q
   exact .inl ⟨by decide, .inr (.inr (.inl ⟨by decide, by decide⟩)), by decide⟩
  ·exact .inr ⟨by omega, .inr (.inl ⟨rfl, by omega⟩)⟩
 ·by_cases q : n = 76
  ·subst q
   exact .inl ⟨by decide, .inr (.inr (.inr ⟨by decide, by decide⟩)), by decide⟩
  ·exact .inr ⟨by omega, .inr (.inr (.inl ⟨rfl, by omega⟩))⟩
 ·exact .inr ⟨by omega, .inr (.inr (.inr ⟨rfl, by omega⟩))⟩
end HS
set_option Elab.async false
set_option linter.all false
set_option maxRecDepth 100000
set_option maxHeartbeats 4000000
namespace HS
open PySem PySem.SetTable
section
variable {prog : Program} {w : World} {K : Type} [DecidableEq K]
structure HK (knd : HeapKind prog w K) : Prop where
 byVal : ∀ {A : Around} {E : Value → Shared → Prop} {s : Shared} {k : K} {a : Addr} {Q : Bool → Shared → Prop}, knd.is s.heap k a → (∀ b, Q b s) → wpAny (model prog w) A (hashByValue 8 (.ref a)) Q E s
 notCls : ∀ {A : Around} {E : Value → Shared → Prop} {s : Shared} {k : K} {a : Addr} {Q : Bool → Shared → Prop}, knd.is s.heap k a → Q false s → wpAny (model prog w) A (ofAClassStatement 8 (.ref a)) Q E s
 keepsS : ∀ {h h' : Heap} {k : K} {a d : Addr} {o : Obj} {es ep t}, knd.is h k a → h.get? d = some o → o.data = .set es ep t → Heap.SameBut d h h' → knd.is h' k a
variable {knd : HeapKind prog w K} {A : Around} {E : Value → Shared → Prop} {s : Shared}
def Elem (knd : HeapKind prog w K) (h : Heap) (k : K) (e : Int × Value) : Prop := ∃ a, e.2 = .ref a ∧ knd.is h k a ∧ e.1 = knd.hash k
theorem ZcW (hk : HK knd) {k : K} {x : Addr} (hx : knd.is s.heap k x) : ∀ {ys : List Value} {Q : Bool → Shared → Prop}, (∀ y ∈ ys, ∃ k' b, y = .ref b ∧ knd.is s.heap k' b) → Q false s → wpAny (model prog w) A (searchCouldBeSeen (.ref x) ys) Q E s := by
 intro ys Q hy hq
 unfold searchCouldBeSeen
 refine wpAny_bind ?_
 refine wpAny_forIn_list _ (fun rest r s' => r.1 = none ∧ s' = s ∧ ∀ y ∈ rest, ∃ k' b, y = .ref b ∧ knd.is s.heap k' b) _ ?_ ?_ _ _ ⟨rfl, rfl, hy⟩
 ·rintro v rest r s' ⟨hr, rfl, hall⟩
  obtain ⟨k', b, rfl, hb⟩ := hall v List.mem_cons_self
  have hall' : ∀ y ∈ rest, ∃ k' b, y = Value.ref b ∧ knd.is s'.heap k' b := fun y hy => hall y (List.mem_cons_of_mem _ hy)
  dsimp only
  split
  ·exact wpAny_pure ⟨rfl, rfl, hall'⟩
  ·refine wpAny_bind (knd.quiet hx ?_)
   simp only [Bool.not_true, Bool.false_eq_true, if_false]
   refine wpAny_bind (knd.quiet hb ?_)
   simp only [Bool.not_true, Bool.false_eq_true, if_false]
   refine wpAny_bind (hk.notCls hx ?_)
   simp only [Bool.false_eq_true, if_false]
   refine wpAny_bind (hk.notCls hb ?_)
   simp only [Bool.false_eq_true, if_false]
   exact wpAny_pure ⟨rfl, rfl, hall'⟩
 ·rintro ⟨r1, r2⟩ s' ⟨hr, rfl, _⟩
  simp only at hr
  subst hr
  exact wpAny_pure hq
theorem Zeb {t : SetTable} {es : Array (Int × Value)} (T : T0 t es) {i : Nat} {e : Int × Value} (h : es[i]? = some e) : ∃ j, t.place[i]? = some j ∧ (j, e) ∈ t.place.toList.zip es.toList := by
 obtain ⟨hi, _⟩ := Array.getElem?_eq_some_iff.mp h
 have hp : i < t.place.size := by rw [T.sz]; exact hi
 refine ⟨t.place[i], Array.getElem?_eq_getElem hp, List.mem_of_getElem? (i := i) ?_⟩
 rw [List.getElem?_zip_eq_some]
 exact ⟨by rw [Array.getElem?_toList]; exact Array.getElem?_eq_getElem hp, by rw [Array.getElem?_toList]; exact h⟩
theorem Zeo {t : SetTable} {es : Array (Int × Value)} (T : T0 t es) {i j : Nat} (h : t.place[i]? = some j) : ∃ e, es[i]? = some e := by
 obtain ⟨hi, _⟩ := Array.getElem?_eq_some_iff.mp h
 exact ⟨es[i]'(by rw [← T.sz]; exact hi), Array.getElem?_eq_getElem _⟩
theorem Zae {t : SetTable} {es : Array (Int × Value)} (T : T0 t es) {hashAt : Nat → Int} {h : Int} {p : Probe} {met : Option Met} {n : Nat} (hp : p.dummy = none) (hn : n < 10 * turns t.mask) (h1 : ∀ k < n, (it t.mask p k).j ∈ t.place.toList) (h2 : (it t.mask p n).j ∉ t.place.toList)
  (hpr : t.probe hashAt h p = met) (hH : ∀ i : Nat, hashAt i = (es[i]?.map (·.1)).getD 0) :
  (met = some (.empty (it t.mask p n).j none) ∧ ∀ k < n, ∀ (i : Nat) (e : Int × Value), t.place[i]? = some (it t.mask p k).j → es[i]? = some e → e.1 ≠ h) ∨
  ∃ (k i : Nat) (e : Int × Value), k < n ∧ t.place[i]? = some (it t.mask p k).j ∧ es[i]? = some e ∧ e.1 = h ∧ met = some (.candidate (it t.mask p k).j i (it t.mask p (k + 1))) ∧ ∀ k' < k, ∀ (i : Nat) (e : Int × Value), t.place[i]? = some (it t.mask p k').j → es[i]? = some e → e.1 ≠ h := by
 have conv : ∀ {i : Nat} {e : Int × Value}, es[i]? = some e → hashAt i = e.1 := fun {i e} he => by rw [hH, he]; rfl
 rcases ZaY (hashAt := hashAt) (h := h) T.ris T.dum n (10 * turns t.mask) p hp hn h1 h2 with ⟨g1, g2⟩ | ⟨k, i, g1, g2, g3, g4, g5⟩
 ·exact .inl ⟨hpr.symm.trans g1, fun k hk i e hi he => by rw [← conv he]; exact g2 k hk i hi⟩
 ·obtain ⟨e, he⟩ := Zeo T g2
  exact .inr ⟨k, i, e, g1, g2, he, by rw [← conv he]; exact g3, hpr.symm.trans g4, fun k' hk' i e hi he => by rw [← conv he]; exact g5 k' hk' i hi⟩
theorem Wv (hk : HK knd) {S x : Addr} {k : K} {o : Obj} {es : Array (Int × Value)} {ep : Nat} {t : SetTable} {n : Nat} {Q : SetFound → Shared → Prop}
  (hroom : knd.room A) (hx : knd.is s.heap k x) (ho : s.heap.get? S = some o) (hd : o.data = .set es ep t) (T : T0 t es) (hm : t.mask % 2 = 1) (hf : es.size ≤ t.mask)
  (hel : ∀ e ∈ es.toList, ∃ k', Elem knd s.heap k' e)
  (hn : n < 10 * turns t.mask) (h1 : ∀ i < n, (it t.mask (st t.mask (knd.hash k)) i).j ∈ t.place.toList) (h2 : (it t.mask (st t.mask (knd.hash k)) n).j ∉ t.place.toList)
  (hThere : (∃ e ∈ es.toList, Elem knd s.heap k e) → Q (.there none) s) (hFree : (¬ ∃ e ∈ es.toList, Elem knd s.heap k e) → Q (.free (it t.mask (st t.mask (knd.hash k)) n).j false) s) :
  ∀ (d fuel m0 : Nat) (stand : Option Probe), m0 + d = n → d < fuel → stand.getD (t.probeStart (knd.hash k)) = it t.mask (st t.mask (knd.hash k)) m0 →
   (∀ i' < m0, ∀ (i : Nat) (e : Int × Value), t.place[i]? = some (it t.mask (st t.mask (knd.hash k)) i').j → es[i]? = some e → ¬ Elem knd s.heap k e) →
   wpAny (model prog w) A (setSearchFrom S (.ref x) (knd.hash k) true fuel stand) Q E s
 | d, 0, m0, stand, _, hfu, _, _ => absurd hfu (Nat.not_lt_zero _)
 | d, fuel + 1, m0, stand, hd0, hfu, hst, hold => by
  have hfit := T.fits hf
  unfold setSearchFrom
  refine wpAny_bind (wpAny_setState_of ho hd hfit ?_)
  dsimp only
  have hg : t.gaveWay = false := by unfold SetTable.gaveWay; rw [hm]; rfl
  rw [hg]
  simp only [Bool.false_eq_true, if_false]
  rw [hst]
  generalize hpr : t.probe _ (knd.hash k) _ = met
  have hdum : (it t.mask (st t.mask (knd.hash k)) m0).dummy = none := UP _ _ _
  have it0 : ∀ i, it t.mask (it t.mask (st t.mask (knd.hash k)) m0) i = it t.mask (st t.mask (knd.hash k)) (m0 + i) := fun i => (Wc _ _ _ _).symm
  rcases Zae (es := es) T hdum (n := d) (by omega) (fun i hi => by rw [it0]; exact h1 _ (by omega)) (by rw [it0, hd0]; exact h2) hpr (fun i => rfl) with ⟨rfl, g2⟩ | ⟨c, i, e, g1, g2, g3, g4, rfl, g5⟩
  ·dsimp only
   rw [it0, hd0]
   refine wpAny_pure (hFree ?_)
   rintro ⟨e, he, el⟩
   obtain ⟨i, hi, rfl⟩ := List.getElem_of_mem he
   have hi' : es[i]? = some es.toList[i] := by rw [← Array.getElem?_toList]; exact List.getElem?_eq_getElem hi
   obtain ⟨j, hj, hz⟩ := Zeb T hi'
   obtain ⟨a, ea, hka, eh⟩ := id el
   obtain ⟨nn, hnn, hocc⟩ := T.ld _ hz
   dsimp only at hnn hocc
   rw [eh] at hnn hocc
   have hlt : nn < n := by
    rcases Nat.lt_trichotomy nn n with q | q | q
    ·exact q
    ·rw [q] at hnn
     exact absurd (by rw [hnn]; exact Zec hj) h2
    ·exact absurd (hocc n q) h2
   by_cases hm0 : nn < m0
   ·exact hold nn hm0 i _ (by rw [hnn]; exact hj) hi' el
   ·obtain ⟨c, rfl⟩ : ∃ c, nn = m0 + c := ⟨nn - m0, by omega⟩
    exact g2 c (by omega) i _ (by rw [it0, hnn]; exact hj) hi' eh
  ·have hem : e ∈ es.toList := by rw [← Array.getElem?_toList] at g3; exact List.mem_of_getElem? g3
   obtain ⟨k2, b, eb, hkb, ehb⟩ := hel e hem
   rw [it0] at g2
   have hseen : ∀ y ∈ List.map (fun x => x.snd) (Array.filter (fun x => x.fst == knd.hash k) es).toList, ∃ k' b, y = Value.ref b ∧ knd.is s.heap k' b := fun y hy => by
    obtain ⟨z, hz, rfl⟩ := List.mem_map.mp hy
    have hz' : z ∈ es.toList := by
     rw [Array.toList_filter] at hz
     exact (List.mem_filter.mp hz).1
    obtain ⟨k3, b3, e3, h3, _⟩ := hel z hz'
    exact ⟨k3, b3, e3, h3⟩
   have hslot : t.slot (it t.mask (it t.mask (st t.mask (knd.hash k)) m0) c).j = .live i := WA T.ris (by rw [it0]; exact g2)
   have hrec : ¬ k2 = k → wpAny (model prog w) A (setSearchFrom S (.ref x) (knd.hash k) true fuel (some (it t.mask (it t.mask (st t.mask (knd.hash k)) m0) (c + 1)))) Q E s := fun hne => by
    refine Wv hk hroom hx ho hd T hm hf hel hn h1 h2 hThere hFree (d - c - 1) fuel (m0 + c + 1) _ (by omega) (by omega) (by rw [it0]; rfl) fun i' hi' i2 e2 hp2 he2 el2 => ?_
    by_cases q1 : i' < m0
    ·exact hold i' q1 i2 e2 hp2 he2 el2
    ·by_cases q2 : i' < m0 + c
     ·obtain ⟨c', rfl⟩ : ∃ c', i' = m0 + c' := ⟨i' - m0, by omega⟩
      obtain ⟨_, _, _, eh2⟩ := el2
      exact g5 c' (by omega) i2 e2 (by rw [it0]; exact hp2) he2 eh2
     ·have e0 : i' = m0 + c := by omega
      subst e0
      have ei : i2 = i := (YK T.ris hp2).symm.trans (YK T.ris g2)
      subst ei
      rw [g3] at he2
      cases he2
      obtain ⟨b', eb', hkb', _⟩ := el2
      rw [eb] at eb'
      cases eb'
      exact hne (knd.inj hkb hkb')
   dsimp only
   cases hl : t.led with
   | false =>
    simp only [Bool.not_false, if_true]
    refine wpAny_bind (ZcW hk hx hseen ?_)
    simp only [Bool.false_eq_true, if_false]
    rw [g3]
    dsimp only
    refine wpAny_bind (wpAny_holding ?_)
    rw [eb]
    refine knd.eqBool hroom hkb hx ?_
    refine wpAny_bind (wpAny_setState_of ho hd hfit ?_)
    by_cases hq : k2 = k
    ·rw [decide_eq_true hq]
     simp only [Bool.and_self, if_true]
     refine wpAny_pure (hThere ⟨e, hem, b, eb, by rw [← hq]; exact hkb, by rw [← hq]; exact ehb⟩)
    ·rw [decide_eq_false hq]
     simp only [Bool.and_false, Bool.false_eq_true, if_false]
     have hsm : t.sameMemory t.moves t.mask = some true := by unfold SetTable.sameMemory; simp
     rw [hsm]
     dsimp only
     rw [if_pos rfl, hslot]
     dsimp only
     rw [g3]
     dsimp only
     rw [eb]
     refine wpAny_bind (wpAny_isSame_ref_self ?_)
     refine wpAny_bind (wpAny_pure ?_)
     rw [if_pos rfl]
     dsimp only
     exact hrec hq
   | true =>
    simp only [Bool.not_true, Bool.false_eq_true, if_false]
    rw [g3]
    dsimp only
    refine wpAny_bind (wpAny_holding ?_)
    rw [eb]
    refine knd.eqBool hroom hkb hx ?_
    refine wpAny_bind (wpAny_setState_of ho hd hfit ?_)
    by_cases hq : k2 = k
    ·rw [decide_eq_true hq]
     simp only [Bool.and_self, if_true]
     refine wpAny_pure (hThere ⟨e, hem, b, eb, by rw [← hq]; exact hkb, by rw [← hq]; exact ehb⟩)
    ·rw [decide_eq_false hq]
     simp only [Bool.and_false, Bool.false_eq_true, if_false]
     have hsm : t.sameMemory t.moves t.mask = some true := by unfold SetTable.sameMemory; simp
     rw [hsm]
     dsimp only
     rw [if_pos rfl, hslot]
     dsimp only
     rw [g3]
     dsimp only
     rw [eb]
     refine wpAny_bind (wpAny_isSame_ref_self ?_)
     refine wpAny_bind (wpAny_pure ?_)
     rw [if_pos rfl]
     dsimp only
     exact hrec hq
end
end HS
set_option Elab.async false
set_option linter.all false
set_option maxRecDepth 100000
set_option maxHeartbeats 4000000
namespace HS
open PySem PySem.SetTable
section
variable {prog : Program} {w : World} {K : Type} [DecidableEq K] {knd : HeapKind prog w K} {A : Around} {E : Value → Shared → Prop} {s : Shared}
structure SetH (knd : HeapKind prog w K) (h : Heap) (S : Addr) (ks : List K) (o : Obj) (es : Array (Int × Value)) (ep : Nat) (t : SetTable) : Prop where
 ho : h.get? S = some o
 ex : o.ExactSet
 hd : o.data = .set es ep t
 T : T0 t es
 room : Roomy t.mask es.size
 el : ∀ e ∈ es.toList, ∃ k ∈ ks, Elem knd h k e
 all : ∀ k ∈ ks, ∃ e ∈ es.toList, Elem knd h k e
 sz : es.size = ks.length
def IsSetH (knd : HeapKind prog w K) (h : Heap) (S : Addr) (ks : List K) : Prop := ∃ o es ep t, SetH knd h S ks o es ep t
theorem YT (hk : HK knd) {h h' : Heap} {S : Addr} {o : Obj} {es ep t} (ho : h.get? S = some o) (hd : o.data = .set es ep t) (hs : Heap.SameBut S h h') {k : K} {e : Int × Value} (x : Elem knd h k e) : Elem knd h' k e := by
 obtain ⟨a, e1, e2, e3⟩ := x
 exact ⟨a, e1, hk.keepsS e2 ho hd hs, e3⟩
theorem ZbQ {S : Addr} {o : Obj} {es : Array (Int × Value)} {ep : Nat} {t : SetTable} {Q : Unit → Shared → Prop} (ho : s.heap.get? S = some o) (hd : o.data = .set es ep t) (hf : t.fits es.size = true) {wanted : Nat} (hm : Msk (sizeAbove wanted - 1)) (hw : sizeAbove wanted ≤ 512) (hl : es.size ≤ sizeAbove wanted - 1)
  (h : ∀ es' t', t'.mask = sizeAbove wanted - 1 → T0 t' es' → es'.toList.Perm es.toList → Q () { s with heap := s.heap.update S (Obj.putSet es' t') }) : wpAny (model prog w) A (setRelay S wanted) Q E s := by
 unfold setRelay
 refine wpAny_bind (wpAny_setState_of ho hd hf ?_)
 dsimp only
 rw [if_neg (by rw [sizeLine_eq]; omega)]
 obtain ⟨t', order, e, em, T', pm⟩ := ZbE hm es (by omega) t.finger (t.movedTo (sizeAbove wanted - 1)) t.led t.plain
 have er : t.relaid (es.map (·.1)) wanted = some (t', order) := e
 rw [er]
 refine wpAny_bind ?_
 have hz : (order.filterMap (es[·]?)).size = es.size := by rw [← Array.length_toList, pm.length_eq, Array.length_toList]
 refine (show wpAny _ _ (if ((order.filterMap (es[·]?)).size != es.size) = true then _ else pure _) _ _ s from ?_)
 rw [if_neg (by rw [hz]; simp)]
 refine wpAny_pure ?_
 dsimp only
 refine wpAny_storeSet_of ho hd (h _ _ em T' pm) (by rw [hz, sizeLine_eq]; omega)
theorem ZaA {h : Heap} {S : Addr} {o : Obj} {es : Array (Int × Value)} {ep : Nat} {t : SetTable} (ho : h.get? S = some o) (hd : o.data = .set es ep t) (es' : Array (Int × Value)) (t' : SetTable) : (h.update S (Obj.putSet es' t')).get? S = some { o with data := .set es' (ep + 1) t' } := by
 have := Heap.get?_update_self (Obj.putSet es' t') ho (by rw [putSet_of es' t' hd]; rfl)
 rw [putSet_of es' t' hd] at this
 exact this
theorem ZdB (hk : HK knd) {S x : Addr} {k : K} {ks : List K} {Q : Bool → Shared → Prop} (hroom : knd.room A) (hx : knd.is s.heap k x) (H : IsSetH knd s.heap S ks) (hn : ks.length + 1 ≤ 306)
  (h : ∀ h' b, Heap.SameBut S s.heap h' → IsSetH knd h' S (if k ∈ ks then ks else ks ++ [k]) → Q b { s with heap := h' }) :
  wpAny (model prog w) A (setAddHashed S (.ref x) (knd.hash k)) Q E s := by
 obtain ⟨o, es, ep, t, H⟩ := H
 have hfit := H.T.fits (Nat.le_of_lt (Nat.lt_of_succ_lt H.room.lt))
 unfold setAddHashed setAddHashedIn
 refine wpAny_holding (wpAny_bind (wpAny_setState_of H.ho H.hd hfit ?_))
 dsimp only
 have hb : byScan (.ref x) es = false := rfl
 rw [hb]
 simp only [Bool.false_eq_true, if_false]
 obtain ⟨f, hf, hfo⟩ := H.T.free (by have := H.room.lt; omega)
 obtain ⟨n, hn1, hn2, hn3⟩ := Zap (occ := (· ∈ t.place.toList)) H.room.msk (knd.hash k) hf hfo
 have odd : t.mask % 2 = 1 := by rcases H.room.msk with q | q | q | q <;> rw [q]
 unfold setSearch
 refine wpAny_bind ?_
 refine Wv hk hroom hx H.ho H.hd H.T odd (by have := H.room.lt; omega) (fun e he => let ⟨k', _, el⟩ := H.el e he; ⟨k', el⟩) hn1 hn2 hn3 (fun hth => ?_) (fun hfr => ?_) n 100000 0 none (by omega) ?_ rfl (fun i' hi' => absurd hi' (Nat.not_lt_zero _))
 ·dsimp only
  refine wpAny_pure ?_
  have hmem : k ∈ ks := by
   obtain ⟨e, he, a, ea, hka, _⟩ := hth
   obtain ⟨k', hk', a', ea', hka', _⟩ := H.el e he
   rw [ea] at ea'
   cases ea'
   rw [knd.inj hka hka']
   exact hk'
  have := h s.heap false (Heap.SameBut.refl _ _) (by rw [if_pos hmem]; exact ⟨o, es, ep, t, H⟩)
  exact this
 ·dsimp only
  have hmem : k ∉ ks := fun m => hfr (H.all k m)
  refine wpAny_bind (wpAny_setState_of H.ho H.hd hfit ?_)
  dsimp only
  generalize hfe : (it t.mask (st t.mask (knd.hash k)) n).j = f'
  have Tp := fun pl => H.T.put (x := .ref x) hn2 hn3 pl
  rw [hfe] at Tp
  have esz : (insertAt es (t.put f').2 (knd.hash k, .ref x)).size = es.size + 1 := by rw [← Array.length_toList, (insertAt_perm es _ _).length_eq, Array.length_toList, Array.size_push]
  have emem : ∀ e, e ∈ (insertAt es (t.put f').2 (knd.hash k, Value.ref x)).toList ↔ e ∈ es.toList ∨ e = (knd.hash k, Value.ref x) := fun e => by
   rw [(insertAt_perm es _ _).mem_iff, Array.toList_push, List.mem_append, List.mem_singleton]
  have hel : ∀ e ∈ (insertAt es (t.put f').2 (knd.hash k, Value.ref x)).toList, ∃ k' ∈ ks ++ [k], Elem knd s.heap k' e := fun e he => by
   rcases (emem e).mp he with q | q
   ·obtain ⟨k', h1, h2⟩ := H.el e q
    exact ⟨k', List.mem_append_left _ h1, h2⟩
   ·exact ⟨k, by simp, x, by rw [q], hx, by rw [q]⟩
  have hal : ∀ k' ∈ ks ++ [k], ∃ e ∈ (insertAt es (t.put f').2 (knd.hash k, Value.ref x)).toList, Elem knd s.heap k' e := fun k' hk' => by
   rcases List.mem_append.mp hk' with q | q
   ·obtain ⟨e, h1, h2⟩ := H.all k' q
    exact ⟨e, (emem e).mpr (.inl h1), h2⟩
   ·rw [List.mem_singleton.mp q]
    exact ⟨_, (emem _).mpr (.inr rfl), x, rfl, hx, rfl⟩
  have hks : (insertAt es (t.put f').2 (knd.hash k, Value.ref x)).size = (ks ++ [k]).length := by rw [esz, List.length_append, List.length_singleton, H.sz]
  have h' := fun h' b => h h' b
  rw [if_neg hmem] at h'
  generalize hes1 : insertAt es (t.put f').2 (knd.hash k, Value.ref x) = es1 at *
  have tail : ∀ t1, (∃ pl, t1 = { (t.put f').1 with plain := pl }) → wpAny (model prog w) A (storeSet S es1 t1 >>= fun _ => if (!false && t1.tooFull) = true then (setRelay S (grown (es.size + 1)) >>= fun _ => pure true) else pure true) Q E s := by
   rintro t1 ⟨pl, rfl⟩
   have T1 := Tp pl
   have g1 := ZaA H.ho H.hd es1 { (t.put f').1 with plain := pl }
   have sb := Heap.SameBut.update s.heap S (Obj.putSet es1 { (t.put f').1 with plain := pl })
   refine wpAny_bind (wpAny_storeSet_of H.ho H.hd ?_ (by rw [esz, sizeLine_eq]; have := H.room.small; omega))
   have fill : ({ (t.put f').1 with plain := pl } : SetTable).tooFull = decide ((es.size + 1) * 5 ≥ t.mask * 3) := by
    unfold SetTable.tooFull SetTable.fill
    have a : ({ (t.put f').1 with plain := pl } : SetTable).place.size = es.size + 1 := by rw [T1.sz, esz]
    have b := T1.dum
    rw [b, a]
    rfl
   rw [fill]
   rcases grow H.room (by rw [H.sz]; exact hn) with ⟨q1, q2, q3⟩ | ⟨q1, q2⟩
   ·rw [decide_eq_true q1]
    simp only [Bool.not_false, Bool.and_self, if_true]
    refine wpAny_bind (ZbQ g1 rfl (T1.fits (by rw [esz]; exact Nat.le_of_lt H.room.lt)) q2.msk q3 (by have := q2.lt; rw [esz]; omega) fun es2 t2 em2 T2 pm2 => wpAny_pure (h' _ true (sb.trans (Heap.SameBut.update _ S _)) ?_))
    have sz2 : es2.size = es1.size := by rw [← Array.length_toList, pm2.length_eq, Array.length_toList]
    have sb2 := sb.trans (Heap.SameBut.update _ S (Obj.putSet es2 t2))
    exact ⟨_, es2, ep + 1 + 1, t2, ZaA g1 rfl es2 t2, H.ex, rfl, T2, by rw [em2, sz2, esz]; exact q2, fun e he => let ⟨k', a, b⟩ := hel e (pm2.mem_iff.mp he); ⟨k', a, YT hk H.ho H.hd sb2 b⟩, fun k' hk' => let ⟨e, a, b⟩ := hal k' hk'; ⟨e, pm2.mem_iff.mpr a, YT hk H.ho H.hd sb2 b⟩, by rw [sz2, hks]⟩
   ·rw [decide_eq_false q1]
    simp only [Bool.not_false, Bool.and_false, Bool.false_eq_true, if_false]
    refine wpAny_pure (h' _ true sb ?_)
    exact ⟨_, es1, ep + 1, _, g1, H.ex, rfl, T1, by rw [esz]; exact q2, fun e he => let ⟨k', a, b⟩ := hel e he; ⟨k', a, YT hk H.ho H.hd sb b⟩, fun k' hk' => let ⟨e, a, b⟩ := hal k' hk'; ⟨e, a, YT hk H.ho H.hd sb b⟩, hks⟩
  split
  ·refine wpAny_bind (hk.byVal hx fun b => ?_)
   cases b with
   | true => exact tail _ ⟨(t.put f').1.plain, rfl⟩
   | false => exact tail _ ⟨false, rfl⟩
  ·refine wpAny_bind (wpAny_pure ?_)
   exact tail _ ⟨(t.put f').1.plain, rfl⟩
 ·have : 10 * turns t.mask ≤ 5260 := by
   unfold turns
   rcases H.room.msk with q | q | q | q <;> rw [q] <;> decide
  omega
end
end HS
set_option Elab.async false
set_option linter.all false
set_option maxRecDepth 100000
set_option maxHeartbeats 4000000
namespace HS
open PySem PySem.SetTable PySem.Spec
theorem ZcA (n : Nat) {v : Value} (h : carriedByValue v = true) : ∃ b, hashByValue n v = pure b := by
 cases n <;> cases v <;> first | exact ⟨_, rfl⟩ | (simp [carriedByValue] at h)
theorem Zcl (n : Nat) {v : Value} (h : carriedByValue v = true) : ofAClassStatement n v = pure false := by
 cases n <;> cases v <;> first | rfl | (simp [carriedByValue] at h) | (unfold ofAClassStatement; rfl)
section
variable {prog : Program} {w : World} {K : Type} [DecidableEq K] {knd : KeyKind prog w K} {A : Around} {E : Value → Shared → Prop} {s : Shared}
theorem U3 {ks : List K} {a : Addr} {Q : Bool → Shared → Prop} (hk : IsTupleKey knd s.heap ks a) (h : ∀ b, Q b s) : wpAny (model prog w) A (hashByValue 8 (.ref a)) Q E s := by
 have hT := hk.typeIs
 obtain ⟨o, items, n, ho, _, hd, hi⟩ := hk
 unfold hashByValue
 refine wpAny_bind (wpAny_specialOf hT F.slot_tuple_hash.lookup ?_)
 refine (show wpAny _ _ (seqItems? (.ref a) >>= _) _ _ s from wpAny_bind (wpAny_seqItems ho hd ?_))
 refine wpAny_bind ?_
 show wpAny _ _ (forIn items _ _) _ _ s
 rw [← Array.forIn_toList]
 refine wpAny_forIn_list _ (fun rest r s' => r.1 = none ∧ s' = s ∧ ∀ v ∈ rest, carriedByValue v = true) _ ?_ ?_ _ _ ⟨rfl, rfl, hi.byValue⟩
 ·rintro v rest r s' ⟨hr, rfl, hall⟩
  obtain ⟨b, e⟩ := ZcA 7 (hall v List.mem_cons_self)
  rw [e]
  refine wpAny_bind (wpAny_pure ?_)
  cases b with
  | true =>
   simp only [Bool.not_true, Bool.false_eq_true, if_false]
   exact wpAny_pure ⟨rfl, rfl, fun u hu' => hall u (List.mem_cons_of_mem _ hu')⟩
  | false =>
   simp only [Bool.not_false, if_true]
   exact wpAny_pure (wpAny_pure (h false))
 ·rintro ⟨r1, r2⟩ s' ⟨hr, rfl, _⟩
  simp only at hr
  subst hr
  exact wpAny_pure (h true)
theorem W4 {ks : List K} {a : Addr} {Q : Bool → Shared → Prop} (hk : IsTupleKey knd s.heap ks a) (h : Q false s) : wpAny (model prog w) A (ofAClassStatement 8 (.ref a)) Q E s := by
 have hT := hk.typeIs
 obtain ⟨o, items, n, ho, _, hd, hi⟩ := hk
 unfold ofAClassStatement
 refine wpAny_bind (wpAny_typeOf hT ?_)
 dsimp only
 rw [if_pos (by decide)]
 refine wpAny_bind (wpAny_pure ?_)
 simp only [Bool.not_true, Bool.false_eq_true, if_false]
 refine wpAny_bind (wpAny_seqItems ho hd ?_)
 dsimp only
 refine wpAny_bind ?_
 rw [← Array.forIn_toList]
 refine wpAny_forIn_list _ (fun rest r s' => r.1 = none ∧ s' = s ∧ ∀ v ∈ rest, carriedByValue v = true) _ ?_ ?_ _ _ ⟨rfl, rfl, hi.byValue⟩
 ·rintro v rest r s' ⟨hr, rfl, hall⟩
  rw [Zcl 7 (hall v List.mem_cons_self)]
  refine wpAny_bind (wpAny_pure ?_)
  simp only [Bool.false_eq_true, if_false]
  exact wpAny_pure ⟨rfl, rfl, fun u hu' => hall u (List.mem_cons_of_mem _ hu')⟩
 ·rintro ⟨r1, r2⟩ s' ⟨hr, rfl, _⟩
  simp only at hr
  subst hr
  exact wpAny_pure h
theorem Zcz (knd : KeyKind prog w K) : HK (tupleKind knd) := by
 refine ⟨fun hk h => U3 hk h, fun hk h => W4 hk h, ?_⟩
 intro h h' k a d o es ep t x ho hd hs
 obtain ⟨o', items, n, ho', hc, hd', hi⟩ := x
 have hne : a ≠ d := by
  rintro rfl
  obtain rfl : o' = o := Option.some.inj (ho'.symm.trans ho)
  rw [hd] at hd'
  exact nomatch hd'
 exact ⟨o', items, n, (hs.2 a hne).trans ho', hc, hd', hi⟩
end
section
variable {K : Type} [DecidableEq K]
def met (val : Nat → K) : Nat → List K
 | 0 => []
 | n + 1 => if val n ∈ met val n then met val n else met val n ++ [val n]
theorem Ja (val : Nat → K) (n : Nat) : met val (n + 1) = if val n ∈ met val n then met val n else met val n ++ [val n] := rfl
theorem W7 (val : Nat → K) : ∀ n, (met val n).length ≤ n
 | 0 => Nat.le_refl _
 | n + 1 => by
  rw [Ja]
  have := W7 val n
  split
  ·omega
  ·rw [List.length_append, List.length_singleton]; omega
theorem ZaN (val : Nat → K) : ∀ n k, k ∈ met val n ↔ k ∈ (List.range n).map val
 | 0, k => by simp [met]
 | n + 1, k => by
  rw [List.range_succ, List.map_append, List.mem_append, ← ZaN val n k, Ja]
  split
  ·rename_i h
   simp only [List.map_cons, List.map_nil, List.mem_singleton]
   exact ⟨.inl, fun z => z.elim id fun e => by rw [e]; exact h⟩
  ·simp
theorem met_nodup (val : Nat → K) : ∀ n, ((met val n).length = n ↔ ((List.range n).map val).Nodup)
 | 0 => by simp [met]
 | n + 1 => by
  have ih := met_nodup val n
  have le := W7 val n
  have mm := ZaN val n (val n)
  rw [List.range_succ, List.map_append]
  have nd : ((List.range n).map val ++ List.map val [n]).Nodup ↔ ((List.range n).map val).Nodup ∧ ¬ val n ∈ (List.range n).map val := by
   rw [List.nodup_append]
   constructor
   ·rintro ⟨h1, _, h3⟩
    exact ⟨h1, fun m => h3 _ m (val n) (by simp) rfl⟩
   ·rintro ⟨h1, h2⟩
    refine ⟨h1, by simp, fun a ha b hb q => h2 ?_⟩
    have hb' : b = val n := by simpa using hb
    rw [← hb', ← q]; exact ha
  rw [nd, ← ih, ← mm, Ja]
  split
  ·rename_i h
   constructor
   ·intro z; omega
   ·rintro ⟨_, z⟩; exact absurd h z
  ·rename_i h
   rw [List.length_append, List.length_singleton]
   constructor
   ·intro z; exact ⟨by omega, h⟩
   ·rintro ⟨z, _⟩; omega
variable {prog : Program} {w : World} {kk : KeyKind prog w K} {A : Around} {E : Value → Shared → Prop} {s : Shared} {R : Result → Shared → Prop} {I : Addr} {fp wr : List Addr} {G : Array GenState → Array GenState → Prop} {n : Nat} {P : Nat → Value → Prop} {St : Nat → Shared → Prop}
def NoTup (h : Heap) (b : Addr) : Prop := ∃ o, h.get? b = some o ∧ o.cls ≠ .type "tuple"
theorem Jc {h h' : Heap} {ws : List Addr} {ks : List K} {a : Addr} (hw : ∀ b ∈ ws, NoTup h b) (hkeep : ∀ b o, b ∉ ws → h.get? b = some o → h'.get? b = some o) (x : IsTupleKey kk h ks a) : IsTupleKey kk h' ks a := by
 obtain ⟨o', items, n, ho', hc, hd', hi⟩ := x
 have hne : a ∉ ws := fun m => by
  obtain ⟨o, ho, hn⟩ := hw a m
  rw [ho'] at ho
  cases ho
  exact hn hc
 exact ⟨o', items, n, hkeep _ _ hne ho', hc, hd', hi⟩
theorem Uo {h h' : Heap} {ws : List Addr} {S : Addr} {ks : List (List K)} (hw : ∀ b ∈ ws, NoTup h b) (hS : S ∉ ws) (hkeep : ∀ b o, b ∉ ws → h.get? b = some o → h'.get? b = some o) (x : IsSetH (tupleKind kk) h S ks) : IsSetH (tupleKind kk) h' S ks := by
 obtain ⟨o, es, ep, t, X⟩ := x
 have ke : ∀ {k : List K} {e : Int × Value}, Elem (tupleKind kk) h k e → Elem (tupleKind kk) h' k e := fun ⟨a, e1, e2, e3⟩ => ⟨a, e1, Jc hw hkeep e2, e3⟩
 exact ⟨o, es, ep, t, hkeep _ _ hS X.ho, X.ex, X.hd, X.T, X.room, fun e he => let ⟨k, a, b⟩ := X.el e he; ⟨k, a, ke b⟩, fun k hk => let ⟨e, a, b⟩ := X.all k hk; ⟨e, a, ke b⟩, X.sz⟩
theorem Zbg {h : Heap} {S : Addr} {ks : List (List K)} (x : IsSetH (tupleKind kk) h S ks) : NoTup h S := by
 obtain ⟨o, es, ep, t, X⟩ := x
 exact ⟨o, X.ho, by rw [X.ex.1]; decide⟩
theorem loopH (hroom : A.in1.units < cLine) (W : WalksS prog w A.in1 I fp wr G n P St) (S : Addr) (hSf : S ∉ fp) (val : Nat → List K) (hb : n ≤ 305) (hI : ∀ i s, St i s → ∀ b ∈ wr, NoTup s.heap b) :
  ∀ (k i : Nat) (s : Shared), n - i = k → i ≤ n → St i s → IsSetH (tupleKind kk) s.heap S (met val i) → (∀ i v, P i v → ∃ a, v = .ref a ∧ IsTupleKey kk s.heap (val i) a) →
   (∀ s', Moved (S :: wr) G s s' → IsSetH (tupleKind kk) s'.heap S (met val n) → R (.ok (.ret .none)) s') →
   codeAny (model prog w) A (.builtin "set.update.loop" ⟨[.ref S, .ref I], []⟩) R s := by
 have hSw : S ∉ wr := fun h => hSf (W.sub _ h)
 have hsub : ∀ b ∈ wr, b ∈ S :: wr := fun b hb => List.mem_cons_of_mem _ hb
 intro k
 induction k with
 | zero =>
  intro i s hk' hi hst' hS hKey hR
  have hin : i = n := by omega
  subst hin
  refine codeAny_builtin PyProof.Rows.F.entry_set_update_loop ?_
  rw [Around.under_plainId PyProof.Rows.F.plain_set_update_loop _]
  show wpAny _ A.in1 (pyNext (.ref I) >>= _) _ _ s
  refine wpAny_bind (W.done s _ _ hst' fun s' hm => ?_)
  show wpAny _ A.in1 (ret Value.none) _ _ s'
  exact wpAny_pure (hR s' (hm.mono hsub) (Uo (hI _ _ hst') hSw (fun b o hb e => hm.heap b o hb e) hS))
 | succ k ih =>
  intro i s hk' hi hst' hS hKey hR
  have hlt : i < n := by omega
  refine codeAny_builtin PyProof.Rows.F.entry_set_update_loop ?_
  rw [Around.under_plainId PyProof.Rows.F.plain_set_update_loop _]
  show wpAny _ A.in1 (pyNext (.ref I) >>= _) _ _ s
  refine wpAny_bind (W.item i s _ _ hlt hst' fun v s' hP hst2 hm => ?_)
  have kp : ∀ b o, b ∉ wr → s.heap.get? b = some o → s'.heap.get? b = some o := fun b o hb e => hm.heap b o hb e
  have hS' := Uo (hI _ _ hst') hSw kp hS
  have hKey' : ∀ i v, P i v → ∃ a, v = .ref a ∧ IsTupleKey kk s'.heap (val i) a := fun i v hv => let ⟨a, e, x⟩ := hKey i v hv; ⟨a, e, Jc (hI _ _ hst') kp x⟩
  obtain ⟨a, rfl, hka⟩ := hKey' i v hP
  show wpAny _ A.in1 (holding [Value.ref a] (setAdd S (.ref a)) >>= _) _ _ s'
  refine wpAny_bind (wpAny_holding ?_)
  unfold setAdd
  refine wpAny_holding ?_
  refine wpAny_bind ((tupleKind kk).pyHash hroom hka ?_)
  refine ZdB (s := { s' with toks := s'.toks + (tupleKind kk).draws (val i) }) (Zcz kk) hroom hka hS' (by have := W7 val i; omega) fun h' b sb hS2 => ?_
  have sbk : ∀ b o, b ∉ [S] → s'.heap.get? b = some o → h'.get? b = some o := fun b o hb e => by
   rw [sb.2 b (fun z => hb (by rw [z]; exact List.mem_singleton.mpr rfl))]; exact e
  have nS : ∀ b ∈ [S], NoTup s'.heap b := fun b hb => by rw [List.mem_singleton.mp hb]; exact Zbg hS'
  refine wpAny_pure ⟨plainId_quiet PyProof.Rows.F.plain_set_update_loop _, ih (i + 1) _ (by omega) hlt (W.frame _ s' _ _ hst2 (Nat.le_add_right _ _) fun b hb o e => ?_) (by rw [Ja]; exact hS2) (fun i v hv => let ⟨a, e, x⟩ := hKey' i v hv; ⟨a, e, Jc nS sbk x⟩) fun s'' hm'' hS'' => ?_⟩
  ·rw [sb.2 b (fun h : b = S => hSf (by rw [← h]; exact hb))]; exact e
  ·refine hR s'' (Moved.trans W.gtrans ((hm.mono hsub).then_heap (Nat.le_add_right _ _) fun b o hb e => ?_) hm'') hS''
   rw [sb.2 b (fun h : b = S => hb (by rw [h]; exact List.mem_cons_self))]; exact e
end
end HS
set_option Elab.async false
set_option linter.all false
set_option maxRecDepth 100000
set_option maxHeartbeats 8000000
namespace HS
open PySem PySem.SetTable PySem.Spec
section
variable {K : Type} [DecidableEq K] {prog : Program} {w : World} {kk : KeyKind prog w K} {A : Around} {E : Value → Shared → Prop} {s : Shared}
abbrev newS (led : Bool) : Obj := { cls := .type "set", dict := none, data := .set #[] 0 (.fresh 0 0 led) }
theorem ZbK {h : Heap} {S : Addr} (led : Bool) (g : h.get? S = some (newS led)) : IsSetH (tupleKind kk) h S [] := by
 refine ⟨_, #[], 0, _, g, ⟨rfl, rfl, rfl⟩, rfl, ⟨rfl, .nil, rfl, fun j hj => ?_, fun z hz => ?_⟩, .inl ⟨rfl, Nat.zero_le _⟩, fun e he => ?_, fun k hk => ?_, rfl⟩
 ·exact absurd hj (by simp [SetTable.fresh])
 ·exact absurd hz (by simp [SetTable.fresh])
 ·exact absurd he (by simp)
 ·exact absurd hk (by simp)
set_option maxHeartbeats 8000000 in
theorem call_setH {l : Addr} {items : Array Value} {val : Nat → List K} {Q : Value → Shared → Prop}
  (hh : A.handled = none) (hu : A.in1.in1.in1.units < cLine) (hl : s.heap.IsList l items) (hi : ∀ i v, items[i]? = some v → ∃ a, v = .ref a ∧ IsTupleKey kk s.heap (val i) a) (hb : items.size ≤ 305)
  (h : ∀ (h' : Heap) (tk : Nat), IsSetH (tupleKind kk) h' s.heap.objs.size (met val items.size) → (∀ b o, b < s.heap.objs.size → s.heap.get? b = some o → h'.get? b = some o) → Q (.ref s.heap.objs.size) { s with heap := h', toks := tk }) :
  wpAny (model prog w) A (call (.type "set") [.ref l]) Q E s := by
 have cS := F.called_set
 obtain ⟨c0, tl0, mro0⟩ := cS.mro
 have made0 := cS.made; have sub0 := cS.sub
 refine wpAny_call (codeAny_of_tree (show wpAny _ _ (callAny (.type "set") _) _ _ _ from ?_))
 refine wpAny_pure ⟨Code.quiet_builtin _ (by decide +kernel), codeAny_builtin F.entry_type_call ?_⟩
 rw [Around.under_plain (weight_type_call_type "set" [.ref l] []) rfl]
 have k1 := cS.notType; have k2 := cS.canCreate; have k3 := F.typeCall_set_1 (.ref l)
 repeat (any_goals (first | assumption | wp_step))
 refine codeAny_mono (code_set_new_1 (.ref l) (E := E) (Q₁ := fun ob s₁ => ∃ led : Bool, ob = .ref s.heap.objs.size ∧ s₁ = { s with heap := s.heap.push (newS led) }) fun led => ⟨led, rfl, rfl⟩) fun r₁ s₁ g₁ => ?_
 cases r₁ with
 | error e => exact g₁
 | ok f₁ =>
  cases f₁ with
  | ret ob =>
   obtain ⟨led, rfl, rfl⟩ := g₁
   have gS : (s.heap.push (newS led)).get? s.heap.objs.size = some (newS led) := Heap.get?_push_size _ rfl
   have tS : Shared.TypeIs { s with heap := s.heap.push (newS led) } (.ref s.heap.objs.size) "set" := ⟨_, gS, rfl⟩
   have li0 := cS.init.lookup; have bi0 := cS.init.bind (.ref s.heap.objs.size)
   repeat (any_goals (first | assumption | wp_step))
   refine codeAny_mono (codeAny_call_builtin (R := wants (fun r s₂ => r = .none ∧ ∃ h' tk, s₂ = { s with heap := h', toks := tk } ∧ IsSetH (tupleKind kk) h' s.heap.objs.size (met val items.size) ∧ (∀ b o, b < s.heap.objs.size → s.heap.get? b = some o → h'.get? b = some o)) E) cS.init.plain F.entry_set_init (check_set_init_1 tS ?_)) fun r₂ s₂ g₂ => ?_
   ·obtain ⟨⟨lc, ld, lt, ls⟩, hol, hcl, nl, hdl⟩ := hl
    simp only at hcl hdl
    subst hcl; subst hdl
    have hol' := Heap.get?_push_of_some (newS led) hol
    have sl1 := F.sub_list_set; have sl2 := F.sub_list_frozenset
    have ne0 : (Value.type "list" == Value.type "dict") = false := by decide
    have hl1 : (s.heap.push (newS led)).IsList l items := ⟨_, hol', rfl, nl, rfl⟩
    unfold Builtin.«set.__init__» noKeywords Builtin.Frozenset.updateFrom
    generalize hPy : pyIter = PI
    wp_walk
    subst hPy
    refine wpAny_pyIter_list hl1 (wpAny_bind (wpAny_runValue ?_))
    have llt : l < s.heap.objs.size := Heap.lt_size hol
    have hh3 : A.in1.in1.in1.handled = none := by simp [hh]
    have nI : l ≠ (s.heap.push (newS led)).objs.size := by rw [Heap.size_push]; exact Nat.ne_of_lt (Nat.lt_succ_of_lt llt)
    have Sf : s.heap.objs.size ∉ [(s.heap.push (newS led)).objs.size, l] := by
     rw [Heap.size_push]
     simp only [List.mem_cons, List.mem_singleton, List.not_mem_nil, or_false, not_or]
     exact ⟨Nat.ne_of_lt (Nat.lt_succ_self _), Nat.ne_of_gt llt⟩
    refine loopH (kk := kk) ?hroom ((Walks.list hh3 _ l nI items).toS) s.heap.objs.size Sf val hb ?hI (items.size - 0) 0 _ (by omega) (Nat.zero_le _) ⟨⟨_, Heap.get?_push_size _ rfl, rfl, rfl⟩, (hl1.push _)⟩ ?hS0 ?hKey ?hR
    case hroom => exact hu
    case hI =>
     rintro i s1 ⟨⟨o1, e1, e2, _⟩, _⟩ b hb
     rw [List.mem_singleton.mp hb]
     exact ⟨o1, e1, by rw [e2]; decide⟩
    case hS0 => exact ZbK led (Heap.get?_push_of_some _ gS)
    case hKey =>
     intro i v hv
     obtain ⟨a, e, x⟩ := hi i v hv
     refine ⟨a, e, Jc (ws := []) (fun b hb => absurd hb (by simp)) (fun b o _ eb => Heap.get?_push_of_some _ (Heap.get?_push_of_some _ eb)) x⟩
    case hR =>
     rintro ⟨h', g', d', tk', os'⟩ hm hS'
     obtain rfl : g' = s.gens := hm.gens
     obtain rfl : d' = s.drawn := hm.drawn
     obtain rfl : os' = s.os := hm.os
     show wpAny _ _ _ _ _ _
     refine wpAny_pure (show wpAny _ _ (ret Value.none) _ _ _ from wpAny_pure ⟨rfl, h', tk', rfl, hS', fun b o hb e => ?_⟩)
     refine hm.heap b o ?_ (Heap.get?_push_of_some _ (Heap.get?_push_of_some _ e))
     simp only [List.mem_cons, List.mem_singleton, List.not_mem_nil, or_false, not_or]
     exact ⟨Nat.ne_of_lt hb, by rw [Heap.size_push]; exact Nat.ne_of_lt (Nat.lt_succ_of_lt hb)⟩
   ·cases r₂ with
    | error e => exact g₂
    | ok f₂ =>
     cases f₂ with
     | ret r =>
      obtain ⟨rfl, h', tk, rfl, hS', hk'⟩ := g₂
      repeat (any_goals (first | assumption | wp_step))
      exact h _ _ hS' hk'
     | _ => exact g₂.elim
  | _ => exact g₁.elim
end
end HS
set_option Elab.async false
set_option linter.all false
set_option maxRecDepth 100000
set_option maxHeartbeats 4000000
namespace L2
open PySem PySem.Spec PyProof.Rows
def lenS (ks : List (List Int)) : Nat := (HS.met (fun i => ks.getD i []) ks.length).length
theorem ZaR (ks : List (List Int)) : lenS ks = ks.length ↔ ks.Nodup := by
 unfold lenS
 rw [HS.met_nodup]
 have e : (List.range ks.length).map (fun i => ks.getD i []) = ks := by
  refine List.ext_getElem (by simp) fun i h1 h2 => ?_
  rw [List.getElem_map, List.getElem_range, List.getD_eq_getElem?_getD, List.getElem?_eq_getElem h2, Option.getD_some]
 rw [e]
theorem items_int {prog : Program} {w : World} : ∀ {ks : List Int} {us : List Value}, Vals (ks.map V.int) us → ItemsAre (intKind prog w) ks us
 | [], _, .nil => .nil
 | k :: ks, _, .cons r rs => by
  obtain ⟨t, rfl⟩ := r
  exact .cons (intKind_is _ _ _ _) (items_int rs)
section
variable {X : Cx}
theorem tkey {pins : List (Addr × Obj)} {σ : St} {H : Hp} {s : Shared} {v : V} {u : Value} {k : List Int} (I : Inv X pins σ H s) (h : TpAt H v k) (r : RelV v u) : ∃ a, u = .ref a ∧ IsTupleKey (intKind X.prog X.w) s.heap k a := by
 obtain ⟨t, rfl, ht⟩ := h
 cases r
 obtain ⟨us, rv, ⟨o, ho, hc, n, hd⟩, _⟩ := I.tuple (SqT.of ht)
 exact ⟨t, rfl, o, us.toArray, n, ho, hc, hd, by simpa using items_int rv⟩
def tLenSet (K : PySem.W.Frag) (te : TE) : TE := fun σ H Q => te σ H fun v H1 => ∃ (l : Addr) (ts : List V) (ks : List (List Int)), v = .ref l ∧ SqL K H1 l ts ∧ Paired (TpAt H1) ts ks ∧ ts.length ≤ 305 ∧ Q (.int (lenS ks)) H1
theorem WD {e : Expr} {te : TE} {p p2 pos pos2 : Pos} (hc : X.calm = true) (hu : X.A.units + 4 < cLine) (hg : Gl X "len") (hm : X.mg "len" = none) (hg2 : Gl X "set") (hm2 : X.mg "set" = none) (he : PE X e te)
  (hs1 : starEach [.Call (.Name "set" p2) [e] [] pos2] X.env = [(false, eval (.Call (.Name "set" p2) [e] [] pos2) X.env)] := by rfl) (hs2 : starEach [e] X.env = [(false, eval e X.env)] := by rfl) :
  PE X (.Call (.Name "len" p) [.Call (.Name "set" p2) [e] [] pos2] [] pos) (tLenSet X.K te) := by
 intro pins s σ H Q I h
 refine wpAny_Call_Name_kw (Yl I hg hm boot_len ?_)
 refine PyProof.Rows.callWith_builtin1 ?_ hs1 rfl
 rw [hs1]
 show wpAny _ _ (spliced ((false, eval (.Call (.Name "set" p2) [e] [] pos2) X.env) :: backTo pos (starEach [] X.env))) _ _ s
 refine Calls.spliced_cons ?_
 refine wpAny_Call_Name_kw (Yl I hg2 hm2 boot_set ?_)
 have h2 : tCons te tNil σ H fun vs H1 => ∃ v, vs = [v] ∧ ∃ (l : Addr) (ts : List V) (ks : List (List Int)), v = .ref l ∧ SqL X.K H1 l ts ∧ Paired (TpAt H1) ts ks ∧ ts.length ≤ 305 ∧ Q (.int (lenS ks)) H1 := by
  have e0 : (fun (v : V) (H1 : Hp) => ∃ v' : V, [v] = [v'] ∧ ∃ (l : Addr) (ts : List V) (ks : List (List Int)), v' = .ref l ∧ SqL X.K H1 l ts ∧ Paired (TpAt H1) ts ks ∧ ts.length ≤ 305 ∧ Q (.int (lenS ks)) H1) = (fun (v : V) (H1 : Hp) => ∃ (l : Addr) (ts : List V) (ks : List (List Int)), v = .ref l ∧ SqL X.K H1 l ts ∧ Paired (TpAt H1) ts ks ∧ ts.length ≤ 305 ∧ Q (.int (lenS ks)) H1) := by
   funext v H1
   refine propext ⟨fun ⟨v', z, q⟩ => ?_, fun q => ⟨v, rfl, q⟩⟩
   cases z
   exact q
  show te σ H (fun (v : V) (H1 : Hp) => ∃ v' : V, [v] = [v'] ∧ ∃ (l : Addr) (ts : List V) (ks : List (List Int)), v' = .ref l ∧ SqL X.K H1 l ts ∧ Paired (TpAt H1) ts ks ∧ ts.length ≤ 305 ∧ Q (.int (lenS ks)) H1)
  rw [e0]
  exact h
 refine PyProof.Rows.callWith_type1 (thn (Za he Zb hs2 pos2 pins s σ H _ I h2) fun us s1 ⟨vs, H1, I1, r1, q1⟩ => ?_) hs2 rfl
 obtain ⟨v, rfl, l, ts, ks, rfl, hl, pr, hn, q⟩ := q1
 obtain ⟨u, rfl, ru⟩ := vals1 r1
 cases ru
 obtain ⟨its, rv, pl, hz⟩ := I1.list hl
 have ll := rv.length
 have lk := Paired.length pr
 refine HS.call_setH (kk := intKind X.prog X.w) (val := fun i => ks.getD i []) (items := its.toArray) (I1.ok.hd hc) (by show X.A.units + 1 + 1 + 1 < cLine; omega) pl.isList (fun i u hu' => ?_) (by rw [List.size_toArray]; omega) fun h' tk hS hk => ?_
 ·have hu2 : its[i]? = some u := by simpa using hu'
  have hi : i < ts.length := by rw [ll]; exact (List.getElem?_eq_some_iff.mp hu2).1
  obtain ⟨u', e1, r2⟩ := rv.get (List.getElem?_eq_getElem hi)
  rw [hu2] at e1
  cases e1
  obtain ⟨k, hk, tp⟩ := Us pr (List.getElem?_eq_getElem hi)
  obtain ⟨a, e, x⟩ := tkey I1 tp r2
  refine ⟨a, e, ?_⟩
  show IsTupleKey _ _ (ks.getD i []) a
  rw [List.getD_eq_getElem?_getD, hk]
  exact x
 ·have I2 : Inv X pins σ H1 { s1 with heap := h', toks := tk } := I1.kept fun b o eb => hk b o (Heap.lt_size eb) eb
  refine Calls.spliced_nil ?_
  obtain ⟨o, es, ep, t, SH⟩ := hS
  have sm := SH.room.small
  refine call_len_set SH.ho SH.ex SH.hd (SH.T.fits (Nat.le_of_lt (Nat.lt_of_succ_lt SH.room.lt))) (by omega) ?_
  have ez : (es.size : Int) = (lenS ks : Int) := by
   rw [SH.sz]
   unfold lenS
   rw [List.size_toArray, ← ll, lk]
  exact ⟨.int (lenS ks), H1, I2.tok _, ⟨_, by rw [← ez]⟩, q⟩
end
end L2
set_option Elab.async false
set_option linter.all false
set_option maxRecDepth 100000
set_option maxHeartbeats 4000000
namespace L2
open PySem PySem.Spec PyProof.Rows SeqAt
end L2
set_option Elab.async false
set_option linter.all false
set_option maxRecDepth 100000
set_option maxHeartbeats 4000000
namespace L2
open PySem PySem.Spec PyProof.Rows SeqAt
end L2
set_option Elab.async false
set_option linter.all false
set_option maxRecDepth 100000
set_option maxHeartbeats 4000000
namespace L2
open PySem PySem.Spec PyProof.Rows
end L2
set_option Elab.async false
set_option linter.all false
set_option maxRecDepth 100000
set_option maxHeartbeats 4000000
namespace L2
open PySem PySem.Spec PyProof.Rows
end L2
set_option Elab.async false
set_option linter.all false
set_option maxRecDepth 100000
set_option maxHeartbeats 4000000
namespace L2
open PySem PySem.Spec PyProof.Rows SeqAt
section
variable {X : Cx}
theorem Wt {a b : String} : CallR X (.builtin "isinstance") (fun xs H Q => ∃ (x : V) (t : Addr) (T : Value) (r : Bool), xs = [x, .ref t] ∧ SqT X.K H t [.ty a, .ty b] ∧ ((∃ i, x = .int i ∧ T = .type "int") ∨ (∃ k, x = .bl k ∧ T = .type "bool") ∨ (x = .non ∧ T = .type "NoneType") ∨ (∃ l ys, x = .ref l ∧ H l = some (.lst ys) ∧ T = .type "list") ∨ ∃ l ys, x = .ref l ∧ H l = some (.tup ys) ∧ T = .type "tuple") ∧
  PySem.W.kitAny X.K T [.type a, .type b] = some r ∧ Q (.bl r) H) := by
 intro pins s σ H xs us Q I rv h
 obtain ⟨x, t, T, r, rfl, hq, hx, hk, q⟩ := h
 obtain ⟨u, v, rfl, ru, rv⟩ := vals2 rv
 cases rv
 obtain ⟨its, rt, pl, hz⟩ := I.tuple hq
 cases rt with
 | cons r1 r2 =>
  cases r2 with
  | cons r3 r4 =>
   cases r4
   cases r1
   cases r3
   obtain ⟨o, ho, hc, n, hd⟩ := id pl
   obtain ⟨cls, dd, dt, sl⟩ := o
   replace hc : cls = .type "tuple" := hc
   replace hd : dt = .seq [Value.type a, Value.type b].toArray n := hd
   subst hc hd
   rcases hx with ⟨i, rfl, rfl⟩ | ⟨k, rfl, rfl⟩ | ⟨rfl, rfl⟩ | ⟨l, ys, rfl, hl, rfl⟩ | ⟨l, ys, rfl, hl, rfl⟩
   ·obtain ⟨tk, rfl⟩ := ru
    exact PySem.W.kia_tup PySem.W.kitx_int I.kIn True.intro ho hk (fun z => nomatch z) fun tk => ⟨.bl r, H, I.tok _, rfl, q⟩
   ·cases ru
    exact PySem.W.kia_tup PySem.W.kitx_bool I.kIn True.intro ho hk (fun z => nomatch z) fun tk => ⟨.bl r, H, I.tok _, rfl, q⟩
   ·cases ru
    exact PySem.W.kia_tup PySem.W.kitx_none I.kIn True.intro ho hk (fun z => nomatch z) fun tk => ⟨.bl r, H, I.tok _, rfl, q⟩
   ·cases ru
    obtain ⟨_, _, n, _, h1⟩ := (show ObjOk X.prog X.w H s.heap l (.lst ys) from I.hok l _ hl)
    exact PySem.W.kia_tup PySem.W.kitx_list I.kIn ⟨_, h1, rfl⟩ ho hk (fun z => nomatch z) fun tk => ⟨.bl r, H, I.tok _, rfl, q⟩
   ·cases ru
    obtain ⟨_, _, _, p, _⟩ := (show ObjOk X.prog X.w H s.heap l (.tup ys) from I.hok l _ hl)
    obtain ⟨o, h1, h2, _⟩ := p
    exact PySem.W.kia_tup PySem.W.kitx_tuple I.kIn ⟨o, h1, h2⟩ ho hk (fun z => nomatch z) fun tk => ⟨.bl r, H, I.tok _, rfl, q⟩
end
end L2
namespace L2
open PySem PySem.Spec PyProof.Rows
section
variable {X : Cx} {CX : CXT} {k : Nat} {f : Addr} {fd : FuncData} {ps : List Str} {ds : List Value} {dvs : List V} {sp : Sp} {E : XK} {x : Str} {p pos : Pos} {e : Expr} {es : List Expr} {t : TA}
theorem JQ {i : Nat} (F : FnOk X.prog X.w X.K X.mg X.base CX k f fd ps sp) (hr : Room k X.A) (hv : PE X (.Name x p) (tVar i)) (hk : PySem.W.keepIn X.K (.ref f) = true) (hb : Binds X.K fd ps ds) (hd : Vals dvs ds) (hx : Passes CX X E)
  (ha : PA X (e :: es) t) (he : starEach (e :: es) X.env = (false, eval e X.env) :: starEach es X.env := by rfl) (hpl : (backTo pos (starEach es X.env)).any (·.1) = false := by rfl) :
  PE X (.Call (.Name x p) (e :: es) [] pos) (fun σ H Q => σ[i]? = some (some (.ref f)) ∧ tCall sp dvs E t σ H Q) := by
 intro pins s σ H Q I h
 obtain ⟨hσ, h⟩ := h
 refine wpAny_Call_Name_kw (thn (hv pins s σ H (fun v H1 => v = .ref f ∧ H1 = H) I ⟨_, hσ, rfl, rfl⟩) fun u s1 ⟨v, H1, I1, rv, e1, e2⟩ => ?_)
 subst e1 e2
 cases rv
 refine PySem.W.callWith_K (h₀ := X.base) I1.ok.mod.kin hk (thn (ha pos pins s1 σ H1 _ I1 h) fun us s2 ⟨vs, H2, I2, r, q⟩ => ⟨I2.kIn, ?_⟩) he hpl
 exact ZbY F hr hb hd hx I2 r q
end
end L2
set_option Elab.async false
set_option linter.all false
set_option maxRecDepth 100000
set_option maxHeartbeats 40000000
namespace U
open PySem L2 PyProof.Rows
def top (i : Nat) : Stmt := PySem.Challenge.pw_unlikesteps_k85_round_steps.main.body.getD i (.Pass ⟨0, 0, 0, 0⟩)
structure Gs (mg : Str → Option Value) : Prop where
 isinstance : mg "isinstance" = none
 int : mg "int" = none
 bool : mg "bool" = none
 tuple : mg "tuple" = none
 list : mg "list" = none
 len : mg "len" = none
 all : mg "all" = none
 set : mg "set" = none
 range : mg "range" = none
 max : mg "max" = none
 min : mg "min" = none
 enumerate : mg "enumerate" = none
 zip : mg "zip" = none
 sorted : mg "sorted" = none
 longest : ∃ t, mg "LONGEST_SIDE" = some (.int 12 t)
end U
namespace U
open PySem L2 PyProof.Rows
section
theorem Ze {H : Hp} {p : Addr} {o : HO} (h : H p = none) : Same H (upd H p o) := fun b u hb => by rw [Zh (Zk hb h)]; exact hb
theorem ZbX {H H1 : Hp} {a : Addr} {o : HO} (s : Same H H1) (n : H a = none) : Same H (upd H1 a o) := fun b u e => by
 rw [Zh fun z => by rw [z, n] at e; cases e]
 exact s _ _ e
theorem Z0 {D : Ends} {σ : L2.St} {H : Hp} (h : D.nx σ H) : tNext D σ H := h
theorem Zq {t u : TS} {D : Ends} {σ : L2.St} {H : Hp} (h : t { D with nx := u D } σ H) : tSeq t u D σ H := h
theorem ZA {te : TE} {g : TG} {D : Ends} {σ : L2.St} {H : Hp} (h : te σ H fun v H1 => g v σ H1 D.nx) : tAsg te g D σ H := h
theorem Zr {i : Nat} {v : V} {σ : L2.St} {H : Hp} {Q : L2.St → Hp → Prop} (h : Q (σ.set i (some v)) H) : gName i v σ H Q := h
end
end U
namespace U
open PySem L2 PyProof.Rows
section
variable {P : Program} {w : World} {K : PySem.W.Frag} {mg : Str → Option Value} {base : Heap}
abbrev sWhole : Stmt := top 19
def spWhole (K : PySem.W.Frag) : Sp := fun vs H Q _ => ∃ x, vs = [x] ∧ PlT K H x ∧ Q (.bl (whole x)) H
theorem scWhole : FnScope ["thing"] ["thing"] (defScope sWhole) := ⟨rfl, rfl, rfl, by decide +kernel, rfl, by decide +kernel, by decide +kernel⟩
theorem Zcd {f : Addr} {fd : FuncData} (F : Fun K "is_whole" "is_whole" sWhole f fd) (G : Gs mg) : FnOk P w K mg base CX0 1 f fd ["thing"] (spWhole K) := by
 refine F.ok scWhole (fun vs H Q E h => ?_) (fun cdv A outer s H vs Q E hr h => ?_)
 ·obtain ⟨x, rfl, _⟩ := h
  rfl
 ·obtain ⟨x, rfl, ⟨T, t⟩, q⟩ := h
  refine ⟨_, Zn (ZF (Z2 (Zj (Zw (c := "int")) rfl G.isinstance boot_isinstance (Za (pv 0) (Za (ZB (v := .ty "int") rfl G.int boot_int rfl) Zb)))
   (Yb (ZdM (Zj (Zw (c := "bool")) rfl G.isinstance boot_isinstance (Za (pv 0) (Za (ZB (v := .ty "bool") rfl G.bool boot_bool rfl) Zb))))))), ?_⟩
  refine ⟨x, rfl, x, _, _, rfl, t, Zdk t, _, rfl, ?_⟩
  rw [UQ] at q
  cases e : isIntV x with
  | false => rw [e] at q; exact iteF q
  | true => rw [e] at q; exact iteT ⟨x, rfl, x, _, _, rfl, t, Zcx t, _, rfl, q⟩
abbrev sWithin : Stmt := top 20
def spWithin (K : PySem.W.Frag) : Sp := fun vs H Q _ => ∃ x a b, vs = [x, .int a, .int b] ∧ PlT K H x ∧ Q (.bl (wholeIn x a b)) H
theorem scWithin : FnScope ["thing", "least", "most"] ["thing", "least", "most"] (defScope sWithin) := ⟨rfl, rfl, rfl, by decide +kernel, rfl, by decide +kernel, by decide +kernel⟩
theorem Zbr {f : Addr} {fd : FuncData} (F : Fun K "is_whole_within" "is_whole_within" sWithin f fd) (D1 : Def P w K mg base 1 "is_whole" ["thing"] (spWhole K)) : FnOk P w K mg base CX0 2 f fd ["thing", "least", "most"] (spWithin K) := by
 refine F.ok scWithin (fun vs H Q E h => ?_) (fun cdv A outer s H vs Q E hr h => ?_)
 ·obtain ⟨x, a, b, rfl, _⟩ := h
  rfl
 ·obtain ⟨x, a, b, rfl, t, q⟩ := h
  refine ⟨_, Zn (ZF (Z2 (Zl D1 hr (Za (pv 0) Zb)) (Yb (Zca Zdw Zdw (pv 1) (pv 0) (pv 2))))), ?_⟩
  refine ⟨x, rfl, x, rfl, t, _, rfl, ?_⟩
  cases x with
  | int i =>
   refine iteT ⟨_, rfl, _, rfl, _, _, rfl, rfl, _, rfl, ?_⟩
   have e : wholeIn (.int i) a b = (decide (a ≤ i) && decide (i ≤ b)) := rfl
   rw [e] at q
   cases e1 : decide (a ≤ i) with
   | false => rw [e1] at q; exact iteF q
   | true => rw [e1] at q; exact iteT ⟨_, rfl, _, _, rfl, rfl, q⟩
  | _ => exact iteF q
abbrev sTupOf : Stmt := top 21
def spTupOf (K : PySem.W.Frag) : Sp := fun vs H Q _ => ∃ x n, vs = [x, .int n] ∧ PlT K H x ∧ Q (.bl (match tupOf H x with | some xs => decide ((xs.length : Int) = n) | none => false)) H
theorem scTupOf : FnScope ["thing", "many"] ["thing", "many"] (defScope sTupOf) := ⟨rfl, rfl, rfl, by decide +kernel, rfl, by decide +kernel, by decide +kernel⟩
theorem Zce {f : Addr} {fd : FuncData} (F : Fun K "is_tuple_of" "is_tuple_of" sTupOf f fd) (G : Gs mg) : FnOk P w K mg base CX0 1 f fd ["thing", "many"] (spTupOf K) := by
 refine F.ok scTupOf (fun vs H Q E h => ?_) (fun cdv A outer s H vs Q E hr h => ?_)
 ·obtain ⟨x, n, rfl, _⟩ := h
  rfl
 ·obtain ⟨x, n, rfl, ⟨T, t⟩, q⟩ := h
  refine ⟨_, Zn (ZF (Z2 (Zj (Zw (c := "tuple")) rfl G.isinstance boot_isinstance (Za (pv 0) (Za (ZB (v := .ty "tuple") rfl G.tuple boot_tuple rfl) Zb)))
   (Yb (ZL Yr (Zj Zp rfl G.len boot_len (Za (pv 0) Zb)) (pv 1) (nomark _))))), ?_⟩
  refine ⟨x, rfl, x, _, _, rfl, t, ZbF t, _, rfl, ?_⟩
  cases e : tupOf H x with
  | none => rw [e] at q; exact iteF q
  | some xs =>
   rw [e] at q
   obtain ⟨a, rfl, ha⟩ := ZH e
   refine iteT ⟨_, rfl, a, xs, rfl, .inr (SqT.of ha), _, rfl, rfl, ?_⟩
   have z : decide (V.int (xs.length : Int) = V.int n) = decide ((xs.length : Int) = n) := by simp
   rw [z]
   exact q
abbrev sBoard : Stmt := top 22
def isBoardL : Option (List V) → Bool
 | some [a, b] => wholeIn a 1 12 && wholeIn b 1 12
 | _ => false
def Pl1 (K : PySem.W.Frag) (H : Hp) (x : V) : Prop := PlT K H x ∧ ∀ xs, tupOf H x = some xs → ∀ y ∈ xs, PlT K H y
def spBoard (K : PySem.W.Frag) : Sp := fun vs H Q _ => ∃ x, vs = [x] ∧ Pl1 K H x ∧ ∀ H', Same H H' → Q (.bl (isBoardL (tupOf H x))) H'
theorem scBoard : FnScope ["thing"] ["thing"] (defScope sBoard) := ⟨rfl, rfl, rfl, by decide +kernel, rfl, by decide +kernel, by decide +kernel⟩
theorem Zck {f : Addr} {fd : FuncData} (F : Fun K "is_board" "is_board" sBoard f fd) (G : Gs mg) (D1 : Def P w K mg base 1 "is_tuple_of" ["thing", "many"] (spTupOf K)) (D2 : Def P w K mg base 2 "is_whole_within" ["thing", "least", "most"] (spWithin K)) :
  FnOk P w K mg base CX0 3 f fd ["thing"] (spBoard K) := by
 obtain ⟨tk, hL⟩ := G.longest
 refine F.ok scBoard (fun vs H Q E h => ?_) (fun cdv A outer s H vs Q E hr h => ?_)
 ·obtain ⟨x, rfl, _⟩ := h
  rfl
 ·obtain ⟨x, rfl, ⟨t, hi⟩, q⟩ := h
  refine ⟨_, Zn (ZF (Z2 (Zl D1 (hr.mono (by decide)) (Za (pv 0) (Za Zf Zb)))
   (Yb (Zj Jm rfl G.all boot_all (Za (YO ["side"] 1 [] (Zb7 (pv 0)) (fun C s H fp => pb 0) (fun C s H fp => Yt)
    (fun C s H fp D => Z8 rfl (Zl D2 (hr.mono (by decide)) (Za (pv 0) (Za Zf (Za (Y8 (v := .int 12) rfl hL ⟨_, rfl⟩) Zb)))))) Zb))))), ?_⟩
  refine ⟨x, rfl, x, 2, rfl, t, _, rfl, ?_⟩
  cases e : tupOf H x with
  | none => rw [e] at q; exact iteF (q H (Same.refl H))
  | some xs =>
   rw [e] at q
   obtain ⟨a, rfl, ha⟩ := ZH e
   show if decide ((xs.length : Int) = 2) = true then _ else _
   by_cases h2 : xs.length = 2
   ·rw [decide_eq_true (show (xs.length : Int) = 2 by omega)]
    refine iteT ⟨_, rfl, a, rfl, ⟨xs, SqT.of ha⟩, ?_⟩
    refine Uz (xs := xs) (fun i ys σ H2 => ys = (xs.take i).map (fun y => V.bl (wholeIn y 1 12)) ∧ H2 = H ∧ ∃ v, σ = [v]) ⟨rfl, rfl, none, rfl⟩ (fun i ys σ H2 _ ⟨_, e2, _⟩ => by rw [e2]; exact SqT.of ha) ?_ ?_
    ·rintro i y ys σ H2 hy ⟨rfl, rfl, v, rfl⟩
     have my : y ∈ xs := List.mem_of_getElem? hy
     refine ⟨y, rfl, y, 1, 12, rfl, hi xs e y my, ?_, ?_⟩
     ·rw [List.length_map, sizeLine_eq, List.length_take]; omega
     ·refine ⟨?_, rfl, _, rfl⟩
      rw [List.take_add_one, hy, List.map_append]
      rfl
    ·rintro ys σ H2 ⟨rfl, rfl, v, rfl⟩ p hp
     rw [List.take_length]
     refine ⟨p, xs.map (fun y => wholeIn y 1 12), rfl, ?_, ?_⟩
     ·rw [List.map_map]; exact SqL.of Zc
     ·have e3 : isBoardL (some xs) = (xs.map (fun y => wholeIn y 1 12)).all id := by
       match xs, h2 with
       | [a, b], _ => simp [isBoardL]
      rw [← e3]
      exact q _ fun b o hb => by rw [Zh (Zk hb hp)]; exact hb
   ·rw [decide_eq_false (show ¬ (xs.length : Int) = 2 by omega)]
    have e3 : isBoardL (some xs) = false := by
     match xs, h2 with
     | [], _ => rfl
     | [a], _ => rfl
     | [a, b], h => exact absurd rfl h
     | a :: b :: c :: r, _ => rfl
    rw [e3] at q
    exact iteF (q H (Same.refl H))
abbrev sCell : Stmt := top 31
def spCell (K : PySem.W.Frag) : Sp := fun vs H Q _ => ∃ (a : Addr) (ns : List Int) (k : Nat), vs = [.ref a, .int k] ∧ SqL K H a (ns.map V.int) ∧ ∀ n : Int, Q (.int n) H
theorem scCell : FnScope ["_law_script", "_law_k"] ["_law_script", "_law_k"] (defScope sCell) := ⟨rfl, rfl, rfl, by decide +kernel, rfl, by decide +kernel, by decide +kernel⟩
theorem Zdg {f : Addr} {fd : FuncData} (F : Fun K "_law_cell_at" "_law_cell_at" sCell f fd) (G : Gs mg) : FnOk P w K mg base CX0 1 f fd ["_law_script", "_law_k"] (spCell K) := by
 refine F.ok scCell (fun vs H Q E h => ?_) (fun cdv A outer s H vs Q E hr h => ?_)
 ·obtain ⟨a, ns, k, rfl, _⟩ := h
  rfl
 ·obtain ⟨a, ns, k, rfl, hs, q⟩ := h
  refine ⟨_, Zg (ZM (ZO Zdv (pv 1) (Zj Zp rfl G.len boot_len (Za (pv 0) Zb)) (nomark _)) (Zn (ZF (ZP ZK (pv 0) (pv 1) (fun _ _ => rfl)))) Zy) (Zn (ZF Zf)), ?_⟩
  refine ⟨_, rfl, _, rfl, a, ns.map V.int, rfl, .inl hs, _, _, rfl, rfl, _, rfl, ?_⟩
  by_cases hk : k < ns.length
  ·rw [decide_eq_true (by rw [List.length_map]; omega)]
   refine iteT ⟨_, rfl, _, rfl, a, ns.map V.int, k, V.int ns[k], rfl, rfl, hs, YV ?_, q _⟩
   rw [List.getElem?_map, List.getElem?_eq_getElem hk]
   rfl
  ·rw [decide_eq_false (by rw [List.length_map]; omega)]
   exact iteF (q 0)
def StAt (H : Hp) (p : Addr) : Prop := ∃ u v : Int, H p = some (.lst [.int u, .int v]) ∧ 0 ≤ u ∧ 0 ≤ v ∧ v < 2147483647
abbrev sState : Stmt := top 32
def spState (K : PySem.W.Frag) : Sp := fun vs H Q _ => ∃ (a : Addr) (ns : List Int) (k : Nat), vs = [.ref a, .int k] ∧ SqL K H a (ns.map V.int) ∧ ∀ p H', H p = none → Same H H' → StAt H' p → Q (.ref p) H'
theorem scState : FnScope ["_law_script", "_law_k", "_law_cell"] ["_law_script", "_law_k"] (defScope sState) := ⟨rfl, rfl, rfl, by decide +kernel, rfl, by decide +kernel, by decide +kernel⟩
theorem Zcf {f : Addr} {fd : FuncData} (F : Fun K "_law_state" "_law_state" sState f fd) (G : Gs mg) (D1 : Def P w K mg base 1 "_law_cell_at" ["_law_script", "_law_k"] (spCell K)) : FnOk P w K mg base CX0 2 f fd ["_law_script", "_law_k"] (spState K) := by
 refine F.ok scState (fun vs H Q E h => ?_) (fun cdv A outer s H vs Q E hr h => ?_)
 ·obtain ⟨a, ns, k, rfl, _⟩ := h
  rfl
 ·obtain ⟨a, ns, k, rfl, hs, q⟩ := h
  refine ⟨_, Zg (Zz (i := 2) scState.nd rfl (Or.inl rfl) (Zl D1 hr (Za (pv 0) (Za (pv 1) Zb))))
   (Zn (ZF (ZI (Za (Zj (WT rfl) rfl G.max boot_max (Za Zf (Za (Zo Yx (pv 2) (Zo Zag Zf Zf)) Zb))) (Za (Zo Yc (pv 2) Zf) Zb))))), ?_⟩
  refine ⟨_, rfl, _, rfl, a, ns, k, rfl, hs, fun n => ?_⟩
  refine ⟨_, rfl, _, _, rfl, rfl, ⟨by decide, by decide, by decide⟩, _, _, rfl, rfl, _, _, rfl, ?_⟩
  refine ⟨_, rfl, _, _, rfl, rfl, (by show (0 : Int) < 2147483647; decide), (by show 2 ≤ sizeLine; decide), fun p hp => q p _ hp (fun b o hb => by rw [Zh (Zk hb hp)]; exact hb) ?_⟩
  refine ⟨_, _, Zc, ?_, Int.emod_nonneg _ (by decide), Int.emod_lt_of_pos _ (by decide)⟩
  split <;> omega
abbrev sTake : Stmt := top 33
def spTake : Sp := fun vs H Q _ => ∃ (p : Addr) (m : Int), vs = [.ref p, .int m] ∧ StAt H p ∧ 0 < m ∧ m < 1073741824 ∧ ∀ r o, 0 ≤ r → r < m → StAt (upd H p o) p → Q (.int r) (upd H p o)
theorem scTake : FnScope ["_law_state_here", "_law_many", "_law_found", "_law_mixed"] ["_law_state_here", "_law_many"] (defScope sTake) := ⟨rfl, rfl, rfl, by decide +kernel, rfl, by decide +kernel, by decide +kernel⟩
theorem at0 {x y : V} : atI [x, y] 0 = some x := rfl
theorem at1 {x y : V} : atI [x, y] 1 = some y := rfl
theorem Zdd {f : Addr} {fd : FuncData} (F : Fun K "_law_take" "_law_take" sTake f fd) : FnOk P w K mg base CX0 1 f fd ["_law_state_here", "_law_many"] spTake := by
 refine F.ok scTake (fun vs H Q E h => ?_) (fun cdv A outer s H vs Q E hr h => ?_)
 ·obtain ⟨p, m, rfl, _⟩ := h
  rfl
 ·obtain ⟨p, m, rfl, ⟨u, v, hp, hu, hv, hv2⟩, hm, hm2, q⟩ := h
  refine ⟨_, Zg (ZM (ZO Zef (ZP ZK (pv 0) Zf (fun _ _ => rfl)) (pv 1) (nomark _))
    (Zg (Zz (i := 2) scTake.nd rfl (Or.inl rfl) (Zo Yc (ZP ZK (pv 0) Zf (fun _ _ => rfl)) (pv 1)))
    (Zg (Y2 (Zo JE (ZP ZK (pv 0) Zf (fun _ _ => rfl)) (pv 1)) (JO (pv 0) Zf YA)) (Zn (ZF (pv 2))))) Zy)
   (Zg (Y2 (Zo Yc (Zo ZW (Zo YG (ZP ZK (pv 0) Zf (fun _ _ => rfl)) Zf) Zf) Zf) (JO (pv 0) Zf YA))
   (Zg (Zz (i := 3) scTake.nd rfl (Or.inl rfl) (Zo Yc (Zo ZW (Zo ZW (Zo YG (ZP ZK (pv 0) Zf (fun _ _ => rfl)) (ZP ZK (pv 0) Zf (fun _ _ => rfl))) (Zo YG Zf (ZP ZK (pv 0) Zf (fun _ _ => rfl)))) Zf) Zf))
   (Zg (Zz (i := 3) scTake.nd rfl (Or.inl rfl) (Zo Yc (Zo ZW (Zo YG (pv 3) (pv 3)) (Zo YG Zf (pv 3))) Zf))
   (Zn (ZF (Zo Yc (Zo JE (pv 3) Zf) (pv 1))))))), ?_⟩
  have s0 := SqL.of (K := K) hp
  refine ⟨_, rfl, p, _, _, _, rfl, rfl, s0, at0, _, rfl, _, _, rfl, rfl, _, rfl, ?_⟩
  by_cases h0 : m ≤ u
  ·rw [decide_eq_true h0]
   refine iteT ?_
   refine ⟨_, rfl, p, _, _, _, rfl, rfl, s0, at0, _, rfl, _, _, rfl, rfl, hm, ?_⟩
   refine ⟨_, rfl, p, _, _, _, rfl, rfl, s0, at0, _, rfl, _, _, rfl, rfl, ⟨hm, by omega⟩, ?_⟩
   refine ⟨_, rfl, p, _, 0, 0, rfl, rfl, hp, rfl, ?_⟩
   refine ⟨_, rfl, q _ _ (Int.emod_nonneg _ (by omega)) (Int.emod_lt_of_pos _ hm) ?_⟩
   exact ⟨u / m, v, Zc, Int.ediv_nonneg hu (by omega), hv, hv2⟩
  ·rw [decide_eq_false h0]
   refine iteF ?_
   refine ⟨_, rfl, p, _, _, _, rfl, rfl, s0, at1, _, _, rfl, rfl, .inr ⟨by decide, by decide⟩, _, _, rfl, rfl, _, _, rfl, rfl, (by show (0 : Int) < 2147483647; decide), ?_⟩
   refine ⟨_, rfl, p, _, 1, 1, rfl, rfl, hp, rfl, ?_⟩
   have b1 : 0 ≤ ((v * 48271 + 29) % 2147483647) := Int.emod_nonneg _ (by decide)
   have b2 : ((v * 48271 + 29) % 2147483647) < 2147483647 := Int.emod_lt_of_pos _ (by decide)
   have s1 : SqL K (upd H p (.lst (([V.int u, V.int v] : List V).set 1 (V.int ((v * 48271 + 29) % 2147483647))))) p [.int u, .int ((v * 48271 + 29) % 2147483647)] := SqL.of Zc
   have lo : ∀ {t : Int}, 0 ≤ t → -(2 ^ 64) < t := fun h => Int.lt_of_lt_of_le (by decide) h
   have hi : ∀ {t : Int}, t < 2147483647 → t < 2 ^ 64 := fun h => Int.lt_trans h (by decide)
   refine ⟨_, rfl, p, _, _, _, rfl, rfl, s1, at1, _, rfl, p, _, _, _, rfl, rfl, s1, at1, _, _, rfl, rfl, .inl ⟨lo b1, hi b2⟩, ?_⟩
   refine ⟨_, rfl, p, _, _, _, rfl, rfl, s1, at1, _, _, rfl, rfl, .inl ⟨by decide, by decide⟩, _, _, rfl, rfl, _, _, rfl, rfl, _, _, rfl, rfl, (by show (0 : Int) < 2147483629; decide), ?_⟩
   have c1 : 0 ≤ ((((v * 48271 + 29) % 2147483647) * ((v * 48271 + 29) % 2147483647) + 39373 * ((v * 48271 + 29) % 2147483647) + 7) % 2147483629) := Int.emod_nonneg _ (by decide)
   have c2 : ((((v * 48271 + 29) % 2147483647) * ((v * 48271 + 29) % 2147483647) + 39373 * ((v * 48271 + 29) % 2147483647) + 7) % 2147483629) < 2147483647 := Int.lt_trans (Int.emod_lt_of_pos _ (by decide)) (by decide)
   refine ⟨_, rfl, _, rfl, _, _, rfl, rfl, .inl ⟨lo c1, hi c2⟩, _, rfl, _, _, rfl, rfl, .inl ⟨by decide, by decide⟩, _, _, rfl, rfl, _, _, rfl, rfl, (by show (0 : Int) < 2147483587; decide), ?_⟩
   refine ⟨_, rfl, _, _, rfl, rfl, ⟨by decide, by decide⟩, _, rfl, _, _, rfl, rfl, hm, ?_⟩
   refine q _ _ (Int.emod_nonneg _ (by omega)) (Int.emod_lt_of_pos _ hm) ?_
   exact ⟨u, _, Zc, hu, b1, b2⟩
end
end U
set_option Elab.async false
set_option linter.all false
set_option maxRecDepth 100000
set_option maxHeartbeats 40000000
namespace U
open PySem L2 PyProof.Rows
section
theorem YJ (val : Nat → Int) : ∀ n, ((PyProof.Rows.firstMet val n).length = n ↔ ((List.range n).map val).Nodup)
 | 0 => by simp [PyProof.Rows.firstMet_zero]
 | n + 1 => by
  have ih := YJ val n
  have le := PyProof.Rows.firstMet_length_le val n
  rw [PyProof.Rows.firstMet_succ, PyProof.Rows.step_length, PyProof.Rows.firstMet_any, List.range_succ, List.map_append]
  have e : (((List.range n).map val).any (· == val n)) = true ↔ val n ∈ (List.range n).map val := by
   rw [List.any_eq_true]
   constructor
   ·rintro ⟨x, hx, q⟩
    have : x = val n := by simpa using q
    rw [← this]; exact hx
   ·intro h; exact ⟨_, h, by simp⟩
  have nd : ((List.range n).map val ++ List.map val [n]).Nodup ↔ ((List.range n).map val).Nodup ∧ ¬ val n ∈ (List.range n).map val := by
   rw [List.nodup_append]
   constructor
   ·rintro ⟨h1, _, h3⟩
    exact ⟨h1, fun m => h3 _ m (val n) (by simp) rfl⟩
   ·rintro ⟨h1, h2⟩
    refine ⟨h1, by simp, fun a ha b hb q => h2 ?_⟩
    have hb' : b = val n := by simpa using hb
    rw [← hb', ← q]; exact ha
  rw [nd, ← ih]
  by_cases m : val n ∈ (List.range n).map val
  ·rw [if_pos (e.mpr m)]
   constructor
   ·intro h; omega
   ·rintro ⟨_, h⟩; exact absurd m h
  ·rw [if_neg (fun z => m (e.mp z))]
   constructor
   ·intro h; exact ⟨by omega, m⟩
   ·rintro ⟨h, _⟩; omega
theorem Zaa (ns : List Int) : setN ns = ns.length ↔ ns.Nodup := by
 unfold setN
 rw [YJ]
 have e : (List.range ns.length).map (fun i => ns.getD i 0) = ns := by
  refine List.ext_getElem (by simp) fun i h1 h2 => ?_
  rw [List.getElem_map, List.getElem_range, List.getD_eq_getElem?_getD, List.getElem?_eq_getElem h2, Option.getD_some]
 rw [e]
def rowsOf (xs : List V) : List V := xs.filter fun x => !decide (x = .non)
def isLayV (wd hg : Int) : Option (List V) → Bool
 | some xs => decide ((xs.length : Int) = wd) && ((rowsOf xs).all fun r => wholeIn r 0 (hg - 1)) && decide (rowsOf xs).Nodup
 | none => false
def BoardAt (H : Hp) (x : V) (wd hg : Int) : Prop := tupOf H x = some [.int wd, .int hg] ∧ 1 ≤ wd ∧ wd ≤ 12 ∧ 1 ≤ hg ∧ hg ≤ 12
theorem BoardAt.same {H H' : Hp} {x : V} {wd hg : Int} (b : BoardAt H x wd hg) (s : Same H H') : BoardAt H' x wd hg := ⟨s.tupOf b.1, b.2⟩
theorem BoardAt.is {H : Hp} {x : V} {wd hg : Int} (b : BoardAt H x wd hg) : isBoardL (tupOf H x) = true := by
 obtain ⟨h, h1, h2, h3, h4⟩ := b
 rw [h]
 show (decide (1 ≤ wd) && decide (wd ≤ 12) && (decide (1 ≤ hg) && decide (hg ≤ 12))) = true
 simp [h1, h2, h3, h4]
theorem BoardAt.pl {K : PySem.W.Frag} {H : Hp} {x : V} {wd hg : Int} (b : BoardAt H x wd hg) : Pl1 K H x := by
 obtain ⟨a, rfl, ha⟩ := ZH b.1
 refine ⟨⟨_, .tup ha⟩, fun xs e y hy => ?_⟩
 rw [b.1] at e
 cases e
 rcases List.mem_cons.mp hy with z | hy
 ·rw [z]; exact ⟨_, .int wd⟩
 ·rw [List.mem_singleton.mp hy]; exact ⟨_, .int hg⟩
theorem UR {xs : List V} {lo hi : Int} (h : (xs.all fun r => wholeIn r lo hi) = true) : ∃ ns : List Int, xs = ns.map V.int := by
 induction xs with
 | nil => exact ⟨[], rfl⟩
 | cons x xs ih =>
  rw [List.all_cons, Bool.and_eq_true] at h
  obtain ⟨ns, e⟩ := ih h.2
  cases x with
  | int i => exact ⟨i :: ns, by rw [e]; rfl⟩
  | _ => cases h.1
theorem WF (ns : List Int) : (ns.map V.int).Nodup ↔ ns.Nodup := by
 induction ns with
 | nil => simp
 | cons n ns ih => rw [List.map_cons, List.nodup_cons, List.nodup_cons, ih]; simp
end
end U
namespace U
open PySem L2 PyProof.Rows
section
variable {P : Program} {w : World} {K : PySem.W.Frag} {mg : Str → Option Value} {base : Heap}
abbrev sNeedBoard : Stmt := top 23
def spNeedBoard (K : PySem.W.Frag) : Sp := fun vs H Q _ => ∃ x wd hg, vs = [x] ∧ BoardAt H x wd hg ∧ ∀ H', Same H H' → Q .non H'
theorem scNeedBoard : FnScope ["board"] ["board"] (defScope sNeedBoard) := ⟨rfl, rfl, rfl, by decide +kernel, rfl, by decide +kernel, by decide +kernel⟩
theorem W3 {f : Addr} {fd : FuncData} (F : Fun K "need_board" "need_board" sNeedBoard f fd) (D1 : Def P w K mg base 3 "is_board" ["thing"] (spBoard K)) : FnOk P w K mg base CX0 4 f fd ["board"] (spNeedBoard K) := by
 refine F.ok scNeedBoard (fun vs H Q E h => ?_) (fun cdv A outer s H vs Q E hr h => ?_)
 ·obtain ⟨x, wd, hg, rfl, _⟩ := h
  rfl
 ·obtain ⟨x, wd, hg, rfl, b, q⟩ := h
  refine ⟨_, Zn (ZM (Ya (ZT (Zl D1 hr (Za (pv 0) Zb)))) Zt Zy), ?_⟩
  refine ⟨x, rfl, x, rfl, b.pl, fun H' sm => ⟨_, rfl, ?_⟩⟩
  rw [b.is]
  exact iteF (q H' sm)
abbrev sLay : Stmt := top 24
def spLay (K : PySem.W.Frag) : Sp := fun vs H Q _ => ∃ x y wd hg, vs = [x, y] ∧ BoardAt H x wd hg ∧ Pl1 K H y ∧ ∀ H', Same H H' → Q (.bl (isLayV wd hg (tupOf H y))) H'
theorem scLay : FnScope ["board", "thing", "wide", "high", "rows"] ["board", "thing"] (defScope sLay) := ⟨rfl, rfl, rfl, by decide +kernel, rfl, by decide +kernel, by decide +kernel⟩
theorem ZdU {f : Addr} {fd : FuncData} (F : Fun K "is_lay" "is_lay" sLay f fd) (G : Gs mg) (D1 : Def P w K mg base 4 "need_board" ["board"] (spNeedBoard K)) (D2 : Def P w K mg base 1 "is_tuple_of" ["thing", "many"] (spTupOf K))
  (D3 : Def P w K mg base 2 "is_whole_within" ["thing", "least", "most"] (spWithin K)) : FnOk P w K mg base CX0 5 f fd ["board", "thing"] (spLay K) := by
 refine F.ok scLay (fun vs H Q E h => ?_) (fun cdv A outer s H vs Q E hr h => ?_)
 ·obtain ⟨x, y, wd, hg, rfl, _⟩ := h
  rfl
 ·obtain ⟨x, y, wd, hg, rfl, b, ⟨ty, hy⟩, q⟩ := h
  refine ⟨_, Zg (Ye (Zl D1 hr (Za (pv 0) Zb)))
   (Zg (Y2 (pv 0) (YD rfl (ZG (ZV (i := 2) scLay.nd rfl (Or.inl rfl)) (ZG (ZV (i := 3) scLay.nd rfl (Or.inr rfl)) Yi))))
   (Zg (ZM (Ya (ZT (Zl D2 (hr.mono (by decide)) (Za (pv 1) (Za (pv 2) Zb))))) (Zn (ZF JS)) Zy)
   (Zg (ZaD ["row"] 1 [] (i := 4) scLay.nd rfl (Or.inl rfl) (Zb7 (pv 1)) (fun C s H fp => pb 0) (fun C s H fp => ZaC (YC (ZaI (pv 0)))) (fun C s H fp D => Z8 rfl (pv 0)))
   (Zn (ZF (Z2 (Zj Jm rfl G.all boot_all (Za (YO ["row", "high"] 1 [3] (ZaG (pv 4)) (fun C s H fp => pb 0) (fun C s H fp => Yt)
     (fun C s H fp D => Z8 rfl (Zl D3 (hr.mono (by decide)) (Za (pv 0) (Za Zf (Za (Zo Yx (pv 1) Zf) Zb)))))) Zb))
    (Yb (ZL Yr (Zj Ws rfl G.len boot_len (Za (Yq Wq rfl G.set boot_set (Za (pv 4) Zb)) Zb)) (Zj Zp rfl G.len boot_len (Za (pv 4) Zb)) (nomark _))))))))), ?_⟩
  refine ⟨x, rfl, x, wd, hg, rfl, b, fun H1 s1 => ?_⟩
  have b1 := b.same s1
  obtain ⟨a, rfl, ha⟩ := ZH b1.1
  refine ⟨_, rfl, a, _, rfl, SqT.of ha, rfl, _, _, rfl, _, _, rfl, rfl, ?_⟩
  refine ⟨y, rfl, _, rfl, y, wd, rfl, s1.plT ty, _, rfl, ?_⟩
  cases e : tupOf H y with
  | none =>
   have e1 : tupOf H1 y = none := by
    obtain ⟨T, t⟩ := ty
    cases t with
    | tup e2 => rw [Zm e2] at e; cases e
    | lst e2 => rw [Zx, s1 _ _ e2]; rfl
    | frz e2 => rw [Zx, s1 _ _ e2]; rfl
    | dK e2 => rw [Zx, s1 _ _ e2]; rfl
    | dT e2 => rw [Zx, s1 _ _ e2]; rfl
    | _ => rfl
   rw [e1]
   rw [e] at q
   exact iteT (q H1 s1)
  | some xs =>
   have e1 := s1.tupOf e
   rw [e1]
   rw [e] at q
   obtain ⟨l, rfl, hl⟩ := ZH e1
   by_cases hw : (xs.length : Int) = wd
   ·refine (show if (!decide ((xs.length : Int) = wd)) = true then _ else _ from ?_)
    rw [decide_eq_true hw]
    refine iteF ?_
    have hwd := b.2.2.1
    have hlen : xs.length ≤ 12 := by omega
    refine ⟨_, rfl, l, rfl, ⟨xs, SqT.of hl⟩, ?_⟩
    refine Uz (xs := xs) (fun i ys σ H2 => ys = rowsOf (xs.take i) ∧ H2 = H1 ∧ ∃ v, σ = [v]) ⟨rfl, rfl, none, rfl⟩ (fun i ys σ H2 _ ⟨_, e2, _⟩ => by rw [e2]; exact SqT.of hl) ?_ ?_
    ·rintro i r ys σ H2 hr' ⟨rfl, rfl, v, rfl⟩
     have et : rowsOf (xs.take (i + 1)) = rowsOf (xs.take i) ++ (if (!decide (r = V.non)) = true then [r] else []) := by
      unfold rowsOf
      rw [List.take_add_one, hr', List.filter_append]
      cases hh : (!decide (r = V.non)) with
      | true => simp [hh]
      | false => simp [hh]
     refine ⟨r, rfl, _, rfl, ?_⟩
     cases hh : (!decide (r = V.non)) with
     | true =>
      rw [hh] at et
      refine iteT ?_
      refine ⟨r, rfl, ?_, ?_⟩
      ·have := List.length_filter_le (fun x => !decide (x = V.non)) (xs.take i)
       unfold rowsOf
       rw [sizeLine_eq]
       rw [List.length_take] at this
       omega
      ·exact ⟨by rw [et, if_pos rfl], rfl, _, rfl⟩
     | false =>
      rw [hh] at et
      exact iteF ⟨by rw [et, if_neg Bool.false_ne_true, List.append_nil], rfl, _, rfl⟩
    ·rintro ys σ H2 ⟨rfl, rfl, v, rfl⟩ p hp
     rw [List.take_length]
     have hrl : (rowsOf xs).length ≤ 12 := Nat.le_trans (List.length_filter_le _ _) hlen
     have s2 : Same H2 (upd H2 p (.lst (rowsOf xs))) := fun b o hb => by rw [Zh (Zk hb hp)]; exact hb
     refine ⟨_, rfl, p, rfl, ⟨rowsOf xs, SqL.of Zc⟩, ?_⟩
     generalize hH3 : upd H2 p (HO.lst (rowsOf xs)) = H3 at s2
     have hp3 : H3 p = some (.lst (rowsOf xs)) := by rw [← hH3]; exact Zc
     refine Zby (xs := rowsOf xs) (fun i ys σ H4 => ys = ((rowsOf xs).take i).map (fun r => V.bl (wholeIn r 0 (hg - 1))) ∧ H4 = H3 ∧ ∃ v, σ = [v, some (.int hg)]) ⟨rfl, rfl, none, rfl⟩ (fun i ys σ H4 _ ⟨_, e2, _⟩ => by rw [e2]; exact SqL.of hp3) ?_ ?_
     ·rintro i r ys σ H4 hr' ⟨rfl, rfl, v, rfl⟩
      have mr : r ∈ xs := (List.mem_filter.mp (List.mem_of_getElem? hr')).1
      refine ⟨r, rfl, _, rfl, _, _, rfl, rfl, r, 0, hg - 1, rfl, (s1.trans s2).plT (hy xs e r mr), ?_, ?_⟩
      ·rw [List.length_map, sizeLine_eq, List.length_take]; omega
      ·refine ⟨?_, rfl, _, rfl⟩
       rw [List.take_add_one, hr', List.map_append]
       rfl
     ·rintro ys σ H4 ⟨rfl, rfl, v, rfl⟩ p' hp'
      rw [List.take_length]
      have s3 : ∀ o, Same H4 (upd H4 p' o) := fun o b u hb => by rw [Zh (Zk hb hp')]; exact hb
      refine ⟨p', (rowsOf xs).map (fun r => wholeIn r 0 (hg - 1)), rfl, ?_, ?_⟩
      ·rw [List.map_map]; exact SqL.of Zc
      ·have eall : ((rowsOf xs).map (fun r => wholeIn r 0 (hg - 1))).all id = (rowsOf xs).all fun r => wholeIn r 0 (hg - 1) := by rw [List.all_map]; rfl
       rw [eall]
       have elay : isLayV wd hg (some xs) = (((rowsOf xs).all fun r => wholeIn r 0 (hg - 1)) && decide (rowsOf xs).Nodup) := by
        show (decide ((xs.length : Int) = wd) && _ && _) = _
        rw [decide_eq_true hw, Bool.true_and]
       rw [elay] at q
       refine ⟨_, rfl, ?_⟩
       cases hall : ((rowsOf xs).all fun r => wholeIn r 0 (hg - 1)) with
       | false =>
        rw [hall] at q
        exact iteF (q _ (s1.trans (s2.trans (s3 _))))
       | true =>
        rw [hall, Bool.true_and] at q
        obtain ⟨ns, en⟩ := UR hall
        have hpl : (upd H4 p' (.lst (((rowsOf xs).map (fun r => V.bl (wholeIn r 0 (hg - 1))))))) p = some (.lst (rowsOf xs)) := s3 _ _ _ hp3
        refine iteT ?_
        have hnl : ns.length = (rowsOf xs).length := by rw [en, List.length_map]
        refine ⟨_, rfl, p, ns, rfl, by rw [← en]; exact SqL.of hpl, by omega, fun q2 S hq2 => ⟨q2, S, setN ns, rfl, Zc, _, rfl, p, rowsOf xs, rfl, .inl (SqL.of ?_), rfl, ?_⟩⟩
        ·rw [Zh (Zk hpl hq2)]; exact hpl
        ·have ed : decide (V.int (setN ns : Int) = V.int ((rowsOf xs).length : Int)) = decide (rowsOf xs).Nodup := by
          rw [decide_eq_decide]
          rw [en, WF, ← Zaa, List.length_map]
          constructor
          ·intro h; injection h with h; omega
          ·intro h; rw [h]
         rw [ed]
         exact q _ (s1.trans (s2.trans ((s3 _).trans fun b o hb => by rw [Zh (Zk hb hq2)]; exact hb)))
   ·refine (show if (!decide ((xs.length : Int) = wd)) = true then _ else _ from ?_)
    rw [decide_eq_false hw]
    have e3 : isLayV wd hg (some xs) = false := by
     show (decide ((xs.length : Int) = wd) && _ && _) = false
     rw [decide_eq_false hw, Bool.false_and, Bool.false_and]
    rw [e3] at q
    exact iteT (q H1 s1)
end
end U
set_option Elab.async false
set_option linter.all false
set_option maxRecDepth 100000
set_option maxHeartbeats 40000000
namespace U
open PySem L2 PyProof.Rows
section
abbrev bmV : List Value := [.type "ValueError", .type "Exception", .type "BaseException", .type "object"]
structure Exc (K : PySem.W.Frag) (mg : Str → Option Value) (n : Str) (c : Addr) : Prop where
 m : mg n = some (.ref c)
 x : PySem.W.excIn K c bmV "ValueError.__new__" = true
def BadBoard (K : PySem.W.Frag) (H : Hp) (x : V) : Prop := Pl1 K H x ∧ isBoardL (tupOf H x) = false
theorem Jz {K : PySem.W.Frag} {H H1 : Hp} {y : V} (ty : PlT K H y) (s1 : Same H H1) (e : tupOf H y = none) : tupOf H1 y = none := by
 obtain ⟨T, t⟩ := ty
 cases t with
 | tup e2 => rw [Zm e2] at e; cases e
 | lst e2 => rw [Zx, s1 _ _ e2]; rfl
 | frz e2 => rw [Zx, s1 _ _ e2]; rfl
 | dK e2 => rw [Zx, s1 _ _ e2]; rfl
 | dT e2 => rw [Zx, s1 _ _ e2]; rfl
 | _ => rfl
theorem Z3 {K : PySem.W.Frag} {H H1 : Hp} {y : V} (ty : PlT K H y) (s1 : Same H H1) : tupOf H1 y = tupOf H y := by
 cases e : tupOf H y with
 | none => exact Jz ty s1 e
 | some xs => exact s1.tupOf e
theorem Pl1.same {K : PySem.W.Frag} {H H1 : Hp} {y : V} (p : Pl1 K H y) (s1 : Same H H1) : Pl1 K H1 y := by
 refine ⟨s1.plT p.1, fun xs e z hz => s1.plT (p.2 xs ?_ z hz)⟩
 rw [← Z3 p.1 s1]; exact e
theorem BadBoard.same {K : PySem.W.Frag} {H H1 : Hp} {x : V} (b : BadBoard K H x) (s1 : Same H H1) : BadBoard K H1 x := ⟨b.1.same s1, by rw [Z3 b.1.1 s1]; exact b.2⟩
end
end U
namespace U
open PySem L2 PyProof.Rows
section
variable {P : Program} {w : World} {K : PySem.W.Frag} {mg : Str → Option Value} {base : Heap} {cB cL : Addr}
def spNBx (K : PySem.W.Frag) (cB : Addr) : Sp := fun vs H _ E => ∃ x, vs = [x] ∧ BadBoard K H x ∧ ∀ e H', Same H H' → E (.ref e) (some cB) H'
theorem Wo {f : Addr} {fd : FuncData} (F : Fun K "need_board" "need_board" sNeedBoard f fd) (G : Gs mg) (X : Exc K mg "NoBoard" cB) (D1 : Def P w K mg base 3 "is_board" ["thing"] (spBoard K)) : FnOk P w K mg base (CXR P w) 4 f fd ["board"] (spNBx K cB) := by
 obtain ⟨tk, hL⟩ := G.longest
 refine F.okR scNeedBoard (fun vs H Q E h => ?_) (fun cdv A outer s H vs Q E hr h => ?_)
 ·obtain ⟨x, rfl, _⟩ := h
  rfl
 ·obtain ⟨x, rfl, b, q⟩ := h
  refine ⟨_, Zn (ZM (Ya (ZT (Zl D1 hr (Za (pv 0) Zb)))) (Zn (Ur PySem.F.excBase_ValueError X.m X.x rfl (Za (Zc5 Yv (Y8 (v := .int 12) rfl hL ⟨_, rfl⟩)) Zb))) Zy), ?_⟩
  refine ⟨x, rfl, x, rfl, b.1, fun H' sm => ⟨_, rfl, ?_⟩⟩
  rw [b.2]
  exact iteT ⟨_, rfl, by decide, 12, rfl, by decide, by decide, fun z => ⟨by show 1 ≤ sizeLine; decide, fun e => q e H' sm⟩⟩
def spLayx (K : PySem.W.Frag) (cB : Addr) : Sp := fun vs H _ E => ∃ x y, vs = [x, y] ∧ BadBoard K H x ∧ ∀ e H', Same H H' → E (.ref e) (some cB) H'
theorem Zde {f : Addr} {fd : FuncData} (F : Fun K "is_lay" "is_lay" sLay f fd) (D1 : DefR P w K mg base 4 "need_board" ["board"] (spNBx K cB)) : FnOk P w K mg base (CXR P w) 5 f fd ["board", "thing"] (spLayx K cB) := by
 refine F.okR scLay (fun vs H Q E h => ?_) (fun cdv A outer s H vs Q E hr h => ?_)
 ·obtain ⟨x, y, rfl, _⟩ := h
  rfl
 ·obtain ⟨x, y, rfl, b, q⟩ := h
  refine ⟨_, Zg (Ye (YF D1 hr (Za (pv 0) Zb))) Zt, ?_⟩
  exact ⟨x, rfl, x, rfl, b, q⟩
def isFullV (wd hg : Int) (o : Option (List V)) : Bool := isLayV wd hg o && (decide (wd = hg) && !inV .non (o.getD []))
theorem Zcu {wd hg : Int} {xs : List V} (h : isLayV wd hg (some xs) = true) : xs.all flatV = true := by
 unfold isLayV at h
 rw [Bool.and_eq_true, Bool.and_eq_true] at h
 have h2 := List.all_eq_true.mp h.1.2
 rw [List.all_eq_true]
 intro x hx
 by_cases hn : x = .non
 ·rw [hn]; rfl
 ·have := h2 x (List.mem_filter.mpr ⟨hx, by simpa using hn⟩)
  cases x with
  | int i => rfl
  | non => rfl
  | _ => cases this
abbrev sFull : Stmt := top 25
def spFull (K : PySem.W.Frag) : Sp := fun vs H Q _ => ∃ x y wd hg, vs = [x, y] ∧ BoardAt H x wd hg ∧ Pl1 K H y ∧ ∀ H', Same H H' → Q (.bl (isFullV wd hg (tupOf H y))) H'
theorem scFull : FnScope ["board", "thing"] ["board", "thing"] (defScope sFull) := ⟨rfl, rfl, rfl, by decide +kernel, rfl, by decide +kernel, by decide +kernel⟩
theorem Zdf {f : Addr} {fd : FuncData} (F : Fun K "is_full" "is_full" sFull f fd) (D1 : Def P w K mg base 5 "is_lay" ["board", "thing"] (spLay K)) : FnOk P w K mg base CX0 6 f fd ["board", "thing"] (spFull K) := by
 refine F.ok scFull (fun vs H Q E h => ?_) (fun cdv A outer s H vs Q E hr h => ?_)
 ·obtain ⟨x, y, wd, hg, rfl, _⟩ := h
  rfl
 ·obtain ⟨x, y, wd, hg, rfl, b, p, q⟩ := h
  refine ⟨_, Zn (ZF (Z2 (Zl D1 hr (Za (pv 0) (Za (pv 1) Zb))) (Z2 (ZL Yr (ZP Y4 (pv 0) Zf (fun _ _ => rfl)) (ZP Y4 (pv 0) Zf (fun _ _ => rfl)) (nomark _)) (Yb (ZL Y9 YE (pv 1) rfl))))), ?_⟩
  refine ⟨_, rfl, _, rfl, x, y, wd, hg, rfl, b, p, fun H1 s1 => ⟨_, rfl, ?_⟩⟩
  unfold isFullV at q
  cases hl : isLayV wd hg (tupOf H y) with
  | false => rw [hl] at q; exact iteF (q H1 s1)
  | true =>
   rw [hl, Bool.true_and] at q
   obtain ⟨a, rfl, ha⟩ := ZH (b.same s1).1
   have t1 := SqT.of (K := K) ha
   refine iteT ⟨_, rfl, a, _, _, _, rfl, rfl, t1, at0, _, rfl, a, _, _, _, rfl, rfl, t1, at1, rfl, _, rfl, ?_⟩
   have z : decide (V.int wd = V.int hg) = decide (wd = hg) := by simp
   rw [z]
   cases he : decide (wd = hg) with
   | false => rw [he] at q; exact iteF (q H1 s1)
   | true =>
    rw [he, Bool.true_and] at q
    cases ht : tupOf H y with
    | none => rw [ht] at hl; cases hl
    | some xs =>
     rw [ht] at q hl
     obtain ⟨c, rfl, hc⟩ := ZH ht
     exact iteT ⟨_, rfl, c, xs, rfl, .inr (SqT.of (s1 _ _ hc)), rfl, Zcu hl, q H1 s1⟩
def spFullx (K : PySem.W.Frag) (cB : Addr) : Sp := fun vs H _ E => ∃ x y, vs = [x, y] ∧ BadBoard K H x ∧ ∀ e H', Same H H' → E (.ref e) (some cB) H'
theorem Zci {f : Addr} {fd : FuncData} (F : Fun K "is_full" "is_full" sFull f fd) (D1 : DefR P w K mg base 5 "is_lay" ["board", "thing"] (spLayx K cB)) : FnOk P w K mg base (CXR P w) 6 f fd ["board", "thing"] (spFullx K cB) := by
 refine F.okR scFull (fun vs H Q E h => ?_) (fun cdv A outer s H vs Q E hr h => ?_)
 ·obtain ⟨x, y, rfl, _⟩ := h
  rfl
 ·obtain ⟨x, y, rfl, b, q⟩ := h
  refine ⟨_, Zn (ZF (Z2 (YF D1 hr (Za (pv 0) (Za (pv 1) Zb))) (Z2 (ZL Yr (ZP Y4 (pv 0) Zf (fun _ _ => rfl)) (ZP Y4 (pv 0) Zf (fun _ _ => rfl)) (nomark _)) (Yb (ZL Y9 YE (pv 1) rfl))))), ?_⟩
  exact ⟨x, rfl, y, rfl, x, y, rfl, b, q⟩
abbrev sNeedFull : Stmt := top 27
def spNeedFull (K : PySem.W.Frag) : Sp := fun vs H Q _ => ∃ x y wd hg, vs = [x, y] ∧ BoardAt H x wd hg ∧ Pl1 K H y ∧ isFullV wd hg (tupOf H y) = true ∧ ∀ H', Same H H' → Q .non H'
theorem scNeedFull : FnScope ["board", "lay"] ["board", "lay"] (defScope sNeedFull) := ⟨rfl, rfl, rfl, by decide +kernel, rfl, by decide +kernel, by decide +kernel⟩
theorem Uy {f : Addr} {fd : FuncData} (F : Fun K "need_full" "need_full" sNeedFull f fd) (D1 : Def P w K mg base 6 "is_full" ["board", "thing"] (spFull K)) : FnOk P w K mg base CX0 7 f fd ["board", "lay"] (spNeedFull K) := by
 refine F.ok scNeedFull (fun vs H Q E h => ?_) (fun cdv A outer s H vs Q E hr h => ?_)
 ·obtain ⟨x, y, wd, hg, rfl, _⟩ := h
  rfl
 ·obtain ⟨x, y, wd, hg, rfl, b, p, fu, q⟩ := h
  refine ⟨_, Zn (ZM (Ya (ZT (Zl D1 hr (Za (pv 0) (Za (pv 1) Zb))))) Zt Zy), ?_⟩
  refine ⟨_, rfl, _, rfl, x, y, wd, hg, rfl, b, p, fun H1 s1 => ⟨_, rfl, ?_⟩⟩
  rw [fu]
  exact iteF (q H1 s1)
def BadF (K : PySem.W.Frag) (cB cL : Addr) (H : Hp) (x y : V) (C : Addr) : Prop :=
 (C = cB ∧ BadBoard K H x) ∨ (C = cL ∧ ∃ wd hg, BoardAt H x wd hg ∧ Pl1 K H y ∧ isFullV wd hg (tupOf H y) = false)
def spNFx (K : PySem.W.Frag) (cB cL : Addr) : Sp := fun vs H _ E => ∃ x y C, vs = [x, y] ∧ BadF K cB cL H x y C ∧ ∀ e H', Same H H' → E (.ref e) (some C) H'
theorem W2 {f : Addr} {fd : FuncData} (F : Fun K "need_full" "need_full" sNeedFull f fd) (X : Exc K mg "NoLay" cL) (D1 : Def P w K mg base 6 "is_full" ["board", "thing"] (spFull K)) (R1 : DefR P w K mg base 6 "is_full" ["board", "thing"] (spFullx K cB)) : FnOk P w K mg base (CXR P w) 7 f fd ["board", "lay"] (spNFx K cB cL) := by
 refine F.okR scNeedFull (fun vs H Q E h => ?_) (fun cdv A outer s H vs Q E hr h => ?_)
 ·obtain ⟨x, y, C, rfl, _⟩ := h
  rfl
 ·obtain ⟨x, y, C, rfl, b, q⟩ := h
  rcases b with ⟨rfl, b⟩ | ⟨rfl, wd, hg, b, p, fu⟩
  ·refine ⟨_, Zn (ZM (Ya (ZT (YF R1 hr (Za (pv 0) (Za (pv 1) Zb))))) Zt Zy), ?_⟩
   exact ⟨x, rfl, y, rfl, x, y, rfl, b, q⟩
  ·refine ⟨_, Zn (ZM (Ya (ZT (Zl D1 hr (Za (pv 0) (Za (pv 1) Zb))))) (Zn (Ur PySem.F.excBase_ValueError X.m X.x rfl (Za Yv Zb))) Zy), ?_⟩
   refine ⟨_, rfl, _, rfl, x, y, wd, hg, rfl, b, p, fun H1 s1 => ⟨_, rfl, ?_⟩⟩
   rw [fu]
   exact iteT ⟨by show 1 ≤ sizeLine; decide, fun e => q e H1 s1⟩
end
end U
set_option Elab.async false
set_option linter.all false
set_option maxRecDepth 100000
set_option maxHeartbeats 40000000
namespace U
open PySem L2 PyProof.Rows
section
def rCatA (K : PySem.W.Frag) : R2 := fun x y H Q => (∃ a b ys, x = .ref a ∧ y = .ref b ∧ SqT K H a [] ∧ SqT K H b ys ∧ Q (.ref b) H) ∨ rCatT K x y H Q
theorem Yj {X : Cx} : OpR X (binaryOp .Add) (rCatA X.K) := Zcc.or Zda
theorem catA {K : PySem.W.Frag} {H : Hp} {a b : Addr} {xs ys : List V} {Q : VK} (ha : H a = some (.tup xs)) (hb : H b = some (.tup ys)) (hl : xs.length + ys.length ≤ sizeLine) (q : ∀ (c : Addr) H', Same H H' → H' c = some (.tup (xs ++ ys)) → Q (.ref c) H') : rCatA K (.ref a) (.ref b) H Q := by
 by_cases hx : xs = []
 ·subst hx
  exact .inl ⟨a, b, ys, rfl, rfl, SqT.of ha, SqT.of hb, q b H (Same.refl _) hb⟩
 ·refine .inr ⟨a, b, xs, ys, rfl, rfl, SqT.of ha, SqT.of hb, hx, hl, fun hy => ?_, fun _ c hc => q c _ (Ze hc) Zc⟩
  subst hy
  exact q a H (Same.refl _) (by rw [List.append_nil]; exact ha)
theorem ZcQ {xs : List V} {k : Nat} (h : k ≤ xs.length) : cutV xs (some (k : Int)) none = xs.drop k := by
 unfold cutV
 have e1 : HT.sIx xs.length 0 (some (k : Int)) = k := by rw [HT.sIx_nat]; omega
 rw [e1, HT.sIx_none, List.take_of_length_le (by rw [List.length_drop]; exact Nat.le_refl _)]
theorem Zar {xs : List V} {k : Nat} (h : k ≤ xs.length) : cutV xs none (some (k : Int)) = xs.take k := by
 unfold cutV
 have e1 : HT.sIx xs.length xs.length (some (k : Int)) = k := by rw [HT.sIx_nat]; omega
 rw [e1, HT.sIx_none, List.drop_zero, Nat.sub_zero]
end
end U
namespace U
open PySem L2 PyProof.Rows
section
variable {P : Program} {w : World} {K : PySem.W.Frag} {mg : Str → Option Value} {base : Heap} {cB cL cN : Addr}
theorem ZcZ {b a c : Int} (h0 : a ≤ b) (h1 : b ≤ c) : wholeIn (.int b) a c = true := by
 show (decide (a ≤ b) && decide (b ≤ c)) = true
 rw [decide_eq_true h0, decide_eq_true h1]; rfl
end
end U
set_option Elab.async false
set_option linter.all false
set_option maxRecDepth 100000
set_option maxHeartbeats 40000000
namespace U
open PySem L2 PyProof.Rows
section
theorem StAt.same {H H' : Hp} {p : Addr} (h : StAt H p) (s : Same H H') : StAt H' p := by
 obtain ⟨u, v, e, r⟩ := h
 exact ⟨u, v, s _ _ e, r⟩
def scal : V → Bool
 | .int _ => true
 | .bl _ => true
 | .str _ => true
 | .non => true
 | _ => false
theorem ZaE {K : PySem.W.Frag} {H : Hp} : ∀ {v : V}, scal v = true → PlT K H v
 | .int i, _ => ⟨_, .int i⟩
 | .bl b, _ => ⟨_, .bl b⟩
 | .str x, _ => ⟨_, .str x⟩
 | .non, _ => ⟨_, .non⟩
end
end U
namespace U
open PySem L2 PyProof.Rows
section
variable {P : Program} {w : World} {K : PySem.W.Frag} {mg : Str → Option Value} {base : Heap}
abbrev sSame : Stmt := top 36
def spSame (R : Hp → V → V → Prop) : Sp := fun vs H Q _ => ∃ x y, vs = [x, y] ∧ R H x y ∧ ∀ H', Same H H' → Q (.bl true) H'
def R0 (_ : Hp) (x y : V) : Prop := ∃ i : Int, x = .int i ∧ y = .int i
theorem R0.same {H H' : Hp} {x y : V} (r : R0 H x y) (_ : Same H H') : R0 H' x y := r
theorem scSame : FnScope ["_law_found", "_law_due_here"] ["_law_found", "_law_due_here"] (defScope sSame) := ⟨rfl, rfl, rfl, by decide +kernel, rfl, by decide +kernel, by decide +kernel⟩
theorem Zch {f : Addr} {fd : FuncData} (F : Fun K "_law_same" "_law_same" sSame f fd) (G : Gs mg) : FnOk P w K mg base CX0 1 f fd ["_law_found", "_law_due_here"] (spSame R0) := by
 refine F.ok scSame (fun vs H Q E h => ?_) (fun cdv A outer s H vs Q E hr h => ?_)
 ·obtain ⟨x, y, rfl, _⟩ := h
  rfl
 ·obtain ⟨x, y, rfl, ⟨i, rfl, rfl⟩, q⟩ := h
  refine ⟨_, Zg (ZM (ZT (Zj (Ue (a := "list") (b := "tuple")) rfl G.isinstance boot_isinstance (Za (pv 1) (Za (Zv (Za (ZB (v := .ty "list") rfl G.list boot_list rfl) (Za (ZB (v := .ty "tuple") rfl G.tuple boot_tuple rfl) Zb))) Zb)))) Zt Zy)
   (Zg (ZM (PW.pt (JM (YC (JT (pv 1))) (Jp (YC (JT (pv 0)))))) Zt Zy)
   (Zn (ZF (Z2 (ZL Yr (Zj (Zw (c := "bool")) rfl G.isinstance boot_isinstance (Za (pv 0) (Za (ZB (v := .ty "bool") rfl G.bool boot_bool rfl) Zb)))
     (Zj (Zw (c := "bool")) rfl G.isinstance boot_isinstance (Za (pv 1) (Za (ZB (v := .ty "bool") rfl G.bool boot_bool rfl) Zb))) (nomark _))
    (Yb (ZL Yr (pv 0) (pv 1) (nomark _))))))), ?_⟩
  refine ⟨_, rfl, (by show 2 ≤ sizeLine; decide), fun t ht => ?_⟩
  have s1 := Ze (o := .tup [V.ty "list", V.ty "tuple"]) ht
  refine ⟨_, t, _, _, rfl, SqT.of Zc, .inl ⟨i, rfl, rfl⟩, (show _ = some false from rfl), _, rfl, iteF ?_⟩
  refine ⟨_, rfl, _, rfl, iteF ⟨_, rfl, _, rfl, iteF ?_⟩⟩
  refine ⟨_, rfl, _, _, _, rfl, .int i, (show _ = some false from rfl), _, rfl, _, _, _, rfl, .int i, (show _ = some false from rfl), rfl, _, rfl, ?_⟩
  refine iteT ⟨_, rfl, _, rfl, rfl, ?_⟩
  have e : decide (V.int i = V.int i) = true := decide_eq_true rfl
  rw [e]
  exact q _ s1
def RTu (R : Hp → V → V → Prop) (H : Hp) (x y : V) : Prop := ∃ (a b : Addr) (xs ys : List V), x = .ref a ∧ y = .ref b ∧ H a = some (.tup xs) ∧ H b = some (.tup ys) ∧ Paired (R H) xs ys ∧ xs.length ≤ 100
theorem Zbs {R : Hp → V → V → Prop} {k : Nat} (hR : ∀ {H H' : Hp} {x y : V}, R H x y → Same H H' → R H' x y) {f : Addr} {fd : FuncData} (F : Fun K "_law_same" "_law_same" sSame f fd) (G : Gs mg) (D : Def P w K mg base k "_law_same" ["_law_found", "_law_due_here"] (spSame R)) :
  FnOk P w K mg base CX0 (k + 1) f fd ["_law_found", "_law_due_here"] (spSame (RTu R)) := by
 refine F.ok scSame (fun vs H Q E h => ?_) (fun cdv A outer s H vs Q E hr h => ?_)
 ·obtain ⟨x, y, rfl, _⟩ := h
  rfl
 ·obtain ⟨x, y, rfl, ⟨a, b, xs, ys, rfl, rfl, ha, hb, pr, hl⟩, q⟩ := h
  refine ⟨_, Zg (ZM (ZT (Zj (Y0 (a := "list") (b := "tuple")) rfl G.isinstance boot_isinstance (Za (pv 1) (Za (Zv (Za (ZB (v := .ty "list") rfl G.list boot_list rfl) (Za (ZB (v := .ty "tuple") rfl G.tuple boot_tuple rfl) Zb))) Zb))))
    (Zg (ZM (PW.pt (JM (ZO Jx (Zj (Zw (c := "list")) rfl G.isinstance boot_isinstance (Za (pv 0) (Za (ZB (v := .ty "list") rfl G.list boot_list rfl) Zb))) (Zj (Zw (c := "list")) rfl G.isinstance boot_isinstance (Za (pv 1) (Za (ZB (v := .ty "list") rfl G.list boot_list rfl) Zb))) (nomark _))
      (Jp (ZO Jx (Zj (Zw (c := "tuple")) rfl G.isinstance boot_isinstance (Za (pv 0) (Za (ZB (v := .ty "tuple") rfl G.tuple boot_tuple rfl) Zb))) (Zj (Zw (c := "tuple")) rfl G.isinstance boot_isinstance (Za (pv 1) (Za (ZB (v := .ty "tuple") rfl G.tuple boot_tuple rfl) Zb))) (nomark _))))) Zt Zy)
    (Zn (ZF (Z2 (ZL Yr (Zj Zp rfl G.len boot_len (Za (pv 0) Zb)) (Zj Zp rfl G.len boot_len (Za (pv 1) Zb)) (nomark _))
     (Yb (Zj Jm rfl G.all boot_all (Za (YO ["_law_one", "_law_other"] 2 [] (Zc4 rfl G.zip (Za (pv 0) (Za (pv 1) Zb)))
      (fun C s H fp => show PG (blk _ _ _ C s H fp) _ (gTup K 2 (gCons (gName 0) (gCons (gName 1) gNil))) from YD rfl (ZG (pb 0) (ZG (pb 1) Yi))) (fun C s H fp => Yt)
      (fun C s H fp D' => Z8 rfl (Zl D hr (Za (pv 0) (Za (pv 1) Zb))))) Zb))))))) Zy) Zt, ?_⟩
  refine ⟨_, rfl, (by show 2 ≤ sizeLine; decide), fun t ht => ?_⟩
  have s1 := Ze (o := .tup [V.ty "list", V.ty "tuple"]) ht
  have e1 : upd H t (.tup [V.ty "list", V.ty "tuple"]) t = some (.tup [V.ty "list", V.ty "tuple"]) := Zc
  generalize upd H t (HO.tup [V.ty "list", V.ty "tuple"]) = H1 at s1 e1
  have ha1 := s1 _ _ ha
  have hb1 := s1 _ _ hb
  refine ⟨_, t, _, _, rfl, SqT.of e1, .inr (.inr (.inr ⟨b, ys, rfl, hb1, rfl⟩)), (show _ = some true from rfl), _, rfl, iteT ?_⟩
  refine ⟨_, rfl, _, _, _, rfl, .tup ha1, (show _ = some false from rfl), _, rfl, _, _, _, rfl, .tup hb1, (show _ = some false from rfl), rfl, _, rfl, iteF ?_⟩
  refine ⟨_, rfl, _, _, _, rfl, .tup ha1, (show _ = some true from rfl), _, rfl, _, _, _, rfl, .tup hb1, (show _ = some true from rfl), rfl, _, rfl, iteF ?_⟩
  have hlen : xs.length = ys.length := Paired.length pr
  refine ⟨_, rfl, a, xs, rfl, .inr (SqT.of ha1), _, rfl, b, ys, rfl, .inr (SqT.of hb1), rfl, _, rfl, ?_⟩
  have el : decide (V.int (xs.length : Int) = V.int (ys.length : Int)) = true := decide_eq_true (by rw [hlen])
  rw [el]
  refine iteT ⟨_, rfl, _, rfl, a, b, rfl, ⟨xs, ys, SqT.of ha1, SqT.of hb1⟩, ?_⟩
  refine Zbx (xs := xs) (zs := ys) hlen (fun i zs σ H2 => ∃ v0 v1, σ = [v0, v1] ∧ Same H1 H2 ∧ zs = List.replicate i (V.bl true)) ⟨_, _, rfl, Same.refl _, rfl⟩ (fun i zs σ H2 _ ⟨_, _, _, s2, _⟩ => ⟨SqT.of (s2 _ _ ha1), SqT.of (s2 _ _ hb1)⟩) ?_ ?_
  ·rintro i x y T zs σ H2 hx hy hT ⟨v0, v1, rfl, s2, rfl⟩
   obtain ⟨y', hy', r⟩ := Us pr hx
   rw [hy] at hy'
   cases hy'
   have sT := Ze (o := .par [x, y]) hT
   have hi : i < xs.length := (List.getElem?_eq_some_iff.mp hx).1
   refine ⟨T, _, rfl, SqT.ofP Zc, rfl, _, _, rfl, _, _, rfl, rfl, ?_⟩
   refine ⟨x, rfl, y, rfl, x, y, rfl, hR r (s1.trans (s2.trans sT)), fun H3 s3 => ⟨by rw [List.length_replicate, sizeLine_eq]; omega, _, _, rfl, s2.trans (sT.trans s3), ?_⟩⟩
   rw [List.replicate_succ']
  ·rintro zs σ H2 ⟨v0, v1, rfl, s2, rfl⟩ p hp
   refine ⟨p, List.replicate xs.length true, rfl, ?_, ?_⟩
   ·rw [List.map_replicate]
    exact SqL.of Zc
   ·have e : (List.replicate xs.length true).all id = true := by simp
    rw [e]
    exact q _ (s1.trans (s2.trans (Ze hp)))
end
end U
namespace U
open PySem L2 PyProof.Rows
section
def nm15 : List Str := ["NoBoard", "NoLay", "NoNumber", "NoPoints", "NoPoint", "NoPaper", "NoUnlike", "NoPrime", "NoRoot", "NoTurn", "TooFew", "TooMany", "NoText", "NoLine", "NoDeed"]
def wd1 : List Str := ["board", "lay", "number", "points", "point", "paper", "unlike", "prime"]
def wd2 : List Str := ["root", "turn", "few", "many", "text", "line", "deed"]
def wordOf (i : Nat) : Str := (wd1 ++ wd2).getD i ""
structure Mk15 (K : PySem.W.Frag) (mg : Str → Option Value) (cS C : Addr) (iC : Nat) : Prop where
 z : ExcK K C
 ms : mg "StepError" = some (.ref cS)
 xs : PySem.W.exmOne K (.ref C) (.ref cS) = some true
 m : ∀ i, i < 15 → ∃ c, mg (nm15.getD i "") = some (.ref c) ∧ PySem.W.kitOne K (.ref C) (.ref c) = some (decide (i = iC))
 mv : mg "ValueError" = none
 xv : PySem.W.kitOne K (.ref C) (.type "ValueError") = some true
 lt : iC < 15
def marksL (iC n : Nat) : List V := (List.range n).map fun i => V.bl (decide (i = iC))
theorem J8 (iC n : Nat) : (marksL iC n).all flatV = true := by
 unfold marksL
 rw [List.all_map, List.all_eq_true]
 exact fun _ _ => rfl
theorem UD : ∀ iC, iC < 15 → (marksL iC 15).countP (fun y => eqV y (.bl true)) = 1 := by decide +kernel
theorem Zcr {iC : Nat} (h : iC < 15) : (marksL iC 15)[iC]? = some (.bl true) := by
 unfold marksL
 rw [List.getElem?_map, List.getElem?_range h]
 show some (V.bl (decide (iC = iC))) = _
 rw [decide_eq_true rfl]
theorem Zcq {iC m : Nat} {y : V} (h : m < iC) (e : (marksL iC 15)[m]? = some y) : eqV y (.bl true) = false := by
 unfold marksL at e
 rw [List.getElem?_map] at e
 obtain ⟨k, hk, rfl⟩ := Option.map_eq_some_iff.mp e
 have : k = m := by
  have := List.getElem?_eq_some_iff.mp hk
  simpa using this.2.symm
 subst this
 show (decide (k = iC) == true) = false
 rw [decide_eq_false (by omega)]
 rfl
def tII (K : PySem.W.Frag) (i : Nat) (u : Value) : TE := fun σ H Q => ∃ e C b, σ[i]? = some (some (.ref e)) ∧ H e = some (excO e C) ∧ ExcK K C ∧ PySem.W.kitOne K (.ref C) u = some b ∧ Q (.bl b) H
theorem Yg {X : Cx} {i : Nat} {y n : Str} {c : Addr} {p1 p2 p3 p4 : Pos} (hi : X.mg "isinstance" = none) (hx : PE X (.Name y p2) (tVar i)) (hm : X.mg n = some (.ref c)) (g1 : Gl X "isinstance" := by rfl) (g2 : Gl X n := by rfl) (hd : (n == ("__debug__" : Str)) = false := by decide) :
  PE X (.Call (.Name "isinstance" p1) [.Name y p2, .Name n p3] [] p4) (tII X.K i (.ref c)) := by
 intro pins s σ H Q I h
 obtain ⟨e, C, b, h1, h2, h3, h4, h5⟩ := h
 have z : PE X (.Call (.Name "isinstance" p1) [.Name y p2, .Name n p3] [] p4) _ := Zj Jl g1 hi boot_isinstance (Za hx (Za (Y8 (v := .ref c) g2 hm rfl hd) Zb))
 exact z pins s σ H Q I ⟨_, h1, e, C, _, _, _, rfl, h2, h3, fun _ h => h, h4, h5⟩
end
end U
namespace U
open PySem L2 PyProof.Rows
section
variable {P : Program} {w : World} {K : PySem.W.Frag} {mg : Str → Option Value} {base : Heap}
abbrev sWord : Stmt := top 34
def spWord (P : Program) (w : World) (K : PySem.W.Frag) (mg : Str → Option Value) (base : Heap) (cS : Addr) (k : Nat) : Sp := fun vs H Q _ => ∃ f fd sp C iC, vs = [.ref f] ∧ Mk15 K mg cS C iC ∧ (∀ s, HOk P w H s → PySem.W.FnAt f s) ∧ FnOk P w K mg base (CXR P w) k f fd [] sp ∧
 (∀ s, BindsTo s fd ⟨[], []⟩ []) ∧ (∀ Q' E', (∀ e H', Same H H' → E' (.ref e) (some C) H') → sp [] H Q' E') ∧ ∀ H', Same H H' → Q (.str (wordOf iC)) H'
abbrev nWord : List Str := ["_law_call", "_law_error", "e", "_law_marks", "_law_more", "_law_words"]
theorem scWord : FnScope nWord ["_law_call"] (defScope sWord) := ⟨rfl, rfl, rfl, by decide +kernel, rfl, by decide +kernel, by decide +kernel⟩
theorem Zdc {k : Nat} {f : Addr} {fd : FuncData} {cS : Addr} (F : Fun K "_law_word" "_law_word" sWord f fd) (G : Gs mg) : FnOk P w K mg base CX0 (k + 1) f fd ["_law_call"] (spWord P w K mg base cS k) := by
 refine F.ok scWord (fun vs H Q E h => ?_) (fun cdv A outer s H vs Q E hr h => ?_)
 ·obtain ⟨f, fd, sp, C, iC, rfl, _⟩ := h
  rfl
 ·obtain ⟨f, fd, sp, C, iC, rfl, M, hfn, Fl, hbd, hsp, q⟩ := h
  obtain ⟨c0, m0, k0⟩ := M.m 0 (by decide)
  obtain ⟨c1, m1, k1⟩ := M.m 1 (by decide)
  obtain ⟨c2, m2, k2⟩ := M.m 2 (by decide)
  obtain ⟨c3, m3, k3⟩ := M.m 3 (by decide)
  obtain ⟨c4, m4, k4⟩ := M.m 4 (by decide)
  obtain ⟨c5, m5, k5⟩ := M.m 5 (by decide)
  obtain ⟨c6, m6, k6⟩ := M.m 6 (by decide)
  obtain ⟨c7, m7, k7⟩ := M.m 7 (by decide)
  obtain ⟨c8, m8, k8⟩ := M.m 8 (by decide)
  obtain ⟨c9, m9, k9⟩ := M.m 9 (by decide)
  obtain ⟨c10, m10, k10⟩ := M.m 10 (by decide)
  obtain ⟨c11, m11, k11⟩ := M.m 11 (by decide)
  obtain ⟨c12, m12, k12⟩ := M.m 12 (by decide)
  obtain ⟨c13, m13, k13⟩ := M.m 13 (by decide)
  obtain ⟨c14, m14, k14⟩ := M.m 14 (by decide)
  have gi := G.isinstance
  refine ⟨_, Zg (Zz (i := 1) scWord.nd rfl (Or.inl rfl) YE)
   (Zg (Zac (ic := 0) (ie := 2) rfl rfl rfl scWord.nd rfl (Or.inl rfl) rfl rfl M.ms rfl hr (fun e => Zn (Zz (i := 1) scWord.nd rfl (Or.inl rfl) (pv 2))))
   (Zg (Zz (i := 3) scWord.nd rfl (Or.inl rfl) (ZI (Za (Yg gi (pv 1) m0) (Za (Yg gi (pv 1) m1) (Za (Yg gi (pv 1) m2) Zb)))))
   (Zg (Zz (i := 4) scWord.nd rfl (Or.inl rfl) (ZI (Za (Yg gi (pv 1) m3) (Za (Yg gi (pv 1) m4) (Za (Yg gi (pv 1) m5) Zb)))))
   (Zg (Zz (i := 3) scWord.nd rfl (Or.inl rfl) (Zo Yy (Zo Yy (pv 3) (pv 4)) (ZI (Za (Yg gi (pv 1) m6) (Za (Yg gi (pv 1) m7) Zb)))))
   (Zg (Zz (i := 3) scWord.nd rfl (Or.inl rfl) (Zo Yy (pv 3) (ZI (Za (Yg gi (pv 1) m8) (Za (Yg gi (pv 1) m9) Zb)))))
   (Zg (Zz (i := 3) scWord.nd rfl (Or.inl rfl) (Zo Yy (pv 3) (ZI (Za (Yg gi (pv 1) m10) (Za (Yg gi (pv 1) m11) Zb)))))
   (Zg (Zz (i := 3) scWord.nd rfl (Or.inl rfl) (Zo Yy (pv 3) (ZI (Za (Yg gi (pv 1) m12) (Za (Yg gi (pv 1) m13) Zb)))))
   (Zg (Ye (JR PySem.F.plainAttrs_list PySem.F.slot_list_append PySem.F.type_list_append Jt (pv 3) (Za (Yg gi (pv 1) m14) Zb)))
   (Zg (ZM (YC (JT (pv 1))) Zt Zy)
   (Zg (ZM (PW.pt (JM (ZO Jx (JR PySem.F.plainAttrs_list PySem.F.slot_list_count PySem.F.type_list_count Zcp (pv 3) (Za JS Zb)) Zf (nomark _))
     (Jp (Ya (ZT (Zj Jl rfl gi boot_isinstance (Za (pv 1) (Za (ZB (v := .ty "ValueError") rfl M.mv PyProof.Rows.Boot.«ValueError» rfl) Zb)))))))) Zt Zy)
   (Zg (Zz (i := 5) scWord.nd rfl (Or.inl rfl) (ZI (JV (vs := wd1.map V.str) rfl)))
   (Zg (Zz (i := 5) scWord.nd rfl (Or.inl rfl) (Zo Yy (pv 5) (ZI (JV (vs := wd2.map V.str) rfl))))
   (Zn (ZF (ZP ZK (pv 5) (JR PySem.F.plainAttrs_list PySem.F.slot_list_index PySem.F.type_list_index Zbz (pv 3) (Za JS Zb)) (fun _ _ => rfl)))))))))))))))), ?_⟩
  refine ⟨f, fd, sp, rfl, hfn, Fl, hbd, hsp _ _ fun e H1 s1 => ⟨e, C, rfl, rfl, M.xs, fun he0 => ⟨_, rfl, ?_⟩⟩⟩
  have s2 : Same H1 (upd H1 e (excO e C)) := Ze he0
  have he : upd H1 e (excO e C) e = some (excO e C) := Zc
  generalize upd H1 e (excO e C) = H2 at s2 he
  have sA := s1.trans s2
  dsimp only [List.set]
  refine Zq (ZA ⟨e, C, _, rfl, he, M.z, k0, e, C, _, rfl, he, M.z, k1, e, C, _, rfl, he, M.z, k2, (by show 3 ≤ sizeLine; decide), fun l1 hl1 => Zr ?_⟩)
  dsimp only
  show tSeq _ _ _ [some (.ref f), some (.ref e), none, some (.ref l1), none, none] (upd H2 l1 (.lst (marksL iC 3)))
  have t1 := Ze (o := .lst (marksL iC 3)) hl1
  have g1 : upd H2 l1 (.lst (marksL iC 3)) l1 = some (.lst (marksL iC 3)) := Zc
  generalize upd H2 l1 (HO.lst (marksL iC 3)) = H3 at t1 g1
  have he3 := t1 _ _ he
  refine Zq (ZA ⟨e, C, _, rfl, he3, M.z, k3, e, C, _, rfl, he3, M.z, k4, e, C, _, rfl, he3, M.z, k5, (by show 3 ≤ sizeLine; decide), fun l2 hl2 => Zr ?_⟩)
  dsimp only
  show tSeq _ _ _ [some (.ref f), some (.ref e), none, some (.ref l1), some (.ref l2), none] (upd H3 l2 (.lst [V.bl (decide (3 = iC)), V.bl (decide (4 = iC)), V.bl (decide (5 = iC))]))
  have t2 := Ze (o := .lst [V.bl (decide (3 = iC)), V.bl (decide (4 = iC)), V.bl (decide (5 = iC))]) hl2
  have g2 : upd H3 l2 (.lst [V.bl (decide (3 = iC)), V.bl (decide (4 = iC)), V.bl (decide (5 = iC))]) l2 = some (.lst [V.bl (decide (3 = iC)), V.bl (decide (4 = iC)), V.bl (decide (5 = iC))]) := Zc
  generalize upd H3 l2 (HO.lst [V.bl (decide (3 = iC)), V.bl (decide (4 = iC)), V.bl (decide (5 = iC))]) = H4 at t2 g2
  have he4 := t2 _ _ he3
  refine Zq (ZA ⟨_, rfl, _, rfl, l1, l2, marksL iC 3, _, rfl, rfl, t2 _ _ g1, g2, (by show 3 + 3 ≤ sizeLine; decide), fun l3 hl3 => ?_⟩)
  show tLst _ _ (upd H4 l3 (.lst (marksL iC 6))) _
  have t3 := Ze (o := .lst (marksL iC 6)) hl3
  have g3 : upd H4 l3 (.lst (marksL iC 6)) l3 = some (.lst (marksL iC 6)) := Zc
  generalize upd H4 l3 (HO.lst (marksL iC 6)) = H5 at t3 g3
  have he5 := t3 _ _ he4
  refine ⟨e, C, _, rfl, he5, M.z, k6, e, C, _, rfl, he5, M.z, k7, (by show 2 ≤ sizeLine; decide), fun l4 hl4 => ?_⟩
  have t4 := Ze (o := .lst [V.bl (decide (6 = iC)), V.bl (decide (7 = iC))]) hl4
  have g4 : upd H5 l4 (.lst [V.bl (decide (6 = iC)), V.bl (decide (7 = iC))]) l4 = some (.lst [V.bl (decide (6 = iC)), V.bl (decide (7 = iC))]) := Zc
  generalize upd H5 l4 (HO.lst [V.bl (decide (6 = iC)), V.bl (decide (7 = iC))]) = H6 at t4 g4
  refine ⟨l3, l4, marksL iC 6, _, rfl, rfl, t4 _ _ g3, g4, (by show 6 + 2 ≤ sizeLine; decide), fun l5 hl5 => Zr ?_⟩
  dsimp only
  show tSeq _ _ _ [some (.ref f), some (.ref e), none, some (.ref l5), some (.ref l2), none] (upd H6 l5 (.lst (marksL iC 8)))
  have t5 := Ze (o := .lst (marksL iC 8)) hl5
  have g5 : upd H6 l5 (.lst (marksL iC 8)) l5 = some (.lst (marksL iC 8)) := Zc
  generalize upd H6 l5 (HO.lst (marksL iC 8)) = H7 at t5 g5
  have he7 := t5 _ _ (t4 _ _ he5)
  refine Zq (ZA ⟨_, rfl, e, C, _, rfl, he7, M.z, k8, e, C, _, rfl, he7, M.z, k9, (by show 2 ≤ sizeLine; decide), fun a8 ha8 => ?_⟩)
  have ta8 := Ze (o := .lst [V.bl (decide (8 = iC)), V.bl (decide (9 = iC))]) ha8
  have ga8 : upd H7 a8 (.lst [V.bl (decide (8 = iC)), V.bl (decide (9 = iC))]) a8 = some (.lst [V.bl (decide (8 = iC)), V.bl (decide (9 = iC))]) := Zc
  generalize upd H7 a8 (HO.lst [V.bl (decide (8 = iC)), V.bl (decide (9 = iC))]) = Ha8 at ta8 ga8
  refine ⟨l5, a8, marksL iC 8, _, rfl, rfl, ta8 _ _ g5, ga8, (by show 8 + 2 ≤ sizeLine; decide), fun b8 hb8 => Zr ?_⟩
  dsimp only
  show tSeq _ _ _ [some (.ref f), some (.ref e), none, some (.ref b8), some (.ref l2), none] (upd Ha8 b8 (.lst (marksL iC 10)))
  have tb8 := Ze (o := .lst (marksL iC 10)) hb8
  have gb8 : upd Ha8 b8 (.lst (marksL iC 10)) b8 = some (.lst (marksL iC 10)) := Zc
  generalize upd Ha8 b8 (HO.lst (marksL iC 10)) = Hb8 at tb8 gb8
  have heb8 := tb8 _ _ (ta8 _ _ he7)
  refine Zq (ZA ⟨_, rfl, e, C, _, rfl, heb8, M.z, k10, e, C, _, rfl, heb8, M.z, k11, (by show 2 ≤ sizeLine; decide), fun a10 ha10 => ?_⟩)
  have ta10 := Ze (o := .lst [V.bl (decide (10 = iC)), V.bl (decide (11 = iC))]) ha10
  have ga10 : upd Hb8 a10 (.lst [V.bl (decide (10 = iC)), V.bl (decide (11 = iC))]) a10 = some (.lst [V.bl (decide (10 = iC)), V.bl (decide (11 = iC))]) := Zc
  generalize upd Hb8 a10 (HO.lst [V.bl (decide (10 = iC)), V.bl (decide (11 = iC))]) = Ha10 at ta10 ga10
  refine ⟨b8, a10, marksL iC 10, _, rfl, rfl, ta10 _ _ gb8, ga10, (by show 10 + 2 ≤ sizeLine; decide), fun b10 hb10 => Zr ?_⟩
  dsimp only
  show tSeq _ _ _ [some (.ref f), some (.ref e), none, some (.ref b10), some (.ref l2), none] (upd Ha10 b10 (.lst (marksL iC 12)))
  have tb10 := Ze (o := .lst (marksL iC 12)) hb10
  have gb10 : upd Ha10 b10 (.lst (marksL iC 12)) b10 = some (.lst (marksL iC 12)) := Zc
  generalize upd Ha10 b10 (HO.lst (marksL iC 12)) = Hb10 at tb10 gb10
  have heb10 := tb10 _ _ (ta10 _ _ heb8)
  refine Zq (ZA ⟨_, rfl, e, C, _, rfl, heb10, M.z, k12, e, C, _, rfl, heb10, M.z, k13, (by show 2 ≤ sizeLine; decide), fun a12 ha12 => ?_⟩)
  have ta12 := Ze (o := .lst [V.bl (decide (12 = iC)), V.bl (decide (13 = iC))]) ha12
  have ga12 : upd Hb10 a12 (.lst [V.bl (decide (12 = iC)), V.bl (decide (13 = iC))]) a12 = some (.lst [V.bl (decide (12 = iC)), V.bl (decide (13 = iC))]) := Zc
  generalize upd Hb10 a12 (HO.lst [V.bl (decide (12 = iC)), V.bl (decide (13 = iC))]) = Ha12 at ta12 ga12
  refine ⟨b10, a12, marksL iC 12, _, rfl, rfl, ta12 _ _ gb10, ga12, (by show 12 + 2 ≤ sizeLine; decide), fun b12 hb12 => Zr ?_⟩
  dsimp only
  show tSeq _ _ _ [some (.ref f), some (.ref e), none, some (.ref b12), some (.ref l2), none] (upd Ha12 b12 (.lst (marksL iC 14)))
  have tb12 := Ze (o := .lst (marksL iC 14)) hb12
  have gb12 : upd Ha12 b12 (.lst (marksL iC 14)) b12 = some (.lst (marksL iC 14)) := Zc
  generalize upd Ha12 b12 (HO.lst (marksL iC 14)) = Hb12 at tb12 gb12
  have heb12 := tb12 _ _ (ta12 _ _ heb10)
  have sB : Same H Hb12 := s1.trans (s2.trans (t1.trans (t2.trans (t3.trans (t4.trans (t5.trans (ta8.trans (tb8.trans (ta10.trans (tb10.trans (ta12.trans (tb12))))))))))))
  refine Zq ⟨_, rfl, .inl ⟨rfl, _, SqL.of gb12⟩, e, C, _, rfl, heb12, M.z, k14, b12, _, _, rfl, rfl, gb12, (by show 14 < sizeLine; decide), ?_⟩
  show tSeq _ _ _ [some (.ref f), some (.ref e), none, some (.ref b12), some (.ref l2), none] (upd Hb12 b12 (.lst (marksL iC 15)))
  have nb12 : H b12 = none := (s1.trans (s2.trans (t1.trans (t2.trans (t3.trans (t4.trans (t5.trans (ta8.trans (tb8.trans (ta10.trans (tb10.trans ta12))))))))))).free hb12
  have sC : Same H (upd Hb12 b12 (.lst (marksL iC 15))) := ZbX sB nb12
  have hec : upd Hb12 b12 (.lst (marksL iC 15)) e = some (excO e C) := by rw [Zh (fun z => by rw [z, gb12] at heb12; cases heb12)]; exact heb12
  have gc : upd Hb12 b12 (.lst (marksL iC 15)) b12 = some (.lst (marksL iC 15)) := Zc
  generalize upd Hb12 b12 (HO.lst (marksL iC 15)) = Hc at sC hec gc
  refine Zq ⟨_, rfl, _, rfl, iteF ?_⟩
  refine Z0 ?_
  dsimp only
  refine Zq ⟨_, rfl, .inl ⟨rfl, _, SqL.of gc⟩, b12, _, _, rfl, rfl, SqL.of gc, rfl, J8 _ _, ?_⟩
  rw [UD iC M.lt]
  refine ⟨rfl, _, rfl, iteF ⟨_, rfl, e, C, _, _, _, rfl, hec, M.z, fun _ h => h, M.xv, _, rfl, iteF ?_⟩⟩
  refine Z0 ?_
  dsimp only
  refine Zq (ZA ⟨(by show 8 ≤ sizeLine; decide), fun d1 hd1 => Zr ?_⟩)
  dsimp only
  show tSeq _ _ _ [some (.ref f), some (.ref e), none, some (.ref b12), some (.ref l2), some (.ref d1)] _
  have u1 := Ze (o := .lst (wd1.map V.str)) hd1
  have v1 : upd Hc d1 (.lst (wd1.map V.str)) d1 = some (.lst (wd1.map V.str)) := Zc
  generalize upd Hc d1 (HO.lst (wd1.map V.str)) = Hd at u1 v1
  refine Zq (ZA ⟨_, rfl, (by show 7 ≤ sizeLine; decide), fun d2 hd2 => ?_⟩)
  have u2 := Ze (o := .lst (wd2.map V.str)) hd2
  have v2 : upd Hd d2 (.lst (wd2.map V.str)) d2 = some (.lst (wd2.map V.str)) := Zc
  generalize upd Hd d2 (HO.lst (wd2.map V.str)) = He at u2 v2
  refine ⟨d1, d2, _, _, rfl, rfl, u2 _ _ v1, v2, (by show 8 + 7 ≤ sizeLine; decide), fun d3 hd3 => Zr ?_⟩
  dsimp only
  show tRet _ _ [some (.ref f), some (.ref e), none, some (.ref b12), some (.ref l2), some (.ref d3)] _
  have u3 := Ze (o := .lst (wd1.map V.str ++ wd2.map V.str)) hd3
  have v3 : upd He d3 (.lst (wd1.map V.str ++ wd2.map V.str)) d3 = some (.lst (wd1.map V.str ++ wd2.map V.str)) := Zc
  generalize upd He d3 (HO.lst (wd1.map V.str ++ wd2.map V.str)) = Hf at u3 v3
  have gf := u3 _ _ (u2 _ _ (u1 _ _ gc))
  refine ⟨_, rfl, _, rfl, .inl ⟨rfl, _, SqL.of gf⟩, b12, _, _, iC, rfl, rfl, SqL.of gf, rfl, J8 _ _, ⟨_, Zcr M.lt, rfl⟩, fun m y h e => Zcq h e, ?_⟩
  refine ⟨d3, _, _, _, rfl, rfl, SqL.of v3, YV (v := .str (wordOf iC)) ?_, q _ (sC.trans (u1.trans (u2.trans u3)))⟩
  rw [← List.map_append, List.getElem?_map]
  unfold wordOf
  have hl : iC < (wd1 ++ wd2).length := M.lt
  rw [List.getElem?_eq_getElem hl, List.getD_eq_getElem?_getD, List.getElem?_eq_getElem hl]
  rfl
end
end U
set_option Elab.async false
set_option linter.all false
set_option maxRecDepth 100000
set_option maxHeartbeats 40000000
namespace U
open PySem L2 PyProof.Rows
section
def plLit : Lit → Bool
 | .sc v => scal v
 | .tup xs => xs.all scal
 | _ => true
def litTup : Lit → Option (List V)
 | .tup xs => some xs
 | _ => none
theorem W8 {H : Hp} {v : V} : ∀ {l : Lit}, plLit l = true → LitAt H v l → tupOf H v = litTup l
 | .sc u, hp, h => by
  have h' : v = u := h
  subst h'
  cases v with
  | ref a => cases hp
  | _ => rfl
 | .tup xs, _, ⟨a, e, h⟩ => by rw [e, Zm h]; rfl
 | .lst xs, _, ⟨a, e, h⟩ => by rw [e, Zx, h]; rfl
 | .dct, _, ⟨a, e, h⟩ => by rw [e, Zx, h]; rfl
theorem Zd2 {K : PySem.W.Frag} {H : Hp} {v : V} : ∀ {l : Lit}, plLit l = true → LitAt H v l → Pl1 K H v
 | .sc u, hp, h => by
  have h' : v = u := h
  subst h'
  refine ⟨ZaE hp, fun xs e y hy => ?_⟩
  rw [W8 (l := .sc v) hp rfl] at e
  cases e
 | .tup xs, hp, ⟨a, e, h⟩ => by
  subst e
  refine ⟨⟨_, .tup h⟩, fun ys e y hy => ?_⟩
  rw [Zm h] at e
  cases e
  exact ZaE (List.all_eq_true.mp hp y hy)
 | .lst xs, hp, ⟨a, e, h⟩ => by
  subst e
  refine ⟨⟨_, .lst h⟩, fun ys e y hy => ?_⟩
  rw [Zx, h] at e
  cases e
 | .dct, hp, ⟨a, e, h⟩ => by
  subst e
  refine ⟨⟨_, .dK h⟩, fun ys e y hy => ?_⟩
  rw [Zx, h] at e
  cases e
def NoRef (p : Addr) (H : Hp) (v : V) : Prop := v ≠ .ref p ∧ ∀ xs, tupOf H v = some xs → ∀ y ∈ xs, y ≠ .ref p
theorem YL {K : PySem.W.Frag} {H H' : Hp} {p : Addr} {v : V} (t : PlT K H v) (s : SameX p H H') (hn : v ≠ .ref p) : tupOf H' v = tupOf H v := by
 obtain ⟨T, t⟩ := t
 cases t with
 | tup e => rw [Zm e, Zm (s _ _ e fun z => hn (by rw [z]))]
 | lst e => rw [Zx, Zx, e, s _ _ e fun z => hn (by rw [z])]
 | frz e => rw [Zx, Zx, e, s _ _ e fun z => hn (by rw [z])]
 | dK e => rw [Zx, Zx, e, s _ _ e fun z => hn (by rw [z])]
 | dT e => rw [Zx, Zx, e, s _ _ e fun z => hn (by rw [z])]
 | _ => rfl
theorem Zdt {K : PySem.W.Frag} {H H' : Hp} {p : Addr} {v : V} (t : PlT K H v) (s : SameX p H H') (hn : v ≠ .ref p) : PlT K H' v := by
 obtain ⟨T, t⟩ := t
 cases t with
 | tup e => exact ⟨_, .tup (s _ _ e fun z => hn (by rw [z]))⟩
 | lst e => exact ⟨_, .lst (s _ _ e fun z => hn (by rw [z]))⟩
 | frz e => exact ⟨_, .frz (s _ _ e fun z => hn (by rw [z]))⟩
 | dK e => exact ⟨_, .dK (s _ _ e fun z => hn (by rw [z]))⟩
 | dT e => exact ⟨_, .dT (s _ _ e fun z => hn (by rw [z]))⟩
 | non => exact ⟨_, .non⟩
 | bl b => exact ⟨_, .bl b⟩
 | int i => exact ⟨_, .int i⟩
 | str x => exact ⟨_, .str x⟩
 | flt x => exact ⟨_, .flt x⟩
theorem ZaF {K : PySem.W.Frag} {H H' : Hp} {p : Addr} {v : V} (t : Pl1 K H v) (s : SameX p H H') (n : NoRef p H v) : Pl1 K H' v := by
 refine ⟨Zdt t.1 s n.1, fun xs e y hy => ?_⟩
 rw [YL t.1 s n.1] at e
 exact Zdt (t.2 xs e y hy) s (n.2 xs e y hy)
theorem W5 {K : PySem.W.Frag} {H H' : Hp} {p q : Addr} {v : V} (t : PlT K H v) (s : SameX q H H') (hq : v ≠ .ref q) (n : NoRef p H v) : NoRef p H' v := ⟨n.1, fun xs e => n.2 xs (by rw [← YL t s hq]; exact e)⟩
end
end U
namespace U
open PySem L2 PyProof.Rows
section
variable {P : Program} {w : World} {K : PySem.W.Frag} {mg : Str → Option Value} {base : Heap}
abbrev sNoB : Stmt := top 35
def noB1 : List Lit := [.sc .non, .tup [.int 0, .int 3], .tup [.int 3, .int 13], .tup [.int 13, .int 13], .lst [.int 3, .int 3], .tup [.int 3], .tup [.int 3, .int 3, .int 3], .tup [.bl true, .int 3], .tup [.int 3, .str "3"], .sc (.int 7)]
def badLit (l : Lit) : Bool := plLit l && !isBoardL (litTup l)
theorem Zdj : noB1.all badLit = true := by decide +kernel
def spNoB (K : PySem.W.Frag) : Sp := fun vs H Q _ => ∃ p : Addr, vs = [.ref p] ∧ StAt H p ∧ ∀ v H', SameX p H H' → StAt H' p → BadBoard K H' v → NoRef p H' v → Q v H'
def noE1 : List Expr := match defBody sNoB with | .Assign _ (.List es _) _ :: _ => es | _ => []
def noSk (a : List Expr) : List Stmt := match defBody sNoB with
 | .Assign x (.List _ p1) p2 :: r => .Assign x (.List a p1) p2 :: r
 | _ => []
theorem Zdh : defBody sNoB = noSk noE1 := by kernel_rfl
theorem Zdi : litsOf noE1 = some noB1 := by kernel_rfl
theorem scNoB : FnScope ["_law_state_here", "_law_some"] ["_law_state_here"] (defScope sNoB) := ⟨rfl, rfl, rfl, by decide +kernel, rfl, by decide +kernel, by decide +kernel⟩
theorem Zct {H H' : Hp} {p : Addr} {v : V} : ∀ {l : Lit}, LitAt H v l → (∀ a : Addr, v = .ref a → a ≠ p) → SameX p H H' → LitAt H' v l
 | .sc _, h, _, _ => h
 | .tup _, ⟨a, e, h⟩, n, s => ⟨a, e, s _ _ h (n a e)⟩
 | .lst _, ⟨a, e, h⟩, n, s => ⟨a, e, s _ _ h (n a e)⟩
 | .dct, ⟨a, e, h⟩, n, s => ⟨a, e, s _ _ h (n a e)⟩
theorem ZbD {H : Hp} {p : Addr} {v : V} {l : Lit} (hp : plLit l = true) (h : LitAt H v l) (n : ∀ a : Addr, v = .ref a → a ≠ p) : NoRef p H v := by
 refine ⟨fun z => n p z rfl, fun xs e y hy z => ?_⟩
 rw [W8 hp h] at e
 cases l with
 | tup ys =>
  cases e
  have := List.all_eq_true.mp (show xs.all scal = true from hp) y hy
  rw [z] at this
  cases this
 | _ => cases e
theorem ZdT {f : Addr} {fd : FuncData} (F : Fun K "_law_no_board" "_law_no_board" sNoB f fd) (D1 : Def P w K mg base 1 "_law_take" ["_law_state_here", "_law_many"] spTake) : FnOk P w K mg base CX0 2 f fd ["_law_state_here"] (spNoB K) := by
 refine F.ok scNoB (fun vs H Q E h => ?_) (fun cdv A outer s H vs Q E hr h => ?_)
 ·obtain ⟨p, rfl, _⟩ := h
  rfl
 ·obtain ⟨p, rfl, st, q⟩ := h
  rw [Zdh]
  have i1 := Zdi
  generalize noE1 = es1 at i1
  refine ⟨_, Zg (Zz (i := 1) scNoB.nd rfl (Or.inl rfl) (ZI (ZaK (ls := noB1) i1))) (Zn (ZF (ZP ZK (Zo Yy (pv 1) (ZI (Za (Zv (Za (Zv (Za Zf Zb)) (Za Zf Zb))) (Za (Zv (Za Zf (Za YE Zb))) Zb)))) (Zl D1 hr (Za (pv 0) (Za Zf Zb))) (fun _ _ => rfl)))), ?_⟩
  refine Zq (ZA fun vs1 H1 s1 pr1 n1 => ?_)
  have l1 : vs1.length = 10 := Paired.length pr1
  refine ⟨by rw [l1]; decide, fun L1 hL1 => Zr ?_⟩
  have s2 : Same H1 (upd H1 L1 (.lst vs1)) := Ze hL1
  have eL : upd H1 L1 (.lst vs1) L1 = some (.lst vs1) := Zc
  generalize upd H1 L1 (HO.lst vs1) = H2 at s2 eL
  dsimp only [List.set]
  refine ⟨_, rfl, (by show 1 ≤ sizeLine; decide), fun a1 ha1 => ?_⟩
  have s3 := Ze (o := .tup [V.int 1]) ha1
  have e3 : upd H2 a1 (.tup [V.int 1]) a1 = some (.tup [V.int 1]) := Zc
  generalize upd H2 a1 (HO.tup [V.int 1]) = H3 at s3 e3
  refine ⟨(by show 2 ≤ sizeLine; decide), fun a2 ha2 => ?_⟩
  have s4 := Ze (o := .tup [V.ref a1, V.int 2]) ha2
  have e4 : upd H3 a2 (.tup [V.ref a1, V.int 2]) a2 = some (.tup [V.ref a1, V.int 2]) := Zc
  generalize upd H3 a2 (HO.tup [V.ref a1, V.int 2]) = H4 at s4 e4
  refine ⟨(by show 2 ≤ sizeLine; decide), fun a3 ha3 => ?_⟩
  have s5 := Ze (o := .tup [V.int 2, V.non]) ha3
  have e5 : upd H4 a3 (.tup [V.int 2, V.non]) a3 = some (.tup [V.int 2, V.non]) := Zc
  generalize upd H4 a3 (HO.tup [V.int 2, V.non]) = H5 at s5 e5
  refine ⟨(by show 2 ≤ sizeLine; decide), fun L2' hL2 => ?_⟩
  have s6 := Ze (o := .lst [V.ref a2, V.ref a3]) hL2
  have e6 : upd H5 L2' (.lst [V.ref a2, V.ref a3]) L2' = some (.lst [V.ref a2, V.ref a3]) := Zc
  generalize upd H5 L2' (HO.lst [V.ref a2, V.ref a3]) = H6 at s6 e6
  refine ⟨L1, L2', _, _, rfl, rfl, s6 _ _ (s5 _ _ (s4 _ _ (s3 _ _ eL))), e6, by rw [l1]; show 10 + 2 ≤ sizeLine; decide, fun L3 hL3 => ?_⟩
  have s7 := Ze (o := .lst (vs1 ++ [V.ref a2, V.ref a3])) hL3
  have e7 : upd H6 L3 (.lst (vs1 ++ [V.ref a2, V.ref a3])) L3 = some (.lst (vs1 ++ [V.ref a2, V.ref a3])) := Zc
  generalize upd H6 L3 (HO.lst (vs1 ++ [V.ref a2, V.ref a3])) = H7 at s7 e7
  have s37 := s3.trans (s4.trans (s5.trans (s6.trans s7)))
  have s27 := s2.trans s37
  have sAll : Same H H7 := s1.trans s27
  have st7 := st.same sAll
  refine ⟨_, rfl, p, 12, rfl, st7, by decide, by decide, fun r o h0 h12 st8 => ?_⟩
  obtain ⟨u0, v0, ep0, _⟩ := id st
  have ep7 := sAll _ _ ep0
  have neL : ∀ {c : Addr} {G G' : Hp}, Same H G → G c = none → c ≠ p := fun s h z => by rw [z, s _ _ ep0] at h; cases h
  have nL3 := neL (s1.trans (s2.trans (s3.trans (s4.trans (s5.trans s6))))) (G' := H) hL3
  have na1 := neL (s1.trans s2) (G' := H) ha1
  have na2 := neL (s1.trans (s2.trans s3)) (G' := H) ha2
  have na3 := neL (s1.trans (s2.trans (s3.trans s4))) (G' := H) ha3
  have lAll : (vs1 ++ [V.ref a2, V.ref a3]).length = 12 := by rw [List.length_append, l1]; rfl
  have hlt : r.toNat < (vs1 ++ [V.ref a2, V.ref a3]).length := by rw [lAll]; omega
  have hix := List.getElem?_eq_getElem hlt
  have hat := YV hix
  rw [Int.toNat_of_nonneg h0] at hat
  have x8 : SameX p H7 (upd H7 p o) := SameX.upd
  refine ⟨L3, _, _, _, rfl, rfl, SqL.of (x8 _ _ e7 nL3), hat, ?_⟩
  have hm : (vs1 ++ [V.ref a2, V.ref a3])[r.toNat] ∈ vs1 ++ [V.ref a2, V.ref a3] := List.getElem_mem hlt
  generalize (vs1 ++ [V.ref a2, V.ref a3])[r.toNat] = v at hm
  have good : BadBoard K (upd H7 p o) v ∧ NoRef p (upd H7 p o) v := by
   rcases List.mem_append.mp hm with hm | hm
   ·obtain ⟨k, hk, ek⟩ := List.getElem_of_mem hm
    obtain ⟨l, hl, at1⟩ := Us pr1 (List.getElem?_eq_getElem hk)
    rw [ek] at at1
    have hb := List.all_eq_true.mp Zdj l (List.mem_of_getElem? hl)
    unfold badLit at hb
    rw [Bool.and_eq_true] at hb
    have n : ∀ a : Addr, v = .ref a → a ≠ p := fun a e z => by
     have := n1 a (by rw [← e]; exact hm)
     rw [z, ep0] at this
     cases this
    have at8 := Zct (at1.same s27) n x8
    refine ⟨⟨Zd2 hb.1 at8, ?_⟩, ZbD hb.1 at8 n⟩
    rw [W8 hb.1 at8]
    simpa using hb.2
   ·simp only [List.mem_cons, List.not_mem_nil, or_false] at hm
    rcases hm with rfl | rfl
    ·have g2 := x8 _ _ ((s5.trans (s6.trans s7)) _ _ e4) na2
     have g1 := x8 _ _ ((s4.trans (s5.trans (s6.trans s7))) _ _ e3) na1
     refine ⟨⟨⟨⟨_, .tup g2⟩, fun xs e y hy => ?_⟩, by rw [Zm g2]; rfl⟩, fun z => na2 (by cases z; rfl), fun xs e y hy z => ?_⟩
     ·rw [Zm g2] at e
      cases e
      simp only [List.mem_cons, List.not_mem_nil, or_false] at hy
      rcases hy with rfl | rfl
      ·exact ⟨_, .tup g1⟩
      ·exact ⟨_, .int 2⟩
     ·rw [Zm g2] at e
      cases e
      simp only [List.mem_cons, List.not_mem_nil, or_false] at hy
      rcases hy with rfl | rfl
      ·exact na1 (by cases z; rfl)
      ·cases z
    ·have g3 := x8 _ _ ((s6.trans s7) _ _ e5) na3
     refine ⟨⟨⟨⟨_, .tup g3⟩, fun xs e y hy => ?_⟩, by rw [Zm g3]; rfl⟩, fun z => na3 (by cases z; rfl), fun xs e y hy z => ?_⟩
     ·rw [Zm g3] at e
      cases e
      simp only [List.mem_cons, List.not_mem_nil, or_false] at hy
      rcases hy with rfl | rfl
      ·exact ⟨_, .int 2⟩
      ·exact ⟨_, .non⟩
     ·rw [Zm g3] at e
      cases e
      simp only [List.mem_cons, List.not_mem_nil, or_false] at hy
      rcases hy with rfl | rfl <;> cases z
  exact q v _ (fun c u hc hn => x8 _ _ (sAll _ _ hc) hn) st8 good.1 good.2
end
end U
set_option Elab.async false
set_option linter.all false
set_option maxRecDepth 100000
set_option maxHeartbeats 40000000
namespace U
open PySem L2 PyProof.Rows
section
theorem Zba (n : Nat) : L2.upTo n = (frTo 0 n).map V.int := by
 unfold L2.upTo frTo
 rw [List.map_map]
 refine List.map_congr_left fun k _ => ?_
 show V.int (k : Int) = V.int (0 + (k : Int))
 rw [Int.zero_add]
def hereAt (m r h : Int) : Nat → Int
 | 0 => h
 | k + 1 => hereAt m r h k * r % (m + 1)
def powG (m r h : Int) (k : Nat) : List Int := (List.range k).map fun j => hereAt m r h j - 1
theorem Zbn (m r h : Int) (k : Nat) : powG m r h (k + 1) = powG m r h k ++ [hereAt m r h k - 1] := by
 unfold powG
 rw [List.range_succ, List.map_append]
 rfl
theorem Ut (m r h : Int) (k : Nat) : (powG m r h k).length = k := by unfold powG; rw [List.length_map, List.length_range]
def rootT : List (Int × Int × Int) := [(1, 1, 1), (2, 2, 2), (4, 2, 3), (6, 3, 5), (10, 2, 7), (12, 2, 11)]
theorem Zbo : ∀ t ∈ rootT, ∀ r ∈ [t.2.1, t.2.2], ∀ h < t.1.toNat, (powG t.1 r ((h : Int) + 1) t.1.toNat).isPerm (frTo 0 t.1.toNat) = true := by decide +kernel
theorem UT {n : Nat} {i : Int} : i ∈ frTo 0 n ↔ 0 ≤ i ∧ i < n := by
 unfold frTo
 rw [List.mem_map]
 constructor
 ·rintro ⟨k, hk, rfl⟩
  have := List.mem_range.mp hk
  omega
 ·rintro ⟨h1, h2⟩
  exact ⟨i.toNat, List.mem_range.mpr (by omega), by omega⟩
theorem Jg (n : Nat) : (frTo 0 n).length = n := by unfold frTo; rw [List.length_map, List.length_range]
theorem Zao (n : Nat) : (frTo 0 n).Nodup := by
 unfold frTo
 refine List.Pairwise.map _ (fun a b h => ?_) List.nodup_range
 omega
theorem ZaZ {ns : List Int} {n : Int} (h1 : 1 ≤ n) (hp : ns.Perm (frTo 0 n.toNat)) : isFullV n n (some (ns.map V.int)) = true ∧ (ns.length : Int) = n := by
 have hl : ns.length = n.toNat := by rw [hp.length_eq, Jg]
 have hr : rowsOf (ns.map V.int) = ns.map V.int := by
  unfold rowsOf
  rw [List.filter_eq_self]
  intro x hx
  obtain ⟨i, _, rfl⟩ := List.mem_map.mp hx
  rfl
 refine ⟨?_, by omega⟩
 unfold isFullV isLayV
 show ((decide (((ns.map V.int).length : Int) = n) && ((rowsOf (ns.map V.int)).all fun r => wholeIn r 0 (n - 1)) && decide (rowsOf (ns.map V.int)).Nodup) && (decide (n = n) && !inV V.non (ns.map V.int))) = true
 rw [hr, List.length_map, hl, decide_eq_true (by omega : ((n.toNat : Nat) : Int) = n), decide_eq_true rfl]
 have a1 : ((ns.map V.int).all fun r => wholeIn r 0 (n - 1)) = true := by
  rw [List.all_eq_true]
  intro x hx
  obtain ⟨i, hi, rfl⟩ := List.mem_map.mp hx
  have := UT.mp (hp.mem_iff.mp hi)
  exact ZcZ this.1 (by omega)
 have a2 : (ns.map V.int).Nodup := (WF ns).mpr ((List.Perm.nodup_iff hp).mpr (Zao _))
 have a3 : inV .non (ns.map V.int) = false := by
  unfold inV
  rw [List.any_map, List.any_eq_false]
  intro x _ h
  cases h
 rw [a1, decide_eq_true a2, a3]
 rfl
end
end U
namespace U
open PySem L2 PyProof.Rows
section
variable {P : Program} {w : World} {K : PySem.W.Frag} {mg : Str → Option Value} {base : Heap}
abbrev sFullL : Stmt := top 37
def spFullL : Sp := fun vs H Q _ => ∃ (p : Addr) (m : Int), vs = [.ref p, .int m] ∧ StAt H p ∧ 1 ≤ m ∧ m ≤ 12 ∧ ∀ (l : Addr) H' (ns : List Int), SameX p H H' → StAt H' p → H' l = some (.tup (ns.map V.int)) → ns.Perm (frTo 0 m.toNat) → Q (.ref l) H'
theorem scFullL : FnScope ["_law_state_here", "_law_many", "_law_way", "_law_left", "_law_found", "_law_some", "_law_root", "_law_here", "_law_line", "_law_at", "_law_to"] ["_law_state_here", "_law_many"] (defScope sFullL) := ⟨rfl, rfl, rfl, by decide +kernel, rfl, by decide +kernel, by decide +kernel⟩
theorem We : ∀ {ls : List Int} {k : Nat} (h : k < ls.length), (ls[k] :: ls.eraseIdx k).Perm ls
 | _ :: _, 0, _ => .refl _
 | a :: ls, k + 1, h => ((List.Perm.swap _ _ _).trans (List.Perm.cons a (We (ls := ls) (k := k) (by simpa using h))))
def dOf : List (Option Expr) → List Expr → Option (List (Int × Int × Int))
 | [], [] => some []
 | some (.Constant (.int k) _ _) :: ks, .Tuple [.Constant (.int a) _ _, .Constant (.int b) _ _] _ _ :: vs => (dOf ks vs).map ((k, a, b) :: ·)
 | _, _ => none
def dTrs (ts : List (Int × Int × Int)) : List (TE × TE) := ts.map fun t => (tC (V.int t.1), tTup (tCons (tC (V.int t.2.1)) (tCons (tC (V.int t.2.2)) tNil)))
theorem ZdK {X : Cx} {pos : Pos} : ∀ {ks : List (Option Expr)} {vs : List Expr} {ts : List (Int × Int × Int)}, dOf ks vs = some ts → PPs X pos ks vs (dTrs ts) ∧ ks.all (·.isSome) = true ∧ ks.length = vs.length ∧ ks.length = ts.length := by
 intro ks vs ts
 fun_induction dOf ks vs generalizing ts with
 | case1 => intro h; cases h; exact ⟨Zc3, rfl, rfl, rfl⟩
 | case2 k p1 p2 ks a p3 p4 b p5 p6 p7 p8 vs ih =>
  intro h
  obtain ⟨us, hu, rfl⟩ := Option.map_eq_some_iff.mp h
  obtain ⟨h1, h2, h3, h4⟩ := ih hu
  refine ⟨Zb4 Zf (Zv (Za Zf (Za Zf Zb))) h1, ?_, ?_, ?_⟩
  ·rw [List.all_cons, h2]; rfl
  ·rw [List.length_cons, List.length_cons, h3]
  ·rw [List.length_cons, List.length_cons, h4]
 | case3 => intro h; cases h
def fK : List (Option Expr) := match defBody sFullL with | _ :: _ :: .If _ (.Assign _ (.Dict ks _ _) _ :: _) _ _ :: _ => ks | _ => []
def fV : List Expr := match defBody sFullL with | _ :: _ :: .If _ (.Assign _ (.Dict _ vs _) _ :: _) _ _ :: _ => vs | _ => []
def fSk (a : List (Option Expr)) (b : List Expr) : List Stmt := match defBody sFullL with
 | s1 :: s2 :: .If c (.Assign x (.Dict _ _ p1) p2 :: r1) e q :: r => s1 :: s2 :: .If c (.Assign x (.Dict a b p1) p2 :: r1) e q :: r
 | _ => []
theorem Zd8 : defBody sFullL = fSk fK fV := by kernel_rfl
theorem Zek : dOf fK fV = some rootT := by kernel_rfl
end
end U
set_option Elab.async false
set_option linter.all false
set_option maxRecDepth 100000
set_option maxHeartbeats 40000000
namespace U
open PySem L2 PyProof.Rows
section
theorem Um {t u : TS} {D : Ends} {σ : L2.St} {H : Hp} (R : L2.St → Hp → Prop) (h2 : ∀ σ' H', R σ' H' → u D σ' H') (h1 : ∀ D' : Ends, (∀ σ' H', R σ' H' → D'.nx σ' H') → t D' σ H) : tSeq t u D σ H := h1 _ h2
theorem Y1 {p L : Addr} {H H1 : Hp} {o : HO} (x : SameX p H H1) (hp : H1 p = some o) (hL : H1 L = none) : H L = none ∧ L ≠ p := by
 have n : L ≠ p := fun e => by rw [e, hp] at hL; cases hL
 refine ⟨?_, n⟩
 cases h : H L with
 | none => rfl
 | some u => rw [x _ _ h n] at hL; cases hL
theorem Z4 {p L : Addr} {H H1 : Hp} {o : HO} (x : SameX p H H1) (n : H L = none) : SameX p H (upd H1 L o) := fun b u h nb => by
 rw [Zh (Zk h n)]
 exact x b u h nb
theorem YM {p L : Addr} {H : Hp} {o : HO} (s : StAt H p) (n : L ≠ p) : StAt (upd H L o) p := by
 obtain ⟨u, v, e, r⟩ := s
 exact ⟨u, v, by rw [Zh n.symm]; exact e, r⟩
theorem J7 : ∀ {more kvs : List (Key × V)} {j : Key} {v : V}, valV (mergeK kvs more) j = some v → (j, v) ∈ more ∨ valV kvs j = some v
 | [], _, _, _, h => .inr h
 | p :: more, kvs, j, v, h => by
  rcases J7 (more := more) (kvs := putK kvs p.1 p.2) h with m | m
  ·exact .inl (List.mem_cons_of_mem _ m)
  ·rw [ZbS] at m
   by_cases e : j = p.1
   ·rw [if_pos e] at m
    cases m
    exact .inl (by rw [e]; exact List.mem_cons_self)
   ·rw [if_neg e] at m
    exact .inr m
theorem ZaJ : ∀ {ts : List (Int × Int × Int)} {σ : L2.St} {H : Hp} {Q : List (V × V) → Hp → Prop}, (∀ (kvs : List (Key × V)) H', Same H H' → kvs.length = ts.length → (∀ p ∈ kvs, ∃ t ∈ ts, ∃ a, p = (Sum.inl t.1, V.ref a) ∧ H' a = some (.tup [.int t.2.1, .int t.2.2])) → Q (kvs.map fun kv => (kV kv.1, kv.2)) H') → tPairs (dTrs ts) σ H Q
 | [], σ, H, Q, h => h [] H (Same.refl _) rfl (fun p hp => by cases hp)
 | t :: ts, σ, H, Q, h => by
  refine ⟨(by show 2 ≤ sizeLine; decide), fun a ha => ?_⟩
  have s0 := Ze (o := .tup [V.int t.2.1, V.int t.2.2]) ha
  have e0 : upd H a (.tup [V.int t.2.1, V.int t.2.2]) a = some (.tup [V.int t.2.1, V.int t.2.2]) := Zc
  generalize upd H a (.tup [V.int t.2.1, V.int t.2.2]) = H1 at s0 e0
  refine ZaJ (ts := ts) fun kvs H' s1 hl hm => ?_
  refine h ((Sum.inl t.1, V.ref a) :: kvs) H' (s0.trans s1) (by rw [List.length_cons, List.length_cons, hl]) fun p hp => ?_
  rcases List.mem_cons.mp hp with rfl | hp
  ·exact ⟨t, List.mem_cons_self, a, rfl, s1 _ _ e0⟩
  ·obtain ⟨u, hu, b, r⟩ := hm p hp
   exact ⟨u, List.mem_cons_of_mem _ hu, b, r⟩
theorem ZdF {A fs : List Int} {k : Nat} {v : Int} (h : A.length = k) (hk : k < fs.length) : ((A ++ fs.drop k).map V.int).set k (.int v) = ((A ++ [v]) ++ fs.drop (k + 1)).map V.int := by
 rw [List.drop_eq_getElem_cons hk, List.map_append, List.set_append_right _ _ (by rw [List.length_map]; omega), List.length_map, h, Nat.sub_self, List.map_cons, List.set_cons_zero, List.append_assoc, List.map_append]
 rfl
theorem W9 {n : Nat} {k : Int} (h0 : 0 ≤ k) (h1 : k < n) : ixN n k = some k.toNat := by
 unfold ixN
 rw [if_pos h0, if_pos h1]
theorem Zau {ns : List Int} {k : Int} (h0 : 0 ≤ k) (h1 : k < ns.length) : atI (ns.map V.int) k = some (.int (ns[k.toNat]'(by omega))) := by
 unfold atI
 rw [W9 h0 (by rw [List.length_map]; exact h1)]
 show (ns.map V.int)[k.toNat]? = _
 rw [List.getElem?_map, List.getElem?_eq_getElem (by omega)]
 rfl
theorem Zbf {ns : List Int} {i j : Nat} (hi : i < ns.length) (hj : j < ns.length) : ((ns.map V.int).set i (.int ns[j])).set j (.int ns[i]) = ((ns.set i ns[j]).set j ns[i]).map V.int ∧ ((ns.set i ns[j]).set j ns[i]).Perm ns := by
 refine ⟨?_, List.set_set_perm hi hj⟩
 rw [List.map_set, List.map_set]
theorem WP {α β : Type} (f : α → β) : ∀ (xs : List α) (k : Nat), (xs.map f).eraseIdx k = (xs.eraseIdx k).map f
 | [], _ => rfl
 | _ :: _, 0 => rfl
 | a :: xs, k + 1 => by
  show f a :: (xs.map f).eraseIdx k = f a :: (xs.eraseIdx k).map f
  rw [WP f xs k]
theorem Zb0 {m r : Int} {t : Int × Int × Int} {h : Int} (ht : t ∈ rootT) (e : t.1 = m) (hr : r = t.2.1 ∨ r = t.2.2) (h0 : 0 ≤ h) (h1 : h < m) : (powG m r (h + 1) m.toNat).Perm (frTo 0 m.toNat) := by
 subst e
 have z := Zbo t ht r (by rcases hr with rfl | rfl <;> simp) h.toNat (by omega)
 rw [Int.toNat_of_nonneg h0] at z
 exact List.isPerm_iff.mp z
theorem Zab : ∀ t ∈ rootT, 1 ≤ t.2.1 ∧ t.2.1 ≤ 12 ∧ 1 ≤ t.2.2 ∧ t.2.2 ≤ 12 := by decide
end
end U
set_option Elab.async false
set_option linter.all false
set_option maxRecDepth 100000
set_option maxHeartbeats 40000000
namespace U
open PySem L2 PyProof.Rows
section
variable {P : Program} {w : World} {K : PySem.W.Frag} {mg : Str → Option Value} {base : Heap}
theorem Zcj {f : Addr} {fd : FuncData} (F : Fun K "_law_full" "_law_full" sFullL f fd) (G : Gs mg) (D1 : Def P w K mg base 1 "_law_take" ["_law_state_here", "_law_many"] spTake) : FnOk P w K mg base CX0 2 f fd ["_law_state_here", "_law_many"] spFullL := by
 refine F.ok scFullL (fun vs H Q E h => ?_) (fun cdv A outer s H vs Q E hr h => ?_)
 ·obtain ⟨p, m, rfl, _⟩ := h
  rfl
 ·obtain ⟨p, m, rfl, st, m1, m12, q⟩ := h
  have hu := Zdy hr
  rw [Zd8]
  have i1 := Zek
  generalize fK = ks at i1
  generalize fV = vvs at i1
  obtain ⟨d1, d2, d3, d4⟩ := ZdK (X := (cxOf CX0 P w K mg base ["_law_state_here", "_law_many", "_law_way", "_law_left", "_law_found", "_law_some", "_law_root", "_law_here", "_law_line", "_law_at", "_law_to"] "_law_full" (defScope sFullL) f cdv A outer s H E).nox) (pos := ⟨119, 20, 119, 89⟩) i1
  have d0 : ks ≠ [] := fun z => by rw [z] at d4; cases d4
  have d15 : ks.length ≤ 15 := by rw [d4]; decide
  refine ⟨_, Zg (Y2 (Zv (Za (Zl D1 hr (Za (pv 0) (Za Zf Zb))) (Za (Yq Wr rfl G.list boot_list (Za (Yq U0 rfl G.range boot_range (Za (pv 1) Zb)) Zb)) Zb))) (YD rfl (ZG (ZV (i := 2) scFullL.nd rfl (Or.inl rfl)) (ZG (ZV (i := 3) scFullL.nd rfl (Or.inr rfl)) Yi))))
   (Zg (ZaD ["_law_line", "_law_left", "_law_state_here"] 1 [3, 0] (i := 4) scFullL.nd rfl (Or.inl rfl) (Yp rfl G.range (Za (pv 1) Zb)) (fun C s H fp => pb 0) (fun C s H fp => Yt)
    (fun C s H fp D => Z8 rfl (show PE (blk _ _ _ C s H fp) _ (tBM K "list" rPopAt (tVar 1) (tCons (tCall spTake [] E0 (tCons (tVar 2) (tCons (tCB (fun xs H Q => ∃ (p : Addr) (ys : List V), xs = [.ref p] ∧ (SqL K H p ys ∨ SqT K H p ys) ∧ Q (.int ys.length) H) (tCons (tVar 1) tNil)) tNil))) tNil)) from
     JR PySem.F.plainAttrs_list PySem.F.slot_list_pop PySem.F.type_list_pop Zco (pv 1) (Za (Zl D1 hr (Za (pv 2) (Za (Zj Zp rfl G.len boot_len (Za (pv 1) Zb)) Zb))) Zb))))
   (Zg (ZM (ZO Zdv (pv 2) Zf (nomark _))
    (Zg (Zz (i := 5) scFullL.nd rfl (Or.inl rfl) (Zc6 d1 d2 d3 d0 d15))
    (Zg (Zz (i := 6) scFullL.nd rfl (Or.inl rfl) (Uw (YC (ZdP hu (pv 1) (pv 5))) (ZP Y4 (Zc7 hu (pv 5) (pv 1) (fun _ _ => rfl)) (Zo Yc (pv 2) Zf) (fun _ _ => rfl)) YE))
    (Zn (ZM (YC (ZaI (pv 6)))
     (Zg (Zz (i := 7) scFullL.nd rfl (Or.inl rfl) (Zo ZW (ZP ZK (pv 4) Zf (fun _ _ => rfl)) Zf))
     (Zn (JN PassesOwn.never rfl (Yp rfl G.range (Za (pv 1) Zb)) (ZV (i := 8) scFullL.nd rfl (Or.inl rfl))
      (Zg (Y2 (Zo Yx (pv 7) Zf) (JO (pv 4) (pv 8) YA)) (Zn (Zz (i := 7) scFullL.nd rfl (Or.inl rfl) (Zo Yc (Zo YG (pv 7) (pv 6)) (Zo ZW (pv 1) Zf))))))))
     Zy)))) Zy)
   (Zg (ZM (ZO Yr (pv 2) Zf (nomark _))
    (Zg (Zad (i := 9) (j := 10) rfl scFullL.nd rfl rfl (by decide) rfl rfl (Za (Zl D1 hr (Za (pv 0) (Za (pv 1) Zb))) (Za (Zl D1 hr (Za (pv 0) (Za (pv 1) Zb))) Zb)) rfl)
    (Zn (Y2 (Zv (Za (ZP ZK (pv 4) (pv 10) (fun _ _ => rfl)) (Za (ZP ZK (pv 4) (pv 9) (fun _ _ => rfl)) Zb))) (YD rfl (ZG (JO (pv 4) (pv 9) YA) (ZG (JO (pv 4) (pv 10) YA) Yi)))))) Zy)
   (Zn (ZF (Yq Wp rfl G.tuple boot_tuple (Za (pv 4) Zb))))))), ?_⟩
  refine Zq (ZA ⟨_, rfl, p, 4, rfl, st, by decide, by decide, fun way o1 w0 w4 st1 => ⟨_, rfl, m, rfl, fun rg hrg => ⟨rg, m, rfl, Zc, by omega, by omega, fun L hL => ⟨(by show 2 ≤ sizeLine; decide), fun tt htt => ⟨tt, _, rfl, SqT.of Zc, rfl, _, _, rfl, _, _, rfl, rfl, ?_⟩⟩⟩⟩⟩)
  dsimp only [List.set]
  have x1 : SameX p H (upd H p o1) := SameX.upd
  have sA := Ze (o := .rng 0 m) hrg
  have sB := Ze (o := .lst (L2.upTo m.toNat)) hL
  have sC := Ze (o := .tup [V.int way, V.ref L]) htt
  have eL := sC _ _ (Zc (H := upd (upd H p o1) rg (.rng 0 m)) (a := L) (o := .lst (L2.upTo m.toNat)))
  have st2 := st1.same (sA.trans (sB.trans sC))
  have x2 : SameX p H _ := x1.trans (sA.trans (sB.trans sC)).x
  have hLf : H L = none ∧ L ≠ p := by
   obtain ⟨u, v, e, _⟩ := st1.same sA
   exact Y1 (x1.trans sA.x) e hL
  generalize upd (upd (upd (upd H p o1) rg (.rng 0 m)) L (.lst (L2.upTo m.toNat))) tt (.tup [V.int way, V.ref L]) = H1 at eL st2 x2
  obtain ⟨hLn, hLp⟩ := hLf
  rw [Zba] at eL
  have hm : (m.toNat : Int) = m := by omega
  refine Zq (ZA ⟨_, rfl, m, rfl, by omega, by omega, ?_⟩)
  refine JZ (n := m.toNat) (fun j ys σ H2 => ∃ (fs ls : List Int) (v : Option V), ys = fs.map V.int ∧ σ = [v, some (.ref L), some (.ref p)] ∧ SameX p H H2 ∧ StAt H2 p ∧ H2 L = some (.lst (ls.map V.int)) ∧ fs.length = j ∧ (fs ++ ls).Perm (frTo 0 m.toNat)) ⟨[], frTo 0 m.toNat, none, rfl, rfl, x2, st2, eL, rfl, .refl _⟩ ?_ ?_
  ·rintro j ys σ H2 hj ⟨fs, ls, v, rfl, rfl, x3, st3, e3, fl, pm⟩
   have hlen := pm.length_eq
   rw [List.length_append, Jg] at hlen
   refine ⟨_, rfl, .inl ⟨rfl, _, SqL.of e3⟩, _, rfl, _, rfl, L, _, rfl, .inl (SqL.of e3), p, _, rfl, st3, by rw [List.length_map]; omega, by rw [List.length_map]; omega, fun r o r0 r1 st4 => ?_⟩
   rw [List.length_map] at r1
   have e4 : upd H2 p o L = some (.lst (ls.map V.int)) := by rw [Zh hLp]; exact e3
   have hr' : r.toNat < ls.length := by omega
   refine ⟨L, _, r, r.toNat, .int (ls[r.toNat]), rfl, rfl, e4, by omega, by omega, seqIndex_of r0 (by rw [List.length_map]; exact r1), by rw [List.getElem?_map, List.getElem?_eq_getElem hr']; rfl, by rw [List.length_map, sizeLine_eq]; omega, ?_⟩
   refine ⟨fs ++ [ls[r.toNat]], ls.eraseIdx r.toNat, _, by rw [List.map_append]; rfl, rfl, Z4 (x3.trans SameX.upd) hLn, YM st4 hLp, ?_, by rw [List.length_append, fl]; rfl, ?_⟩
   ·rw [Zc, WP]
   ·rw [List.append_assoc]
    exact ((We hr').append_left fs).trans pm
  ·rintro ys σ H2 ⟨fs, ls, v, rfl, rfl, x3, st3, e3, fl, pm⟩ F hF
   refine Zr ?_
   dsimp only [List.set]
   have hlen := pm.length_eq
   rw [List.length_append, Jg] at hlen
   have hls : ls = [] := List.eq_nil_of_length_eq_zero (by omega)
   subst hls
   rw [List.append_nil] at pm
   obtain ⟨hFn, hFp⟩ : H F = none ∧ F ≠ p := by
    obtain ⟨u, v, e, _⟩ := id st3
    exact Y1 x3 e hF
   have x4 : SameX p H (upd H2 F (.lst (fs.map V.int))) := Z4 x3 hFn
   have st4 : StAt (upd H2 F (.lst (fs.map V.int))) p := YM st3 hFp
   have e4 : upd H2 F (.lst (fs.map V.int)) F = some (.lst (fs.map V.int)) := Zc
   generalize upd H2 F (.lst (fs.map V.int)) = H4 at x4 st4 e4
   refine Um (fun σ H5 => ∃ (gs : List Int) (x5 x6 x7 x8 : Option V), σ = [some (.ref p), some (.int m), some (.int way), some (.ref L), some (.ref F), x5, x6, x7, x8, none, none] ∧ SameX p H H5 ∧ StAt H5 p ∧ H5 F = some (.lst (gs.map V.int)) ∧ gs.Perm (frTo 0 m.toNat)) ?_ ?_
   ·rintro σ H5 ⟨gs, x5, x6, x7, x8, rfl, y5, st5, e5, pm5⟩
    have gl := pm5.length_eq
    rw [Jg] at gl
    refine Um (fun σ H6 => ∃ (hs : List Int) (x5 x6 x7 x8 x9 x10 : Option V), σ = [some (.ref p), some (.int m), some (.int way), some (.ref L), some (.ref F), x5, x6, x7, x8, x9, x10] ∧ SameX p H H6 ∧ StAt H6 p ∧ H6 F = some (.lst (hs.map V.int)) ∧ hs.Perm (frTo 0 m.toNat)) ?_ ?_
    ·rintro σ H6 ⟨hs, x5, x6, x7, x8, x9, x10, rfl, y6, st6, e6, pm6⟩
     refine ⟨_, rfl, F, _, rfl, .inl ⟨SqL.of e6, fun l hl => ?_⟩⟩
     have s7 := Ze (o := .tup (hs.map V.int)) hl
     exact q l _ hs (y6.trans s7.x) (st6.same s7) Zc pm6
    ·intro D' hD
     refine ⟨_, rfl, rfl, _, rfl, ?_⟩
     by_cases w2 : way = 2
     ·subst w2
      refine iteT ?_
      refine Zq ⟨_, rfl, _, rfl, p, m, rfl, st5, by omega, by omega, fun a o6 a0 a1 st6 => ⟨_, rfl, _, rfl, p, m, rfl, st6, by omega, by omega, fun b o7 b0 b1 st7 => ⟨_, _, rfl, ?_⟩⟩⟩
      dsimp only [List.set]
      have y7 : SameX p H (upd (upd H5 p o6) p o7) := y5.trans (SameX.upd.trans SameX.upd)
      have e7 : upd (upd H5 p o6) p o7 F = some (.lst (gs.map V.int)) := by rw [Zh hFp, Zh hFp]; exact e5
      generalize upd (upd H5 p o6) p o7 = H7 at y7 e7 st7
      refine ZA ⟨_, rfl, _, rfl, F, _, _, _, rfl, rfl, SqL.of e7, Zau b0 (by omega), _, rfl, _, rfl, F, _, _, _, rfl, rfl, SqL.of e7, Zau a0 (by omega), (by show 2 ≤ sizeLine; decide), fun t ht => ?_⟩
      have s8 := Ze (o := .tup [V.int (gs[b.toNat]'(by omega)), V.int (gs[a.toNat]'(by omega))]) ht
      refine ⟨t, _, rfl, SqT.of Zc, rfl, ?_⟩
      generalize upd H7 t (.tup [V.int (gs[b.toNat]'(by omega)), V.int (gs[a.toNat]'(by omega))]) = H8 at s8
      have e8 := s8 _ _ e7
      refine ⟨_, _, rfl, _, rfl, _, rfl, F, _, a, a.toNat, rfl, rfl, e8, W9 a0 (by rw [List.length_map]; omega), ?_⟩
      refine ⟨_, _, rfl, _, rfl, _, rfl, F, _, b, b.toNat, rfl, rfl, Zc, W9 b0 (by rw [List.length_set, List.length_map]; omega), rfl, ?_⟩
      obtain ⟨z1, z2⟩ := Zbf (ns := gs) (i := a.toNat) (j := b.toNat) (by omega) (by omega)
      refine hD _ _ ⟨_, x5, x6, x7, x8, _, _, rfl, Z4 (Z4 (y7.trans s8.x) hFn) hFn, YM (YM (st7.same s8) hFp) hFp, ?_, z2.trans pm5⟩
      rw [Zc, ← z1]
     ·have z : decide (V.int way = V.int 2) = false := decide_eq_false (fun e => w2 (by cases e; rfl))
      rw [z]
      exact iteF (hD _ _ ⟨gs, x5, x6, x7, x8, _, _, rfl, y5, st5, e5, pm5⟩)
   ·intro D' hD
    refine ⟨_, rfl, _, _, rfl, rfl, _, rfl, ?_⟩
    by_cases w3 : way < 3
    ·rw [decide_eq_true w3]
     refine iteT ?_
     refine Zq (ZA fun d hd => ZaJ fun kvs H5 s5 kl km => ?_)
     have sd := Ze (o := .dK []) hd
     refine ⟨s5 _ _ Zc, kvs, rfl, by rw [kl]; decide, Zr ?_⟩
     dsimp only [List.set]
     have x5 : SameX p H H5 := x4.trans (sd.trans s5).x
     have st5 : StAt H5 p := st4.same (sd.trans s5)
     have e5 : H5 F = some (.lst (fs.map V.int)) := (sd.trans s5) _ _ e4
     have km5 := km
     obtain ⟨hdn, hdp⟩ : H d = none ∧ d ≠ p := by
      obtain ⟨u, v, e, _⟩ := id st4
      exact Y1 x4 e hd
     have hdF : d ≠ F := fun e => by rw [e, e4] at hd; cases hd
     have x6 : SameX p H (upd H5 d (.dK (mergeK [] kvs))) := Z4 x5 hdn
     have st6 : StAt (upd H5 d (.dK (mergeK [] kvs))) p := YM st5 hdp
     have e6 : upd H5 d (.dK (mergeK [] kvs)) F = some (.lst (fs.map V.int)) := by rw [Zh hdF.symm]; exact e5
     have ed : upd H5 d (.dK (mergeK [] kvs)) d = some (.dK (mergeK [] kvs)) := Zc
     have hd5 := s5 _ _ (Zc (H := H4) (a := d) (o := .dK []))
     have km6 : ∀ p ∈ kvs, ∃ t ∈ rootT, ∃ a, p = (Sum.inl t.1, V.ref a) ∧ upd H5 d (.dK (mergeK [] kvs)) a = some (.tup [.int t.2.1, .int t.2.2]) := fun p hp => by
      obtain ⟨t, ht, a, e1, e2⟩ := km p hp
      exact ⟨t, ht, a, e1, by rw [Zh (YH e2 hd5 (by intro z; cases z))]; exact e2⟩
     generalize upd H5 d (.dK (mergeK [] kvs)) = H6 at x6 st6 e6 ed km6
     have look : DGet H6 d (.int m) (valV (mergeK [] kvs) (Sum.inl m)) := DGet.k (k := Sum.inl m) ed
     refine Zq (ZA ⟨_, rfl, _, rfl, d, _, rfl, look, _, rfl, ?_⟩)
     cases hv : valV (mergeK [] kvs) (Sum.inl m) with
     | none =>
      refine iteF (Zr ?_)
      dsimp only [List.set]
      refine ⟨_, rfl, _, rfl, ?_⟩
      exact iteF (hD _ _ ⟨fs, _, _, _, _, rfl, x6, st6, e6, pm⟩)
     | some rv =>
      rw [hv] at look
      obtain ⟨t, ht, a, e1, ea⟩ : ∃ t ∈ rootT, ∃ a, ((Sum.inl m : Key), rv) = (Sum.inl t.1, V.ref a) ∧ H6 a = some (.tup [.int t.2.1, .int t.2.2]) := by
       rcases J7 hv with z | z
       ·exact km6 _ z
       ·cases z
      obtain ⟨e1a, e1b⟩ := Prod.mk.inj e1
      have em : m = t.1 := Sum.inl.inj e1a
      subst e1b
      obtain ⟨r, hr1, hrr⟩ : ∃ r : Int, atI [V.int t.2.1, V.int t.2.2] (way % 2) = some (.int r) ∧ (r = t.2.1 ∨ r = t.2.2) := by
       rcases (by omega : way % 2 = 0 ∨ way % 2 = 1) with z | z <;> rw [z]
       ·exact ⟨_, rfl, .inl rfl⟩
       ·exact ⟨_, rfl, .inr rfl⟩
      have rs := Zab t ht
      have rb : 1 ≤ r ∧ r ≤ 12 := by rcases hrr with z | z <;> rw [z] <;> omega
      refine iteT ⟨_, rfl, _, rfl, d, _, rfl, look, _, rfl, _, _, rfl, rfl, (by show (0 : Int) < 2; decide), a, _, _, _, rfl, rfl, SqT.of ea, hr1, Zr ?_⟩
      dsimp only [List.set]
      refine ⟨_, rfl, _, rfl, ?_⟩
      refine iteT ?_
      have f0 : 0 < fs.length := by omega
      have fm := UT.mp (pm.mem_iff.mp (List.getElem_mem f0))
      refine Zq (ZA ⟨_, rfl, F, _, _, _, rfl, rfl, SqL.of e6, Zau (by decide) (by omega), _, _, rfl, rfl, Zr ?_⟩)
      dsimp only [List.set]
      refine ⟨_, rfl, m, rfl, by omega, by omega, ?_⟩
      refine YS (n := m.toNat) (fun k σ H7 => ∃ (v8 : Option V), σ = [some (.ref p), some (.int m), some (.int way), some (.ref L), some (.ref F), some (.ref d), some (.int r), some (.int (hereAt m r (fs[0] + 1) k)), v8, none, none] ∧ SameX p H H7 ∧ StAt H7 p ∧ H7 F = some (.lst ((powG m r (fs[0] + 1) k ++ fs.drop k).map V.int))) ⟨none, rfl, x6, st6, e6⟩ ?_ ?_
      ·rintro k σ H7 hk ⟨v8, rfl, x7, st7, e7⟩
       refine Zr (Zq (ZA ⟨_, rfl, _, _, rfl, rfl, _, rfl, _, rfl, F, _, _, k, rfl, rfl, e7, ?_, ?_⟩))
       ·rw [Int.zero_add, W9 (by omega) (by rw [List.length_map, List.length_append, Ut, List.length_drop]; omega)]
        rfl
       dsimp only [List.set]
       refine ZA ⟨_, rfl, _, rfl, _, _, rfl, rfl, .inr ⟨by omega, by omega⟩, _, rfl, _, _, rfl, rfl, _, _, rfl, rfl, (by show (0 : Int) < m + 1; omega), Zr ?_⟩
       refine ⟨_, rfl, Z4 x7 hFn, YM st7 hFp, ?_⟩
       rw [Zc, ZdF (Ut _ _ _ _) (by omega), Zbn]
      ·rintro σ H7 ⟨v8, rfl, x7, st7, e7⟩
       refine hD _ _ ⟨powG m r (fs[0] + 1) m.toNat, _, _, _, _, rfl, x7, st7, ?_, Zb0 ht em.symm hrr fm.1 (by omega)⟩
       rw [e7, List.drop_eq_nil_of_le (by omega), List.append_nil]
    ·rw [decide_eq_false w3]
     exact iteF (hD _ _ ⟨fs, _, _, _, _, rfl, x4, st4, e4, pm⟩)
end
end U
set_option Elab.async false
set_option linter.all false
set_option maxRecDepth 100000
set_option maxHeartbeats 40000000
namespace U
open PySem L2 PyProof.Rows
section
def GoodF (K : PySem.W.Frag) (p : Addr) (n : Int) (H : Hp) (v : V) : Prop := (Pl1 K H v ∧ isFullV n n (tupOf H v) = false) ∧ NoRef p H v
theorem ZaX {K : PySem.W.Frag} {p : Addr} {n : Int} {H H' : Hp} {v : V} (g : GoodF K p n H v) (s : SameX p H H') : GoodF K p n H' v :=
 ⟨⟨ZaF g.1.1 s g.2, by rw [YL g.1.1.1 s g.2.1]; exact g.1.2⟩, W5 g.1.1.1 s g.2.1 g.2⟩
theorem ZE {K : PySem.W.Frag} {p : Addr} {n : Int} {H H' : Hp} {v : V} (g : GoodF K p n H v) (s : Same H H') : GoodF K p n H' v := ZaX g s.x
theorem ZX {K : PySem.W.Frag} {p a : Addr} {n : Int} {H : Hp} {xs : List V} (h : H a = some (.tup xs)) (st : StAt H p) (hx : ∀ y ∈ xs, PlT K H y ∧ y ≠ .ref p) (nf : isFullV n n (some xs) = false) : GoodF K p n H (.ref a) := by
 obtain ⟨u, v, e, _⟩ := st
 have nap : a ≠ p := YH h e (by intro z; cases z)
 refine ⟨⟨⟨⟨_, .tup h⟩, fun ys e y hy => ?_⟩, ?_⟩, fun z => nap (by cases z; rfl), fun ys e y hy => ?_⟩
 ·rw [Zm h] at e
  cases e
  exact (hx y hy).1
 ·rw [Zm h]
  exact nf
 ·rw [Zm h] at e
  cases e
  exact (hx y hy).2
theorem Yz {K : PySem.W.Frag} {p : Addr} {n : Int} {H : Hp} {v : V} (h : tupOf H v = none) (t : PlT K H v) (hn : v ≠ .ref p) : GoodF K p n H v := by
 refine ⟨⟨⟨t, fun ys e y hy => ?_⟩, ?_⟩, hn, fun ys e y hy => ?_⟩
 ·rw [h] at e; cases e
 ·rw [h]; rfl
 ·rw [h] at e; cases e
theorem JY {n : Int} {xs : List V} (h : (xs.length : Int) ≠ n) : isFullV n n (some xs) = false := by
 unfold isFullV isLayV
 dsimp only
 rw [decide_eq_false h, Bool.false_and, Bool.false_and, Bool.false_and]
theorem W6 {n : Int} {xs : List V} {y : V} (hy : y ∈ xs) (h : wholeIn y 0 (n - 1) = false) : isFullV n n (some xs) = false := by
 unfold isFullV isLayV
 dsimp only [Option.getD_some]
 by_cases e : y = .non
 ·have : inV .non xs = true := List.any_eq_true.mpr ⟨y, hy, by rw [e]; rfl⟩
  rw [this]
  show (_ && (_ && false)) = false
  rw [Bool.and_false, Bool.and_false]
 ·have : ((rowsOf xs).all fun r => wholeIn r 0 (n - 1)) = false := by
   cases hh : (rowsOf xs).all fun r => wholeIn r 0 (n - 1) with
   | false => rfl
   | true =>
    have := List.all_eq_true.mp hh y (List.mem_filter.mpr ⟨hy, by simp [e]⟩)
    rw [h] at this
    cases this
  rw [this, Bool.and_false, Bool.false_and, Bool.false_and]
theorem ZdY {n : Int} {A C : List V} {x : V} (hx : x ∈ A) (hn : x ≠ .non) : isFullV n n (some ((A ++ [x]) ++ C)) = false := by
 have : ¬ (rowsOf ((A ++ [x]) ++ C)).Nodup := fun h => by
  unfold rowsOf at h
  rw [List.filter_append, List.filter_append] at h
  have h1 := (List.nodup_append.mp (List.nodup_append.mp h).1).2.2 x (List.mem_filter.mpr ⟨hx, by simp [hn]⟩) x (List.mem_filter.mpr ⟨List.mem_singleton.mpr rfl, by simp [hn]⟩)
  exact h1 rfl
 unfold isFullV isLayV
 dsimp only
 rw [decide_eq_false this, Bool.and_false, Bool.false_and]
theorem Yf {xs : List V} {lo hi : Option Int} {y : V} (h : y ∈ cutV xs lo hi) : y ∈ xs := List.mem_of_mem_drop (List.mem_of_mem_take h)
theorem ZcP {xs : List V} (h : 0 < xs.length) : (cutV xs none (some (-1))).length + 1 = xs.length := by
 unfold cutV
 have e := HT.clip_eq (-1) xs.length xs.length
 rw [if_pos (by decide)] at e
 rw [HT.sIx_none, List.drop_zero, List.length_take]
 omega
theorem ZcO {xs : List V} (h : 0 < xs.length) : cutV xs (some (0 - 1)) (some 0) = [] := by
 unfold cutV
 have e2 := HT.clip_eq 0 xs.length xs.length
 rw [if_neg (by decide)] at e2
 rw [show HT.sIx xs.length xs.length (some 0) = 0 by omega, Nat.zero_sub, List.take_zero]
theorem Zdp {xs : List V} {k : Nat} (h : k + 1 ≤ xs.length) : cutV xs (some ((k : Int) + 1 - 1)) (some ((k : Int) + 1)) = [xs[k]] := by
 unfold cutV
 have e1 : HT.sIx xs.length 0 (some ((k : Int) + 1 - 1)) = k := by
  rw [show (k : Int) + 1 - 1 = (k : Int) by omega, HT.sIx_nat]; omega
 have e2 : HT.sIx xs.length xs.length (some ((k : Int) + 1)) = k + 1 := by
  rw [show (k : Int) + 1 = ((k + 1 : Nat) : Int) by omega, HT.sIx_nat]; omega
 rw [e1, e2, List.drop_eq_getElem_cons (by omega), show k + 1 - k = 1 by omega]
 rfl
theorem ZS {K : PySem.W.Frag} {p : Addr} {H : Hp} {ns : List Int} {y : V} (h : y ∈ ns.map V.int) : PlT K H y ∧ y ≠ .ref p := by
 obtain ⟨i, _, rfl⟩ := List.mem_map.mp h
 exact ⟨⟨_, .int i⟩, by intro z; cases z⟩
theorem ZbR {i b : Int} (h : i < 0 ∨ b < i) : wholeIn (.int i) 0 b = false := by
 show (decide (0 ≤ i) && decide (i ≤ b)) = false
 rcases h with h | h
 ·rw [decide_eq_false (by omega), Bool.false_and]
 ·rw [decide_eq_false (show ¬ i ≤ b by omega), Bool.and_false]
end
end U
namespace U
open PySem L2 PyProof.Rows
section
variable {P : Program} {w : World} {K : PySem.W.Frag} {mg : Str → Option Value} {base : Heap}
abbrev sNoF : Stmt := top 38
def spNoF (K : PySem.W.Frag) : Sp := fun vs H Q _ => ∃ (p l : Addr) (ns : List Int) (n : Int), vs = [.ref p, .ref l] ∧ StAt H p ∧ H l = some (.tup (ns.map V.int)) ∧ (ns.length : Int) = n ∧ 1 ≤ n ∧ n ≤ 12 ∧ ∀ v H', SameX p H H' → StAt H' p → GoodF K p n H' v → Q v H'
theorem scNoF : FnScope ["_law_state_here", "_law_lay", "_law_way", "_law_at", "_law_odd", "_law_bent", "_law_twice", "_law_some"] ["_law_state_here", "_law_lay"] (defScope sNoF) := ⟨rfl, rfl, rfl, by decide +kernel, rfl, by decide +kernel, by decide +kernel⟩
end
end U
set_option Elab.async false
set_option linter.all false
set_option maxRecDepth 100000
set_option maxHeartbeats 40000000
namespace U
open PySem L2 PyProof.Rows
section
variable {P : Program} {w : World} {K : PySem.W.Frag} {mg : Str → Option Value} {base : Heap}
theorem ZdC {t : TE} {σ : L2.St} {H : Hp} {Q : VK} (R : V → Hp → Prop) (h2 : ∀ v H', R v H' → Q v H') (h1 : ∀ Q' : VK, (∀ v H', R v H' → Q' v H') → t σ H Q') : t σ H Q := h1 Q h2
theorem Zaw {te : TE} {t : TA} {σ : L2.St} {H : Hp} {Q : List V → Hp → Prop} (h : te σ H fun v H1 => t σ H1 fun vs H2 => Q (v :: vs) H2) : tCons te t σ H Q := h
theorem ZdD {t : TA} {σ : L2.St} {H : Hp} {Q : VK} (h : t σ H fun xs H1 => xs.length ≤ sizeLine ∧ ∀ p, H1 p = none → Q (.ref p) (upd H1 p (.lst xs))) : tLst t σ H Q := h
theorem Zas {K : PySem.W.Frag} {σ : L2.St} {H : Hp} {Q : VK} {l : Addr} {ls : List V} {a : Int} {tm : TE} (Pm : List V → Hp → Prop) (pk : ∀ {ms H1 H2}, Same H1 H2 → Pm ms H1 → Pm ms H2) (h1 : σ[1]? = some (some (.ref l))) (h3 : σ[3]? = some (some (.int a))) (hl : H l = some (.tup ls)) (ll : ls.length ≤ 12)
  (hm : ∀ H1 (Q1 : VK), Same H H1 → (∀ (c : Addr) (ms : List V) H2, Same H1 H2 → H2 c = some (.tup ms) → ms.length ≤ 12 → Pm ms H2 → Q1 (.ref c) H2) → tm σ H1 Q1)
  (q : ∀ (c : Addr) (ms : List V) H', Same H H' → H' c = some (.tup ((cutV ls none (some a) ++ ms) ++ cutV ls (some (a + 1)) none)) → ms.length ≤ 12 → Pm ms H' → Q (.ref c) H') :
  tOp (rCatA K) (tOp (rCatA K) (tSl (rSlA K) (tVar 1) tNoPart (tPart (tVar 3))) tm) (tSl (rSlA K) (tVar 1) (tPart (tOp (rI0 fun i j => .int (i + j)) (tVar 3) (tC (.int 1)))) tNoPart) σ H Q := by
 refine ⟨_, h1, _, h3, _, rfl, l, _, rfl, hl, fun c1 H1 s1 e1 => ?_⟩
 refine hm H1 _ s1 fun c2 ms H2 s2 e2 hml pm => ?_
 have l1 := Z9 ls none (some a)
 have l3 := Z9 ls (some (a + 1)) none
 refine catA (s2 _ _ e1) e2 (by rw [sizeLine_eq]; omega) fun c3 H3 s3 e3 => ?_
 refine ⟨_, h1, _, h3, _, _, rfl, rfl, _, rfl, l, _, rfl, (s1.trans (s2.trans s3)) _ _ hl, fun c4 H4 s4 e4 => ?_⟩
 refine catA (s4 _ _ e3) e4 (by rw [sizeLine_eq, List.length_append]; omega) fun c5 H5 s5 e5 => ?_
 exact q c5 ms H5 (s1.trans (s2.trans (s3.trans (s4.trans s5)))) e5 hml (pk (s3.trans (s4.trans s5)) pm)
theorem ZdS {f : Addr} {fd : FuncData} (F : Fun K "_law_no_full" "_law_no_full" sNoF f fd) (G : Gs mg) (D1 : Def P w K mg base 1 "_law_take" ["_law_state_here", "_law_many"] spTake) : FnOk P w K mg base CX0 2 f fd ["_law_state_here", "_law_lay"] (spNoF K) := by
 refine F.ok scNoF (fun vs H Q E h => ?_) (fun cdv A outer s H vs Q E hr h => ?_)
 ·obtain ⟨p, l, ns, n, rfl, _⟩ := h
  rfl
 ·obtain ⟨p, l, ns, n, rfl, st, hl, len, n1, n12, q⟩ := h
  refine ⟨_, Zg (Zad (i := 2) (j := 3) rfl scNoF.nd rfl rfl (by decide) rfl rfl (Za (Zl D1 hr (Za (pv 0) (Za Zf Zb))) (Za (Zl D1 hr (Za (pv 0) (Za (Zj Zp rfl G.len boot_len (Za (pv 1) Zb)) Zb))) Zb)) rfl)
   (Zg (Zz (i := 4) scNoF.nd rfl (Or.inl rfl) (ZP ZK (ZI (Za YE (Za (Zj Zp rfl G.len boot_len (Za (pv 1) Zb)) (Za (Zb8 U6 Zf) (Za JS (Za Yv (Za (Zv (Za Zf Zb)) (Za (Zo Zag Zf Zf) Zb)))))))) (Zl D1 hr (Za (pv 0) (Za Zf Zb))) (fun _ _ => rfl)))
   (Zg (Zz (i := 5) scNoF.nd rfl (Or.inl rfl) (Zo Yj (Zo Yj (Z1 Yd (pv 1) Yh (Z5 (pv 3))) (Zv (Za (pv 4) Zb))) (Z1 Yd (pv 1) (Z5 (Zo ZW (pv 3) Zf)) Yh)))
   (Zg (Zz (i := 6) scNoF.nd rfl (Or.inl rfl) (Zo Yj (Zo Yj (Z1 Yd (pv 1) Yh (Z5 (pv 3))) (Z1 Yd (pv 1) (Z5 (Zo Yx (pv 3) Zf)) (Z5 (pv 3)))) (Z1 Yd (pv 1) (Z5 (Zo ZW (pv 3) Zf)) Yh)))
   (Zg (Zz (i := 7) scNoF.nd rfl (Or.inl rfl) (ZI (Za (pv 5) (Za (pv 5) (Za (pv 5) (Za (Z1 Yd (pv 1) Yh (Z5 (Zb8 U6 Zf))) (Za (Zo Yj (pv 1) (Zv (Za (Zj Zp rfl G.len boot_len (Za (pv 1) Zb)) Zb))) (Za (Yq Ud rfl G.list boot_list (Za (pv 1) Zb)) (Za YE (Za Ux (Za (Zo Yj (pv 1) (Z1 Yd (pv 1) Yh (Z5 Zf))) (Za Zf (Za (Zv (Za (pv 1) Zb)) Zb)))))))))))))
   (Zn (ZF (ZP ZK (Zo Yy (pv 7) (ZI (Za (Uw (ZO Zee (Zj Zp rfl G.len boot_len (Za (pv 1) Zb)) Zf (nomark _)) (pv 6) (Zv Zb)) (Za (Zo Yj (Zo Yj (Z1 Yd (pv 1) Yh (Z5 (pv 3))) (Zv (Za (ZI (Za Zf Zb)) Zb))) (Z1 Yd (pv 1) (Z5 (Zo ZW (pv 3) Zf)) Yh)) Zb)))) (pv 2) (fun _ _ => rfl)))))))), ?_⟩
  obtain ⟨u0, v0, ep0, _⟩ := id st
  have nlp : l ≠ p := YH hl ep0 (by intro z; cases z)
  have ll : (ns.map V.int).length = n.toNat := by rw [List.length_map]; omega
  refine Zq ⟨_, rfl, p, 13, rfl, st, by decide, by decide, fun way o1 w0 w1 st1 => ?_⟩
  have hl1 : upd H p o1 l = some (.tup (ns.map V.int)) := by rw [Zh nlp]; exact hl
  have x1 : SameX p H (upd H p o1) := SameX.upd
  generalize upd H p o1 = H1 at hl1 x1 st1
  refine ⟨_, rfl, _, rfl, l, _, rfl, .inr (SqT.of hl1), p, _, rfl, st1, by rw [ll]; omega, by rw [ll]; omega, fun a o2 a0 a1 st2 => ⟨_, _, rfl, ?_⟩⟩
  have hl2 : upd H1 p o2 l = some (.tup (ns.map V.int)) := by rw [Zh nlp]; exact hl1
  have x2 : SameX p H (upd H1 p o2) := x1.trans SameX.upd
  generalize upd H1 p o2 = H2 at hl2 x2 st2
  dsimp only [List.set]
  refine Zq (ZA ⟨_, rfl, l, _, rfl, .inr (SqT.of hl2), _, rfl, (by show 1 ≤ sizeLine; decide), fun t ht => ?_⟩)
  have s3 := Ze (o := .tup [V.int 0]) ht
  have e3 : upd H2 t (.tup [V.int 0]) t = some (.tup [V.int 0]) := Zc
  generalize upd H2 t (HO.tup [V.int 0]) = H3 at s3 e3
  refine ⟨_, _, rfl, rfl, ⟨by decide, by decide, by decide⟩, (by show 7 ≤ sizeLine; decide), fun L hL => ?_⟩
  generalize hS : [V.non, V.int ((ns.map V.int).length : Int), V.int (-1), V.bl true, V.str "0", V.ref t, V.int (10 ^ (39 : Int).toNat)] = S
  have lS : S.length = 7 := by rw [← hS]; rfl
  have s4 := Ze (o := .lst S) hL
  have e4 : upd H3 L (.lst S) L = some (.lst S) := Zc
  generalize upd H3 L (HO.lst S) = H4 at s4 e4
  have st4 := st2.same (s3.trans s4)
  refine ⟨_, rfl, p, 7, rfl, st4, by decide, by decide, fun r o5 r0 r1 st5 => ?_⟩
  obtain ⟨u4, v4, ep4, _⟩ := id st4
  have nLp : L ≠ p := YH e4 ep4 (by intro z; cases z; cases lS)
  have ntp : t ≠ p := YH (s4 _ _ e3) ep4 (by intro z; cases z)
  have x5 : SameX p H4 (upd H4 p o5) := SameX.upd
  generalize upd H4 p o5 = H5 at x5 st5
  have hlt : r.toNat < S.length := by omega
  have hat := YV (List.getElem?_eq_getElem hlt)
  rw [Int.toNat_of_nonneg r0] at hat
  refine ⟨L, _, _, _, rfl, rfl, SqL.of (x5 _ _ e4 nLp), hat, Zr ?_⟩
  dsimp only [List.set]
  have xH5 : SameX p H H5 := x2.trans ((s3.trans s4).x.trans x5)
  have hm' : S[r.toNat] ∈ S := List.getElem_mem hlt
  generalize S[r.toNat] = odd at hm'
  have p39 : (1000 : Int) ≤ 10 ^ (39 : Int).toNat := by decide
  have good : (PlT K H5 odd ∧ odd ≠ .ref p) ∧ wholeIn odd 0 (n - 1) = false := by
   rw [← hS, ll] at hm'
   generalize (10 : Int) ^ (39 : Int).toNat = t39 at hm' p39
   simp only [List.mem_cons, List.not_mem_nil, or_false] at hm'
   rcases hm' with rfl | rfl | rfl | rfl | rfl | rfl | rfl
   ·exact ⟨⟨⟨_, .non⟩, fun z => by cases z⟩, rfl⟩
   ·exact ⟨⟨⟨_, .int _⟩, fun z => by cases z⟩, ZbR (by omega)⟩
   ·exact ⟨⟨⟨_, .int _⟩, fun z => by cases z⟩, ZbR (by omega)⟩
   ·exact ⟨⟨⟨_, .bl _⟩, fun z => by cases z⟩, rfl⟩
   ·exact ⟨⟨⟨_, .str _⟩, fun z => by cases z⟩, rfl⟩
   ·exact ⟨⟨⟨_, .tup (x5 _ _ (s4 _ _ e3) ntp)⟩, fun z => ntp (by cases z; rfl)⟩, rfl⟩
   ·exact ⟨⟨⟨_, .int _⟩, fun z => by cases z⟩, ZbR (by omega)⟩
  have hl5 : H5 l = some (.tup (ns.map V.int)) := x5 _ _ ((s3.trans s4) _ _ hl2) nlp
  clear x5 e4 s4 s3 hl2 x2 st2 hl1 x1 st1 st4 ep4 e3
  have ll12 : (ns.map V.int).length ≤ 12 := by omega
  refine Zq (ZA (Zas (l := l) (ls := ns.map V.int) (a := a) (fun ms H' => ms = [odd]) (fun _ h => h) rfl rfl hl5 ll12 (fun H6 Q6 s6 k6 => ⟨_, rfl, (by show 1 ≤ sizeLine; decide), fun c hc => k6 c _ _ (Ze hc) Zc (by show 1 ≤ 12; decide) rfl⟩) fun bt ms H6 s6 e6 _ em => ?_))
  subst em
  refine Zr ?_
  dsimp only [List.set]
  have gb : GoodF K p n H6 (.ref bt) := by
   refine ZX e6 (st5.same s6) (fun y hy => ?_) (W6 (y := odd) (by simp) good.2)
   rcases List.mem_append.mp hy with hy | hy
   ·rcases List.mem_append.mp hy with hy | hy
    ·exact ZS (Yf hy)
    ·cases List.mem_singleton.mp hy
     exact ⟨s6.plT good.1.1, good.1.2⟩
   ·exact ZS (Yf hy)
  have hl6 := s6 _ _ hl5
  refine Zq (ZA (Zas (l := l) (ls := ns.map V.int) (a := a) (fun ms H' => ms = cutV (ns.map V.int) (some (a - 1)) (some a)) (fun _ h => h) rfl rfl hl6 ll12 (fun H7 Q7 s7 k7 => ⟨_, rfl, _, rfl, _, _, rfl, rfl, _, rfl, _, rfl, _, rfl, l, _, rfl, s7 _ _ hl6, fun c H8 s8 e8 => k7 c _ _ s8 e8 (Nat.le_trans (Z9 _ _ _) ll12) rfl⟩) fun tw ms H7 s7 e7 _ em => ?_))
  subst em
  refine Zr ?_
  dsimp only [List.set]
  have gt : GoodF K p n H7 (.ref tw) := by
   refine ZX e7 (st5.same (s6.trans s7)) (fun y hy => ?_) ?_
   ·rcases List.mem_append.mp hy with hy | hy
    ·rcases List.mem_append.mp hy with hy | hy
     ·exact ZS (Yf hy)
     ·exact ZS (Yf hy)
    ·exact ZS (Yf hy)
   ·obtain ⟨k, rfl⟩ := Int.eq_ofNat_of_zero_le a0
    cases k with
    | zero =>
     refine JY ?_
     have z1 : cutV (ns.map V.int) none (some ((0 : Nat) : Int)) = [] := Zar (Nat.zero_le _)
     have z2 : cutV (ns.map V.int) (some (((0 : Nat) : Int) - 1)) (some ((0 : Nat) : Int)) = [] := ZcO (by omega)
     have z3 : cutV (ns.map V.int) (some (((0 : Nat) : Int) + 1)) none = (ns.map V.int).drop 1 := ZcQ (k := 1) (by omega)
     rw [z1, z2, z3, List.nil_append, List.nil_append, List.length_drop]
     omega
    | succ k =>
     have hk : k + 1 ≤ (ns.map V.int).length := by omega
     have z1 : cutV (ns.map V.int) none (some ((k + 1 : Nat) : Int)) = (ns.map V.int).take (k + 1) := Zar hk
     have z2 : cutV (ns.map V.int) (some (((k + 1 : Nat) : Int) - 1)) (some ((k + 1 : Nat) : Int)) = [(ns.map V.int)[k]] := Zdp hk
     rw [z1, z2]
     refine ZdY ?_ ?_
     ·rw [List.mem_take_iff_getElem]
      exact ⟨k, by omega, rfl⟩
     ·rw [List.getElem_map]
      intro z
      cases z
  have hl7 := s7 _ _ hl6
  refine Zq (ZA ⟨_, rfl, _, rfl, _, rfl, _, rfl, _, rfl, _, rfl, l, _, rfl, hl7, fun c8 H8 s8 e8 => ?_⟩)
  have hl8 := s8 _ _ hl7
  have st8 := st5.same (s6.trans (s7.trans s8))
  have g3 : GoodF K p n H8 (.ref c8) := ZX e8 st8 (fun y hy => ZS (Yf hy)) (JY (by have := ZcP (xs := ns.map V.int) (by omega); show ((cutV (ns.map V.int) none (some (-1))).length : Int) ≠ n; omega))
  refine ⟨_, rfl, _, rfl, l, _, rfl, .inr (SqT.of hl8), (by show 1 ≤ sizeLine; decide), fun t9 ht9 => ?_⟩
  have s9 := Ze (o := .tup [V.int ((ns.map V.int).length : Int)]) ht9
  have e9 : upd H8 t9 (.tup [V.int ((ns.map V.int).length : Int)]) t9 = some (.tup [V.int ((ns.map V.int).length : Int)]) := Zc
  generalize upd H8 t9 (.tup [V.int ((ns.map V.int).length : Int)]) = H9 at s9 e9
  refine catA (s9 _ _ hl8) e9 (by rw [sizeLine_eq, ll]; show n.toNat + 1 ≤ _; omega) fun c10 H10 s10 e10 => ?_
  have hl10 := s10 _ _ (s9 _ _ hl8)
  have st10 := st8.same (s9.trans s10)
  have g4 : GoodF K p n H10 (.ref c10) := ZX e10 st10 (fun y hy => by
   rcases List.mem_append.mp hy with hy | hy
   ·exact ZS hy
   ·cases List.mem_singleton.mp hy
    exact ⟨⟨_, .int _⟩, fun z => by cases z⟩) (JY (by rw [List.length_append, ll]; show ((n.toNat + 1 : Nat) : Int) ≠ n; omega))
  refine ⟨_, rfl, l, _, rfl, .inr (SqT.of hl10), fun m11 hm11 => ?_⟩
  have s11 := Ze (o := .lst (ns.map V.int)) hm11
  have e11 : upd H10 m11 (.lst (ns.map V.int)) m11 = some (.lst (ns.map V.int)) := Zc
  generalize upd H10 m11 (.lst (ns.map V.int)) = H11 at s11 e11
  have st11 := st10.same s11
  have nm11 : m11 ≠ p := fun z => by
   obtain ⟨u, v, e, _⟩ := id st10
   rw [z, e] at hm11
   cases hm11
  have g5 : GoodF K p n H11 (.ref m11) := Yz (by rw [Zx, e11]; rfl) ⟨_, .lst e11⟩ (fun z => nm11 (by cases z; rfl))
  refine fun d hd => ?_
  have s12 := Ze (o := .dK []) hd
  have e12 : upd H11 d (.dK []) d = some (.dK []) := Zc
  generalize upd H11 d (.dK []) = H12 at s12 e12
  have st12 := st11.same s12
  have ndp : d ≠ p := fun z => by
   obtain ⟨u, v, e, _⟩ := id st11
   rw [z, e] at hd
   cases hd
  have g7 : GoodF K p n H12 (.ref d) := Yz (by rw [Zx, e12]; rfl) ⟨_, .dK e12⟩ (fun z => ndp (by cases z; rfl))
  have hl12 := s12 _ _ (s11 _ _ hl10)
  refine ⟨_, rfl, _, rfl, _, rfl, l, _, rfl, hl12, fun c13 H13 s13 e13 => ?_⟩
  have q1 := Z9 (ns.map V.int) none (some 1)
  have q2 : (cutV (ns.map V.int) none (some 1)).length = 1 := by
   have : cutV (ns.map V.int) none (some 1) = (ns.map V.int).take 1 := Zar (k := 1) (by omega)
   rw [this, List.length_take]
   omega
  refine catA (s13 _ _ hl12) e13 (by rw [sizeLine_eq]; omega) fun c14 H14 s14 e14 => ?_
  have st14 := st12.same (s13.trans s14)
  have hl14 := s14 _ _ (s13 _ _ hl12)
  have g8 : GoodF K p n H14 (.ref c14) := ZX e14 st14 (fun y hy => by
   rcases List.mem_append.mp hy with hy | hy
   ·exact ZS hy
   ·exact ZS (Yf hy)) (JY (by rw [List.length_append, q2, ll]; omega))
  refine ⟨_, rfl, (by show 1 ≤ sizeLine; decide), fun t15 ht15 => ?_⟩
  have s15 := Ze (o := .tup [V.ref l]) ht15
  have e15 : upd H14 t15 (.tup [V.ref l]) t15 = some (.tup [V.ref l]) := Zc
  generalize upd H14 t15 (.tup [V.ref l]) = H15 at s15 e15
  have st15 := st14.same s15
  have hl15 := s15 _ _ hl14
  have g10 : GoodF K p n H15 (.ref t15) := ZX e15 st15 (fun y hy => by
   cases List.mem_singleton.mp hy
   exact ⟨⟨_, .tup hl15⟩, fun z => nlp (by cases z; rfl)⟩) (W6 (y := .ref l) List.mem_cons_self rfl)
  have gn : GoodF K p n H15 .non := Yz rfl ⟨_, .non⟩ (fun z => by cases z)
  have gi : GoodF K p n H15 (.int 3) := Yz rfl ⟨_, .int 3⟩ (fun z => by cases z)
  have g8' := ZE g8 s15
  have g7' := ZE g7 (s13.trans (s14.trans s15))
  have g5' := ZE g5 (s12.trans (s13.trans (s14.trans s15)))
  have g4' := ZE g4 (s11.trans (s12.trans (s13.trans (s14.trans s15))))
  have sA := s9.trans (s10.trans (s11.trans (s12.trans (s13.trans (s14.trans s15)))))
  have g3' := ZE g3 sA
  have gt' := ZE gt (s8.trans sA)
  have gb' := ZE gb (s7.trans (s8.trans sA))
  refine ⟨(by show 11 ≤ sizeLine; decide), fun Z hZ => Zr ?_⟩
  dsimp only [List.set]
  have all : ∀ v ∈ [V.ref bt, V.ref bt, V.ref bt, V.ref c8, V.ref c10, V.ref m11, V.non, V.ref d, V.ref c14, V.int 3, V.ref t15], GoodF K p n H15 v :=
   List.forall_mem_cons.mpr ⟨gb', List.forall_mem_cons.mpr ⟨gb', List.forall_mem_cons.mpr ⟨gb', List.forall_mem_cons.mpr ⟨g3', List.forall_mem_cons.mpr ⟨g4', List.forall_mem_cons.mpr ⟨g5', List.forall_mem_cons.mpr ⟨gn, List.forall_mem_cons.mpr ⟨g7', List.forall_mem_cons.mpr ⟨g8', List.forall_mem_cons.mpr ⟨gi, List.forall_mem_cons.mpr ⟨g10, fun _ h => by cases h⟩⟩⟩⟩⟩⟩⟩⟩⟩⟩⟩
  have lA : ([V.ref bt, V.ref bt, V.ref bt, V.ref c8, V.ref c10, V.ref m11, V.non, V.ref d, V.ref c14, V.int 3, V.ref t15] : List V).length = 11 := rfl
  generalize [V.ref bt, V.ref bt, V.ref bt, V.ref c8, V.ref c10, V.ref m11, V.non, V.ref d, V.ref c14, V.int 3, V.ref t15] = zs at all lA
  have s16 := Ze (o := .lst zs) hZ
  have e16 : upd H15 Z (.lst zs) Z = some (.lst zs) := Zc
  generalize upd H15 Z (.lst zs) = H16 at s16 e16
  have hl16 := s16 _ _ hl15
  have st16 := st15.same s16
  have gt16 := ZE gt' s16
  refine ⟨_, rfl, ZdD (Zaw (ZdC (t := tIf _ _ _) (fun v H' => Same H16 H' ∧ GoodF K p n H' v) ?_ ?_))⟩
  ·rintro v11 H17 ⟨s17, g11⟩
   have hl17 := s17 _ _ hl16
   have st17 := st16.same s17
   refine Zaw (Zas (l := l) (ls := ns.map V.int) (a := a) (fun ms H' => ∃ b : Addr, ms = [.ref b] ∧ H' b = some (.lst [.int 0])) (fun s ⟨b, e, h⟩ => ⟨b, e, s _ _ h⟩) rfl rfl hl17 ll12 (fun H18 Q18 s18 k18 => ⟨(by show 1 ≤ sizeLine; decide), fun b hb => ⟨(by show 1 ≤ sizeLine; decide), fun c hc => k18 c _ _ ((Ze hb).trans (Ze hc)) Zc (by show 1 ≤ 12; decide) ⟨b, rfl, Ze hc _ _ Zc⟩⟩⟩) fun mx ms H18 s18 e18 _ em => ?_)
   obtain ⟨b, rfl, eb⟩ := em
   have st18 := st17.same s18
   have nbp : b ≠ p := by
    obtain ⟨u, v, e, _⟩ := id st18
    exact YH eb e (by intro z; cases z)
   have g12 : GoodF K p n H18 (.ref mx) := by
    refine ZX e18 st18 (fun y hy => ?_) (W6 (y := .ref b) (by simp) rfl)
    rcases List.mem_append.mp hy with hy | hy
    ·rcases List.mem_append.mp hy with hy | hy
     ·exact ZS (Yf hy)
     ·cases List.mem_singleton.mp hy
      exact ⟨⟨_, .lst eb⟩, fun z => nbp (by cases z; rfl)⟩
    ·exact ZS (Yf hy)
   refine ⟨(by show 2 ≤ sizeLine; decide), fun Y hY => ?_⟩
   have s19 := Ze (o := .lst [v11, V.ref mx]) hY
   have e19 : upd H18 Y (.lst [v11, V.ref mx]) Y = some (.lst [v11, V.ref mx]) := Zc
   generalize upd H18 Y (.lst [v11, V.ref mx]) = H19 at s19 e19
   refine ⟨Z, Y, _, _, rfl, rfl, (s17.trans (s18.trans s19)) _ _ e16, e19, by rw [lA]; show 13 ≤ sizeLine; decide, fun W hW => ?_⟩
   have s20 := Ze (o := .lst (zs ++ [v11, V.ref mx])) hW
   have e20 : upd H19 W (.lst (zs ++ [v11, V.ref mx])) W = some (.lst (zs ++ [v11, V.ref mx])) := Zc
   generalize upd H19 W (.lst (zs ++ [v11, V.ref mx])) = H20 at s20 e20
   have lW : (zs ++ [v11, V.ref mx]).length = 13 := by rw [List.length_append, lA]; rfl
   have hlw : way.toNat < (zs ++ [v11, V.ref mx]).length := by omega
   have hatw := YV (List.getElem?_eq_getElem hlw)
   rw [Int.toNat_of_nonneg w0] at hatw
   refine ⟨_, rfl, W, _, _, _, rfl, rfl, SqL.of e20, hatw, ?_⟩
   have s1720 := s17.trans (s18.trans (s19.trans s20))
   have sEnd : Same H5 H20 := s6.trans (s7.trans (s8.trans (sA.trans (s16.trans s1720))))
   refine q _ _ (xH5.trans sEnd.x) (st5.same sEnd) ?_
   rcases List.mem_append.mp (List.getElem_mem hlw) with hy | hy
   ·exact ZE (all _ hy) (s16.trans s1720)
   ·rcases List.mem_cons.mp hy with hy | hy
    ·rw [hy]; exact ZE g11 (s18.trans (s19.trans s20))
    ·rw [List.mem_singleton.mp hy]; exact ZE g12 (s19.trans s20)
  ·intro Q' hQ
   refine ⟨_, rfl, l, _, rfl, .inr (SqT.of hl16), _, _, rfl, rfl, _, rfl, ?_⟩
   by_cases hgt : (1 : Int) < ((ns.map V.int).length : Int)
   ·rw [decide_eq_true hgt]
    exact iteT ⟨_, rfl, hQ _ _ ⟨Same.refl _, gt16⟩⟩
   ·rw [decide_eq_false hgt]
    refine iteF ⟨Nat.zero_le _, fun c hc => ?_⟩
    have sc := Ze (o := .tup []) hc
    exact hQ _ _ ⟨sc, ZX Zc (st16.same sc) (fun y hy => by cases hy) (JY (by show ((0 : Nat) : Int) ≠ n; omega))⟩
end
end U
set_option Elab.async false
set_option linter.all false
set_option maxRecDepth 100000
set_option maxHeartbeats 40000000
namespace U
open PySem L2 PyProof.Rows
section
variable {Y : Cx} {pins : List (Addr × Obj)} {σ : L2.St} {H : Hp} {s : Shared}
theorem ZcS {scope : Scope} {env : Env} {z : Str} {c : Addr} (h : (clOf scope env).lookup z = some c) : (z, NameKind.free) ∈ scope.names := (Ys h).2
end
end U
namespace U
open PySem L2 PyProof.Rows
section
variable {X : Cx} {cS c P fR : Addr} {fn : Str} {kf : Nat} {ps : List Str} {sp : Sp}
abbrev lq (X : Cx) : Str := X.env.qual ++ "<lambda>"
theorem Z6 {H H' : Hp} {P : Addr} {q : Str} (h : TabAt H P q) (s : Same H H') : TabAt H' P q := by
 obtain ⟨ps, h1, h2, h3⟩ := h
 exact ⟨ps, s _ _ h1, h2, fun pos cv z => by obtain ⟨d, e, g⟩ := h3 pos cv z; exact ⟨d, e, s _ _ g⟩⟩
structure LCtx (X : Cx) (cS c P fR : Addr) (fn : Str) (kf : Nat) (ps : List Str) (sp : Sp) : Prop where
 lam : LamX X c P
 hR : ∀ b', Def X.prog X.w X.K X.mg b' (kf + 2) "_law_word" ["_law_call"] (spWord X.prog X.w X.K X.mg b' cS (kf + 1))
 hU : ∀ b', DefR X.prog X.w X.K X.mg b' kf fn ps sp
 room : Room (kf + 2) X.A
 mR : X.mg "_law_word" = some (.ref fR)
 kR : PySem.W.keepIn X.K (.ref fR) = true
structure LScope0 (params : Arguments) (body : Expr) (scope : Scope) : Prop where
 kind : scope.kind = .function
 co : scope.isCoroutine = false
 gen : scope.isGenerator = false
 none : ∀ z ∈ scope.names, z.2 ≠ .cell ∧ z.2 ≠ .free
 bind : ∀ (q : Str) (cl : List (Str × Addr)) (pm : Value) (c : Addr) (ct : Value), bindArgs (PySem.W.kla_fn "<lambda>" q params body scope cl pm (.ref c) ct) ⟨[], []⟩ = pure []
def Body0 (X : Cx) (kf : Nat) (C : Addr) (f : Addr) (q : Str) (bd : Expr) (scope : Scope) (cl : List (Str × Addr)) : Prop :=
 ∀ (base' : Heap) (cc : Addr) (A : Around) (outer : List Env) (s2 : Shared) (H2 : Hp) (Q2 : VK) (E2 : XK), Room kf (A.deeper (PySem.W.envX q scope s2.heap.objs.size f (.ref cc) cl)) → (∀ e H', Same H2 H' → E2 (.ref e) (some C) H') →
  ∃ t, PE (cxL X.prog X.w X.K X.mg base' [] q scope f (.ref cc) cl A outer s2 H2 E2) bd t ∧ t [] H2 Q2
theorem Zbj {pins : List (Addr × Obj)} {σ : L2.St} {H : Hp} {s : Shared} {f C : Addr} {iC : Nat} {q : Str} {params : Arguments} {bd : Expr} {scope : Scope} {cl : List (Str × Addr)} {Q : VK} (L : LCtx X cS c P fR fn kf ps sp)
  (LS : LScope0 params bd scope) (I : Inv X pins σ H s) (hl : LamAt H f q params bd scope cl) (hmem : ∀ z c, cl.lookup z = some c → (z, NameKind.free) ∈ scope.names)
  (M : Mk15 X.K X.mg cS C iC) (bad : Body0 X kf C f q bd scope cl) (hq : ∀ H', Same H H' → Q (.str (wordOf iC)) H') :
  wpAny (model X.prog X.w) X.A (call (.ref fR) [.ref f]) (EP X pins σ Q) X.xe s := by
 obtain ⟨base', st, e0, cov⟩ := I.rebase
 obtain ⟨pm, cc, ct, hf, hc⟩ := hl
 have T : Cells base' scope cl [] [] := ⟨rfl, fun u hu => by
   rcases hu with hu | hu
   ·exact absurd rfl (LS.none _ (PySem.mem_of_lookup hu)).1
   ·exact absurd rfl (LS.none _ (PySem.mem_of_lookup hu)).2, fun i a v h1 h2 => by simp at h1, fun u c h => absurd rfl (LS.none _ (hmem u c h)).2, fun a b c h1 _ => absurd rfl (LS.none _ (hmem a c h1)).2⟩
 have FL : FnOk X.prog X.w X.K X.mg base' (CXR X.prog X.w) (kf + 1) f (PySem.W.kla_fn "<lambda>" q params bd scope cl pm (.ref cc) ct) []
   (fun vs H2 Q2 E2 => (vs = [] ∧ H2 f = some (lamO f q params bd scope cl pm cc ct) ∧ H2 cc = some (codeO cc q)) ∧ ∀ e H', Same H2 H' → E2 (.ref e) (some C) H') := by
  refine ZaS (k := kf) T LS.kind LS.co LS.gen (fun z hz => (LS.none z hz).1) (fun vs H2 Q2 E2 h => h.1) fun A outer s2 H2 Q2 E2 hr2 h => ?_
  exact bad base' cc A outer s2 H2 Q2 E2 hr2 h.2
 obtain ⟨fR', fdR, FR, hm', hk, hb⟩ := L.hR base'
 rw [L.mR] at hm'
 cases hm'
 refine wpAny_call (codeAny_mono (FR.run X.A X.stack s H ⟨[.ref f], []⟩ [.ref f] [.ref f] Q E0 L.room e0 (hb s [.ref f] I.kIn rfl) (.cons rfl .nil)
  ⟨f, _, _, C, iC, rfl, M, fun h hok => ?_, FL, fun s2 => .of_eq (LS.bind q cl pm cc ct), fun Q' E' hE => ⟨⟨rfl, hf, hc⟩, hE⟩, hq⟩) fun r s' h => ?_)
 ·have z : h.get? f = some _ := (hok f _ hf).1
  exact ⟨_, _, _, _, z⟩
 ·cases r with
  | error e => exact h.elim
  | ok fl =>
   cases fl with
   | ret u => exact I.after h
   | next => exact False.elim h
   | brk => exact False.elim h
   | cont => exact False.elim h
def tWord0 (X : Cx) (P : Addr) (iC : Nat) : TE := fun σ H Q => TabAt H P (lq X) ∧ ∀ H', SameX P H H' → TabAt H' P (lq X) → Q (.str (wordOf iC)) H'
theorem Uv {params : Arguments} {scope : Scope} {bd : Expr} {p lp pos : Pos} {C : Addr} {iC : Nat} (L : LCtx X cS c P fR fn kf ps sp) (LS : LScope0 params bd scope) (hg : Gl X "_law_word") (hdef : defaultsOf params X.env = ([], []))
  (hfr : ∀ z ∈ scope.names, z.2 = .free → X.env.kindOf z.1 = some .cell ∨ X.env.kindOf z.1 = some .free) (M : Mk15 X.K X.mg cS C iC) (bad : ∀ f, Body0 X kf C f (lq X) bd scope (clOf scope X.env)) :
  PE X (.Call (.Name "_law_word" p) [.Lambda params bd scope lp] [] pos) (tWord0 X P iC) := by
 intro pins s σ H Q I h
 obtain ⟨tab, q⟩ := h
 refine wpAny_Call_Name_kw (YQ I hg L.mR ?_ (by decide))
 have ha : PA X [.Lambda params bd scope lp] _ := Za (Zb9 L.lam hdef hfr) Zb
 refine PySem.W.callWith_K (h₀ := X.base) I.ok.mod.kin L.kR (thn (ha pos pins s σ H (fun vs H1 => ∃ f, vs = [.ref f] ∧ SameX P H H1 ∧ TabAt H1 P (lq X) ∧ LamAt H1 f (lq X) params bd scope (clOf scope X.env)) I ⟨tab, fun f H1 sx nf t1 l1 => ⟨f, rfl, sx, t1, l1⟩⟩) fun us s1 ⟨vs, H1, I1, r, f, ev, sx, t1, l1⟩ => ⟨I1.kIn, ?_⟩) rfl rfl
 subst ev
 obtain ⟨u, rfl, ru⟩ := vals1 r
 cases ru
 exact Zbj L LS I1 l1 (fun z c h => ZcS h) M (bad f) fun H2 s2 => q H2 (sx.trans s2.x) (Z6 t1 s2)
end
end U
set_option Elab.async false
set_option linter.all false
set_option maxRecDepth 100000
set_option maxHeartbeats 40000000
namespace U
open PySem L2 PyProof.Rows
section
def FullAt (H : Hp) (x : V) (l : Addr) (ns : List Int) (n : Int) : Prop := BoardAt H x n n ∧ H l = some (.tup (ns.map V.int)) ∧ (ns.length : Int) = n ∧ isFullV n n (some (ns.map V.int)) = true
theorem WZ {K : PySem.W.Frag} {H : Hp} {l : Addr} {ns : List Int} (h : H l = some (.tup (ns.map V.int))) : Pl1 K H (.ref l) := by
 refine ⟨⟨_, .tup h⟩, fun ys e y hy => ?_⟩
 rw [Zm h] at e
 cases e
 obtain ⟨i, _, rfl⟩ := List.mem_map.mp hy
 exact ⟨_, .int i⟩
end
end U
set_option Elab.async false
set_option linter.all false
set_option maxRecDepth 100000
set_option maxHeartbeats 40000000
namespace U
open PySem L2 PyProof.Rows PyProof.Rows.Tim
section
def rsK (n : Int) (a b : Int × Int) : List Int := [(b.1 - a.1) % n, (b.2 - a.2) % (n + 1)]
def enL (ns : List Int) : List (Int × Int) := (List.range ns.length).map fun (i : Nat) => ((i : Int), ns.getD i 0)
def rsOf (n : Int) (ps : List (Int × Int)) (a : Int × Int) (j : Nat) : List (List Int) := ((ps.take j).filter fun b => !decide (a.1 = b.1)).map (rsK n a)
def rsTo (n : Int) (ps : List (Int × Int)) (i : Nat) : List (List Int) := (ps.take i).flatMap fun a => rsOf n ps a ps.length
def rsL (ns : List Int) : List (List Int) := rsTo ns.length (enL ns) ns.length
theorem Ji (ns : List Int) : (enL ns).length = ns.length := by unfold enL; rw [List.length_map, List.length_range]
theorem ZcJ {ns : List Int} {i : Nat} {x : Int} (h : ns[i]? = some x) : (enL ns)[i]? = some ((i : Int), x) := by
 obtain ⟨hi, _⟩ := List.getElem?_eq_some_iff.mp h
 unfold enL
 rw [List.getElem?_map, List.getElem?_range hi, Option.map_some, List.getD_eq_getElem?_getD, h]
 rfl
theorem Zbm {n : Int} {ps : List (Int × Int)} {a b : Int × Int} {j : Nat} (h : ps[j]? = some b) : rsOf n ps a (j + 1) = rsOf n ps a j ++ (if (!decide (a.1 = b.1)) = true then [rsK n a b] else []) := by
 unfold rsOf
 rw [List.take_add_one, h, List.filter_append, List.map_append]
 congr 1
 by_cases hh : a.1 = b.1 <;> simp [hh]
theorem Zbl {n : Int} {ps : List (Int × Int)} {a : Int × Int} {i : Nat} (h : ps[i]? = some a) : rsTo n ps (i + 1) = rsTo n ps i ++ rsOf n ps a ps.length := by
 unfold rsTo
 rw [List.take_add_one, h, List.flatMap_append]
 simp
end
end U
namespace U
open PySem L2 PyProof.Rows PyProof.Rows.Tim
section
variable {P : Program} {w : World} {K : PySem.W.Frag} {mg : Str → Option Value} {base : Heap}
abbrev sRS : Stmt := top 28
def spRS : Sp := fun vs H Q _ => ∃ (x : V) (l : Addr) (ns : List Int) (n : Int), vs = [x, .ref l] ∧ FullAt H x l ns n ∧ ∀ (q : Addr) (H' : Hp) (ts : List V) (ks : List (List Int)), Same H H' → H q = none → H' q = some (.lst ts) → Paired (TpAt H') ts ks → ks.Perm (rsL ns) → ks.Pairwise (fun a b => lexB b a = false) → Q (.ref q) H'
theorem scRS : FnScope ["board", "lay", "many"] ["board", "lay"] (defScope sRS) := ⟨rfl, rfl, rfl, by decide +kernel, rfl, by decide +kernel, by decide +kernel⟩
theorem Zeg {f : Addr} {fd : FuncData} (F : Fun K "round_steps" "round_steps" sRS f fd) (G : Gs mg) (D1 : Def P w K mg base 7 "need_full" ["board", "lay"] (spNeedFull K)) : FnOk P w K mg base CX0 8 f fd ["board", "lay"] spRS := by
 refine F.ok scRS (fun vs H Q E h => ?_) (fun cdv A outer s H vs Q E hr h => ?_)
 ·obtain ⟨x, l, ns, n, rfl, _⟩ := h
  rfl
 ·obtain ⟨x, l, ns, n, rfl, fa, q⟩ := h
  obtain ⟨bd, hl, len, fu⟩ := id fa
  obtain ⟨_, w1, w2, _, _⟩ := id bd
  refine ⟨_, Zg (Ye (Zl D1 hr (Za (pv 0) (Za (pv 1) Zb))))
   (Zg (Zz (i := 2) scRS.nd rfl (Or.inr rfl) (Zj Zp rfl G.len boot_len (Za (pv 1) Zb)))
   (Zn (ZF (Zj Jk rfl G.sorted boot_sorted (Za (YO ["line", "row", "other", "there", "many", "lay"] 4 [2, 1] (ZaH rfl G.enumerate (Za (pv 1) Zb))
    (fun C s H fp => show PG (blk _ _ _ C s H fp) _ (gTup K 2 (gCons (gName 0) (gCons (gName 1) gNil))) from YD rfl (ZG (pb 0) (ZG (pb 1) Yi))) (fun C s H fp => Yt)
    (fun C s H fp D => Zb5 rfl rfl rfl (show PI (blk _ _ _ C s H fp) _ _ (iEnum K (tCons (tVar 5) tNil)) from ZaH rfl G.enumerate (Za (pv 5) Zb))
     (show PG (blk _ _ _ C s H fp) _ (gTup K 2 (gCons (gName 2) (gCons (gName 3) gNil))) from YD rfl (ZG (pb 2) (ZG (pb 3) Yi)))
     (ZaC (ZO Jx (pv 0) (pv 2) (nomark _))) (Z8 rfl (Zv (Za (Zo Yc (Zo Yx (pv 2) (pv 0)) (pv 4)) (Za (Zo Yc (Zo Yx (pv 3) (pv 1)) (Zo ZW (pv 4) Zf)) Zb)))) (by intro _; rfl) (by intro g' h; cases h))) Zb))))), ?_⟩
  refine Zq ⟨_, rfl, _, rfl, x, .ref l, n, n, rfl, bd, WZ hl, by rw [Zm hl]; exact fu, fun H1 s1 => ?_⟩
  dsimp only
  have hl1 := s1 _ _ hl
  have ll : ((ns.map V.int).length : Int) = n := by rw [List.length_map]; exact len
  refine Zq (ZA ⟨_, rfl, l, _, rfl, .inr (SqT.of hl1), Zr ?_⟩)
  dsimp only [List.set]
  rw [ll]
  have l12 : ns.length ≤ 12 := by omega
  have at_of : ∀ {i : Nat} {v : V}, (ns.map V.int)[i]? = some v → ∃ y : Int, v = .int y ∧ ns[i]? = some y ∧ i < 12 := fun {i v} h => by
   rw [List.getElem?_map] at h
   obtain ⟨y, hy, rfl⟩ := Option.map_eq_some_iff.mp h
   exact ⟨y, rfl, hy, by have := (List.getElem?_eq_some_iff.mp hy).1; omega⟩
  refine ⟨_, rfl, l, rfl, ⟨_, SqT.of hl1⟩, ?_⟩
  refine WG (xs := ns.map V.int) (fun i ys σ H2 => ∃ v0 v1 v2 v3, σ = [v0, v1, v2, v3, some (.int n), some (.ref l)] ∧ Same H1 H2 ∧ Paired (TpAt H2) ys (rsTo n (enL ns) i) ∧ ys.length ≤ i * 12) ⟨_, _, _, _, rfl, Same.refl _, .nil, Nat.zero_le _⟩ (fun i ys σ H2 _ ⟨_, _, _, _, _, s2, _⟩ => SqT.of (s2 _ _ hl1)) ?_ ?_
  ·rintro i v T ys σ H2 hv hT ⟨v0, v1, v2, v3, rfl, s2, pr2, hl2⟩
   obtain ⟨a, rfl, ha, i12⟩ := at_of hv
   have sT : Same H2 (upd H2 T (.par [.int (i : Int), .int a])) := Ze hT
   refine ⟨T, _, rfl, SqT.ofP Zc, rfl, _, _, rfl, _, _, rfl, rfl, ?_⟩
   generalize upd H2 T (HO.par [V.int (i : Int), V.int a]) = H3 at sT
   refine ⟨_, rfl, l, rfl, ⟨_, SqT.of ((s2.trans sT) _ _ hl1)⟩, ?_⟩
   refine WG (xs := ns.map V.int) (fun j ys σ H4 => ∃ v2 v3, σ = [some (.int (i : Int)), some (.int a), v2, v3, some (.int n), some (.ref l)] ∧ Same H1 H4 ∧ Paired (TpAt H4) ys (rsTo n (enL ns) i ++ rsOf n (enL ns) ((i : Int), a) j) ∧ ys.length ≤ i * 12 + j) ⟨_, _, rfl, s2.trans sT, by simpa [rsOf] using Paired.mapP pr2 fun v q' hq => hq.same sT, hl2⟩ (fun j ys σ H4 _ ⟨_, _, _, s4, _⟩ => SqT.of (s4 _ _ hl1)) ?_ ?_
   ·rintro j v T' ys σ H4 hv' hT' ⟨v2, v3, rfl, s4, pr4, hl4⟩
    obtain ⟨b, rfl, hb, j12⟩ := at_of hv'
    have es := Zbm (n := n) (a := ((i : Int), a)) (ZcJ hb)
    have sT' : Same H4 (upd H4 T' (.par [.int (j : Int), .int b])) := Ze hT'
    refine ⟨T', _, rfl, SqT.ofP Zc, rfl, _, _, rfl, _, _, rfl, rfl, ?_⟩
    generalize upd H4 T' (HO.par [V.int (j : Int), V.int b]) = H5 at sT'
    refine ⟨_, rfl, _, rfl, rfl, _, rfl, ?_⟩
    have zd : decide (V.int (i : Int) = V.int (j : Int)) = decide ((i : Int) = (j : Int)) := by simp
    rw [zd]
    cases hh : (!decide ((i : Int) = (j : Int))) with
    | true =>
     rw [hh, if_pos rfl] at es
     refine iteT ?_
     refine ⟨_, rfl, _, rfl, _, _, rfl, rfl, _, rfl, _, _, rfl, rfl, by omega, _, rfl, _, rfl, _, _, rfl, rfl, _, rfl, _, _, rfl, rfl, _, _, rfl, rfl, by omega, (by show 2 ≤ sizeLine; decide), fun t ht => ⟨by rw [sizeLine_eq]; omega, ?_⟩⟩
     have s6 := Ze (o := .tup [V.int (((j : Int) - (i : Int)) % n), V.int ((b - a) % (n + 1))]) ht
     refine ⟨_, _, rfl, s4.trans (sT'.trans s6), ?_, by rw [List.length_append]; simp; omega⟩
     rw [es, ← List.append_assoc]
     exact Paired.snoc (Paired.mapP pr4 fun v q' hq => hq.same (sT'.trans s6)) ⟨t, rfl, Zc⟩
    | false =>
     rw [hh, if_neg Bool.false_ne_true, List.append_nil] at es
     refine iteF ⟨_, _, rfl, s4.trans sT', ?_, by omega⟩
     rw [es]
     exact Paired.mapP pr4 fun v q' hq => hq.same sT'
   ·rintro ys σ H4 ⟨v2, v3, rfl, s4, pr4, hl4⟩
    rw [List.length_map] at pr4 hl4
    refine ⟨_, _, _, _, rfl, s4, ?_, by omega⟩
    rw [Zbl (ZcJ ha), Ji]
    exact pr4
  ·rintro ys σ H2 ⟨v0, v1, v2, v3, rfl, s2, pr2, hl2⟩ p hp
   rw [List.length_map] at pr2 hl2
   have s4 := Ze (o := .lst ys) hp
   have pr4 : Paired (TpAt (upd H2 p (.lst ys))) ys (rsTo n (enL ns) ns.length) := Paired.mapP pr2 fun v q' hq => hq.same s4
   refine ⟨p, ys, _, rfl, SqL.of Zc, pr4, fun k hk => ?_, by omega, fun q2 ts ks hq2 pm so pr5 => ?_⟩
   ·obtain ⟨a, _, hk⟩ := List.mem_flatMap.mp hk
    obtain ⟨b, _, rfl⟩ := List.mem_map.mp hk
    exact List.cons_ne_nil _ _
   ·have s5 := Ze (o := .lst ts) hq2
    have sA := s1.trans (s2.trans (s4.trans s5))
    refine q q2 _ ts ks sA ((s1.trans (s2.trans s4)).free hq2) Zc (Paired.mapP pr5 fun v q' hq => hq.same s5) ?_ so
    unfold rsL
    rw [len]
    exact pm
abbrev sIR : Stmt := top 29
def spIR : Sp := fun vs H Q _ => ∃ (x : V) (l : Addr) (ns : List Int) (n : Int), vs = [x, .ref l] ∧ FullAt H x l ns n ∧ ∀ (H' : Hp), Same H H' → Q (.bl (decide (rsL ns).Nodup)) H'
theorem scIR : FnScope ["board", "lay", "told"] ["board", "lay"] (defScope sIR) := ⟨rfl, rfl, rfl, by decide +kernel, rfl, by decide +kernel, by decide +kernel⟩
theorem WO {α β : Type} (f : α → List β) (n : Nat) : ∀ l : List α, (∀ a ∈ l, (f a).length ≤ n) → (l.flatMap f).length ≤ l.length * n
 | [], _ => by simp
 | a :: l, h => by
  have h1 := h a List.mem_cons_self
  have h2 := WO f n l fun b hb => h b (List.mem_cons_of_mem _ hb)
  rw [List.flatMap_cons, List.length_append, List.length_cons, Nat.succ_mul]
  omega
theorem Zaz (ns : List Int) : (rsL ns).length ≤ ns.length * ns.length := by
 unfold rsL rsTo
 have h := WO (fun a => rsOf ns.length (enL ns) a (enL ns).length) ns.length ((enL ns).take ns.length) (fun a _ => by
  unfold rsOf
  rw [List.length_map]
  refine Nat.le_trans (List.length_filter_le ..) ?_
  rw [List.length_take, Ji]
  exact Nat.min_le_left ..)
 rw [List.length_take, Ji, Nat.min_self] at h
 rw [Ji]
 exact h
theorem Zei {f : Addr} {fd : FuncData} (F : Fun K "is_round" "is_round" sIR f fd) (G : Gs mg) (D1 : Def P w K mg base 8 "round_steps" ["board", "lay"] spRS) : FnOk P w K mg base CX0 9 f fd ["board", "lay"] spIR := by
 refine F.ok scIR (fun vs H Q E h => ?_) (fun cdv A outer s H vs Q E hr h => ?_)
 ·obtain ⟨x, l, ns, n, rfl, _⟩ := h
  rfl
 ·obtain ⟨x, l, ns, n, rfl, fa, q⟩ := h
  have hu : (cxOf CX0 P w K mg base ["board", "lay", "told"] "is_round" (defScope sIR) f cdv A outer s H E).nox.A.units + 4 < cLine := Nat.lt_of_le_of_lt (Nat.add_le_add_left (by decide : 4 ≤ 64) _) hr.units
  refine ⟨_, Zg (Zz (i := 2) scIR.nd rfl (Or.inl rfl) (Zl D1 hr (Za (pv 0) (Za (pv 1) Zb))))
   (Zn (ZF (ZL Yr (WD rfl hu rfl G.len rfl G.set (pv 2)) (Zj Zp rfl G.len boot_len (Za (pv 2) Zb)) (nomark _)))), ?_⟩
  refine Zq (ZA ⟨_, rfl, _, rfl, x, l, ns, n, rfl, fa, fun t H1 ts ks s1 nt e1 pr pm so => Zr ?_⟩)
  dsimp only [List.set]
  have lk := Paired.length pr
  have l1 := Zaz ns
  have l2 := pm.length_eq
  have l12 : ns.length ≤ 12 := by
   have h1 := fa.2.2.1
   have h2 := fa.1.2.2.1
   omega
  have l3 := Nat.mul_le_mul l12 l12
  refine ⟨_, rfl, t, ts, ks, rfl, SqL.of e1, pr, by omega, _, rfl, t, ts, rfl, .inl (SqL.of e1), rfl, ?_⟩
  have z : decide (V.int (lenS ks : Int) = V.int (ts.length : Int)) = decide (rsL ns).Nodup := by
   rw [decide_eq_decide, lk, ← pm.nodup_iff, ← ZaR]
   constructor
   ·intro h
    injection h with h
    omega
   ·intro h
    rw [h]
  rw [z]
  exact q H1 s1
end
end U
set_option Elab.async false
set_option linter.all false
set_option maxRecDepth 100000
set_option maxHeartbeats 40000000
namespace U
open PySem L2 PyProof.Rows PyProof.Rows.Tim
section
def prs (n : Nat) : List (Nat × Nat) := (List.range n).flatMap fun i => ((List.range n).filter fun j => !decide (i = j)).map fun j => (i, j)
def rsP (ns : List Int) (p : Nat × Nat) : List Int := [((p.2 : Int) - p.1) % ns.length, (ns.getD p.2 0 - ns.getD p.1 0) % (ns.length + 1)]
theorem ZbZ (ns : List Int) : rsL ns = (prs ns.length).map (rsP ns) := by
 unfold rsL rsTo prs
 rw [List.map_flatMap]
 have e1 : (enL ns).take ns.length = enL ns := List.take_of_length_le (by rw [Ji]; exact Nat.le_refl _)
 rw [e1]
 unfold enL
 rw [List.flatMap_map]
 congr 1
 funext i
 unfold rsOf
 rw [List.take_of_length_le (Nat.le_refl _), List.filter_map, List.map_map, List.map_map]
 congr 1
 congr 1
 funext j
 simp only [Function.comp]
 congr 1
 rw [decide_eq_decide]
 exact Int.ofNat_inj
end
end U
set_option Elab.async false
set_option linter.all false
set_option maxRecDepth 100000
set_option maxHeartbeats 40000000
namespace U
open PySem L2 PyProof.Rows
section
def CellAt (Y : Cx) (cl : List (Str × Addr)) (x : Str) (v : V) (H : Hp) (s : Shared) : Prop := ∃ c u, cl.lookup x = some c ∧ s.heap.IsCell c (some u) ∧ RelV v u ∧ H c = none ∧ c ∉ frs Y.stack
end
end U
namespace U
open PySem L2 PyProof.Rows
section
variable {Y : Cx} {pins : List (Addr × Obj)} {σ : L2.St} {H : Hp} {s : Shared}
theorem ZcT {i : Nat} {x : Str} {v : V} {scope : Scope} (I : Inv Y pins σ H s) (hi : Y.N[i]? = some x) (hσ : σ[i]? = some (some v)) (hk : Y.env.scope.names.lookup x = some .cell) (hfn : Y.fn x = true) (hfr : (x, NameKind.free) ∈ scope.names) : CellAt Y (clOf scope Y.env) x v H s := by
 obtain ⟨m, hn, hl⟩ := I.loc
 obtain ⟨u, r, l⟩ := hl i x v hi hσ (.inr (.inl hk))
 obtain ⟨c, hc⟩ := Wh (env := Y.env) hfr
 have e1 := (Ys hc).1
 rcases l with ⟨hk', _⟩ | ⟨_, c', hc', hcell⟩
 ·have : Y.env.scope.names.lookup x = some .local := hk'
  rw [hk] at this
  cases this
 ·rw [hc'] at e1
  have e2 : c = c' := e1
  subst e2
  refine ⟨c, u, hc, hcell, r, I.freeC x c hc', fun hm => ?_⟩
  rcases List.mem_cons.mp (I.stkSub c hm) with z | z
  ·exact I.cne x c hc' z
  ·obtain ⟨_, o, ho, _⟩ := I.ok.funs.mem z
   exact absurd (Nat.lt_of_lt_of_le (Heap.lt_size ho) (I.ok.cab x c hfn hc')) (Nat.lt_irrefl _)
end
end U
namespace U
open PySem L2 PyProof.Rows
section
variable {X : Cx} {cS c P fR : Addr} {fn : Str} {kf : Nat} {ps : List Str} {sp : Sp}
structure LN (X : Cx) (x : Str) (i : Nat) : Prop where
 nx : X.N[i]? = some x
 kx : X.env.scope.names.lookup x = some .cell
 fx : X.fn x = true
end
end U
set_option Elab.async false
set_option linter.all false
set_option maxRecDepth 100000
set_option maxHeartbeats 40000000
namespace U
open PySem L2 PyProof.Rows
section
variable {X : Cx} {cS c P fR : Addr} {fn : Str} {kf : Nat} {ps : List Str} {sp : Sp}
structure LScopeN (params : Arguments) (body : Expr) (scope : Scope) (N : List Str) : Prop where
 kind : scope.kind = .function
 co : scope.isCoroutine = false
 gen : scope.isGenerator = false
 nocell : ∀ z ∈ scope.names, z.2 ≠ .cell
 only : ∀ z ∈ scope.names, z.2 = .free → z.1 ∈ N
 free : ∀ x ∈ N, scope.names.lookup x = some .free
 bind : ∀ (q : Str) (cl : List (Str × Addr)) (pm : Value) (c : Addr) (ct : Value), bindArgs (PySem.W.kla_fn "<lambda>" q params body scope cl pm (.ref c) ct) ⟨[], []⟩ = pure []
def BodyN (X : Cx) (kf : Nat) (C : Addr) (f : Addr) (q : Str) (bd : Expr) (scope : Scope) (cl : List (Str × Addr)) (N : List Str) (ws : List V) (Pre : Hp → Prop) : Prop :=
 ∀ (base' : Heap) (cc : Addr) (A : Around) (outer : List Env) (s2 : Shared) (H2 : Hp) (Q2 : VK) (E2 : XK), Room kf (A.deeper (PySem.W.envX q scope s2.heap.objs.size f (.ref cc) cl)) → Pre H2 → (∀ e H', Same H2 H' → E2 (.ref e) (some C) H') →
  ∃ t, PE (cxL X.prog X.w X.K X.mg base' N q scope f (.ref cc) cl A outer s2 H2 E2) bd t ∧ t (ws.map some) H2 Q2
theorem Zbi {pins : List (Addr × Obj)} {σ : L2.St} {H : Hp} {s : Shared} {f C : Addr} {iC : Nat} {q : Str} {params : Arguments} {bd : Expr} {scope : Scope} {cl : List (Str × Addr)} {Q : VK} {N : List Str} {ws : List V} {Pre : Hp → Prop} (L : LCtx X cS c P fR fn kf ps sp)
  (LS : LScopeN params bd scope N) (I : Inv X pins σ H s) (hl : LamAt H f q params bd scope cl) (hlen : ws.length = N.length) (hcl : ∀ (i : Nat) x v, N[i]? = some x → ws[i]? = some v → CellAt X cl x v H s) (hmem : ∀ z c, cl.lookup z = some c → (z, NameKind.free) ∈ scope.names)
  (hinj : ∀ a b c, cl.lookup a = some c → cl.lookup b = some c → a = b) (M : Mk15 X.K X.mg cS C iC) (bad : BodyN X kf C f q bd scope cl N ws Pre) (pre : Pre H) (hq : ∀ H', Same H H' → Q (.str (wordOf iC)) H') :
  wpAny (model X.prog X.w) X.A (call (.ref fR) [.ref f]) (EP X pins σ Q) X.xe s := by
 obtain ⟨base', st, e0, cov⟩ := I.rebase
 obtain ⟨pm, cc, ct, hf, hc⟩ := hl
 have T : Cells base' scope cl N ws := ⟨hlen, fun u hu => by
   rcases hu with hu | hu
   ·exact absurd rfl (LS.nocell _ (PySem.mem_of_lookup hu))
   ·exact LS.only _ (PySem.mem_of_lookup hu) rfl, fun i a v h1 h2 => by
   obtain ⟨ax, ux, lx, ⟨ox, gx, dx⟩, rx, nx, fx⟩ := hcl i a v h1 h2
   exact ⟨LS.free a (List.mem_of_getElem? h1), ax, ux, lx, ⟨ox, cov _ _ gx nx fx, dx⟩, rx⟩, fun u c h => LS.only _ (hmem u c h) rfl, hinj⟩
 have FL : FnOk X.prog X.w X.K X.mg base' (CXR X.prog X.w) (kf + 1) f (PySem.W.kla_fn "<lambda>" q params bd scope cl pm (.ref cc) ct) []
   (fun vs H2 Q2 E2 => (vs = [] ∧ H2 f = some (lamO f q params bd scope cl pm cc ct) ∧ H2 cc = some (codeO cc q)) ∧ Pre H2 ∧ ∀ e H', Same H2 H' → E2 (.ref e) (some C) H') := by
  refine ZaS (k := kf) T LS.kind LS.co LS.gen LS.nocell (fun vs H2 Q2 E2 h => h.1) fun A outer s2 H2 Q2 E2 hr2 h => ?_
  exact bad base' cc A outer s2 H2 Q2 E2 hr2 h.2.1 h.2.2
 obtain ⟨fR', fdR, FR, hm', hk, hb⟩ := L.hR base'
 rw [L.mR] at hm'
 cases hm'
 refine wpAny_call (codeAny_mono (FR.run X.A X.stack s H ⟨[.ref f], []⟩ [.ref f] [.ref f] Q E0 L.room e0 (hb s [.ref f] I.kIn rfl) (.cons rfl .nil)
  ⟨f, _, _, C, iC, rfl, M, fun h hok => ?_, FL, fun s2 => .of_eq (LS.bind q cl pm cc ct), fun Q' E' hE => ⟨⟨rfl, hf, hc⟩, pre, hE⟩, hq⟩) fun r s' h => ?_)
 ·have z : h.get? f = some _ := (hok f _ hf).1
  exact ⟨_, _, _, _, z⟩
 ·cases r with
  | error e => exact h.elim
  | ok fl =>
   cases fl with
   | ret u => exact I.after h
   | next => exact False.elim h
   | brk => exact False.elim h
   | cont => exact False.elim h
def tWordN (X : Cx) (P : Addr) (iC : Nat) (idx : List Nat) (Pre : List V → Hp → Prop) : TE := fun σ H Q => ∃ ws : List V, ws.length = idx.length ∧ (∀ (k i : Nat) v, idx[k]? = some i → ws[k]? = some v → σ[i]? = some (some v)) ∧ TabAt H P (lq X) ∧ (∀ H', SameX P H H' → Pre ws H') ∧ ∀ H', SameX P H H' → TabAt H' P (lq X) → Q (.str (wordOf iC)) H'
theorem JP {params : Arguments} {scope : Scope} {bd : Expr} {p lp pos : Pos} {C : Addr} {iC : Nat} {N : List Str} {idx : List Nat} {Pre : List V → Hp → Prop} (L : LCtx X cS c P fR fn kf ps sp) (LS : LScopeN params bd scope N) (hN : idx.length = N.length) (LNs : ∀ (k : Nat) x i, N[k]? = some x → idx[k]? = some i → LN X x i) (hg : Gl X "_law_word") (hdef : defaultsOf params X.env = ([], []))
  (hfr : ∀ z ∈ scope.names, z.2 = .free → X.env.kindOf z.1 = some .cell ∨ X.env.kindOf z.1 = some .free) (M : Mk15 X.K X.mg cS C iC) (bad : ∀ f ws, ws.length = N.length → BodyN X kf C f (lq X) bd scope (clOf scope X.env) N ws (Pre ws)) :
  PE X (.Call (.Name "_law_word" p) [.Lambda params bd scope lp] [] pos) (tWordN X P iC idx Pre) := by
 intro pins s σ H Q I h
 obtain ⟨ws, hws, hσ, tab, pre, q⟩ := h
 refine wpAny_Call_Name_kw (YQ I hg L.mR ?_ (by decide))
 have ha : PA X [.Lambda params bd scope lp] _ := Za (Zb9 L.lam hdef hfr) Zb
 refine PySem.W.callWith_K (h₀ := X.base) I.ok.mod.kin L.kR (thn (ha pos pins s σ H (fun vs H1 => ∃ f, vs = [.ref f] ∧ SameX P H H1 ∧ TabAt H1 P (lq X) ∧ LamAt H1 f (lq X) params bd scope (clOf scope X.env)) I ⟨tab, fun f H1 sx nf t1 l1 => ⟨f, rfl, sx, t1, l1⟩⟩) fun us s1 ⟨vs, H1, I1, r, f, ev, sx, t1, l1⟩ => ⟨I1.kIn, ?_⟩) rfl rfl
 subst ev
 obtain ⟨u, rfl, ru⟩ := vals1 r
 cases ru
 refine Zbi L LS I1 l1 (by rw [hws, hN]) (fun i x v h1 h2 => ?_) (fun z c h => ZcS h) (fun a b c h1 h2 => ?_) M (bad f ws (by rw [hws, hN])) (pre H1 sx) fun H2 s2 => q H2 (sx.trans s2.x) (Z6 t1 s2)
 ·have hi : i < idx.length := by
   have := (List.getElem?_eq_some_iff.mp h1).1
   omega
  have ei := List.getElem?_eq_getElem hi
  have n := LNs i x _ h1 ei
  exact ZcT I1 n.nx (hσ i _ v ei h2) n.kx n.fx (PySem.mem_of_lookup (LS.free x (List.mem_of_getElem? h1)))
 obtain ⟨e1, m1⟩ := Ys h1
 obtain ⟨e2, m2⟩ := Ys h2
 obtain ⟨c1, g1⟩ := I1.ok.has a (hfr _ m1 rfl)
 obtain ⟨c2, g2⟩ := I1.ok.has b (hfr _ m2 rfl)
 rw [g1] at e1
 rw [g2] at e2
 have z1 : c1 = c2 := by
  have y1 : _ = c1 := e1
  have y2 : _ = c2 := e2
  rw [← y1, ← y2]
 subst z1
 exact I1.ok.inj _ _ _ g1 g2
end
end U
set_option Elab.async false
set_option linter.all false
set_option maxRecDepth 100000
set_option maxHeartbeats 4000000
namespace U
open PySem L2 PyProof.Rows
section
variable {P : Program} {w : World} {K : PySem.W.Frag} {mg : Str → Option Value} {base : Heap} {cB cL : Addr}
def RLi (R : Hp → V → V → Prop) (H : Hp) (x y : V) : Prop := ∃ (a b : Addr) (xs ys : List V), x = .ref a ∧ y = .ref b ∧ H a = some (.lst xs) ∧ H b = some (.lst ys) ∧ Paired (R H) xs ys ∧ xs.length ≤ 1000
theorem RTu.same {R : Hp → V → V → Prop} (hR : ∀ {H H' : Hp} {x y : V}, R H x y → Same H H' → R H' x y) {H H' : Hp} {x y : V} (r : RTu R H x y) (s : Same H H') : RTu R H' x y := by
 obtain ⟨a, b, xs, ys, e1, e2, h1, h2, pr, hl⟩ := r
 exact ⟨a, b, xs, ys, e1, e2, s _ _ h1, s _ _ h2, Paired.mapP pr fun _ _ q => hR q s, hl⟩
theorem Zbt {R : Hp → V → V → Prop} {k : Nat} (hR : ∀ {H H' : Hp} {x y : V}, R H x y → Same H H' → R H' x y) {f : Addr} {fd : FuncData} (F : Fun K "_law_same" "_law_same" sSame f fd) (G : Gs mg) (D : Def P w K mg base k "_law_same" ["_law_found", "_law_due_here"] (spSame R)) :
  FnOk P w K mg base CX0 (k + 1) f fd ["_law_found", "_law_due_here"] (spSame (RLi R)) := by
 refine F.ok scSame (fun vs H Q E h => ?_) (fun cdv A outer s H vs Q E hr h => ?_)
 ·obtain ⟨x, y, rfl, _⟩ := h
  rfl
 ·obtain ⟨x, y, rfl, ⟨a, b, xs, ys, rfl, rfl, ha, hb, pr, hl⟩, q⟩ := h
  refine ⟨_, Zg (ZM (ZT (Zj (Y0 (a := "list") (b := "tuple")) rfl G.isinstance boot_isinstance (Za (pv 1) (Za (Zv (Za (ZB (v := .ty "list") rfl G.list boot_list rfl) (Za (ZB (v := .ty "tuple") rfl G.tuple boot_tuple rfl) Zb))) Zb))))
    (Zg (ZM (PW.pt (JM (ZO Jx (Zj (Zw (c := "list")) rfl G.isinstance boot_isinstance (Za (pv 0) (Za (ZB (v := .ty "list") rfl G.list boot_list rfl) Zb))) (Zj (Zw (c := "list")) rfl G.isinstance boot_isinstance (Za (pv 1) (Za (ZB (v := .ty "list") rfl G.list boot_list rfl) Zb))) (nomark _))
      (Jp (ZO Jx (Zj (Zw (c := "tuple")) rfl G.isinstance boot_isinstance (Za (pv 0) (Za (ZB (v := .ty "tuple") rfl G.tuple boot_tuple rfl) Zb))) (Zj (Zw (c := "tuple")) rfl G.isinstance boot_isinstance (Za (pv 1) (Za (ZB (v := .ty "tuple") rfl G.tuple boot_tuple rfl) Zb))) (nomark _))))) Zt Zy)
    (Zn (ZF (Z2 (ZL Yr (Zj Zp rfl G.len boot_len (Za (pv 0) Zb)) (Zj Zp rfl G.len boot_len (Za (pv 1) Zb)) (nomark _))
     (Yb (Zj Jm rfl G.all boot_all (Za (YO ["_law_one", "_law_other"] 2 [] (ZdL rfl G.zip (Za (pv 0) (Za (pv 1) Zb)))
      (fun C s H fp => show PG (blk _ _ _ C s H fp) _ (gTup K 2 (gCons (gName 0) (gCons (gName 1) gNil))) from YD rfl (ZG (pb 0) (ZG (pb 1) Yi))) (fun C s H fp => Yt)
      (fun C s H fp D' => Z8 rfl (Zl D hr (Za (pv 0) (Za (pv 1) Zb))))) Zb))))))) Zy) Zt, ?_⟩
  refine ⟨_, rfl, (by show 2 ≤ sizeLine; decide), fun t ht => ?_⟩
  have s1 := Ze (o := .tup [V.ty "list", V.ty "tuple"]) ht
  have e1 : upd H t (.tup [V.ty "list", V.ty "tuple"]) t = some (.tup [V.ty "list", V.ty "tuple"]) := Zc
  generalize upd H t (HO.tup [V.ty "list", V.ty "tuple"]) = H1 at s1 e1
  have ha1 := s1 _ _ ha
  have hb1 := s1 _ _ hb
  refine ⟨_, t, _, _, rfl, SqT.of e1, .inr (.inr (.inl ⟨b, ys, rfl, hb1, rfl⟩)), (show _ = some true from rfl), _, rfl, iteT ?_⟩
  refine ⟨_, rfl, _, _, _, rfl, .lst ha1, (show _ = some true from rfl), _, rfl, _, _, _, rfl, .lst hb1, (show _ = some true from rfl), rfl, _, rfl, iteF ?_⟩
  refine ⟨_, rfl, _, _, _, rfl, .lst ha1, (show _ = some false from rfl), _, rfl, _, _, _, rfl, .lst hb1, (show _ = some false from rfl), rfl, _, rfl, iteF ?_⟩
  have hlen : xs.length = ys.length := Paired.length pr
  refine ⟨_, rfl, a, xs, rfl, .inl (SqL.of ha1), _, rfl, b, ys, rfl, .inl (SqL.of hb1), rfl, _, rfl, ?_⟩
  have el : decide (V.int (xs.length : Int) = V.int (ys.length : Int)) = true := decide_eq_true (by rw [hlen])
  rw [el]
  refine iteT ⟨_, rfl, _, rfl, a, b, rfl, ⟨xs, ys, SqL.of ha1, SqL.of hb1⟩, ?_⟩
  refine Zcn (xs := xs) (zs := ys) hlen (fun i zs σ H2 => ∃ v0 v1, σ = [v0, v1] ∧ Same H1 H2 ∧ zs = List.replicate i (V.bl true)) ⟨_, _, rfl, Same.refl _, rfl⟩ (fun i zs σ H2 _ ⟨_, _, _, s2, _⟩ => ⟨SqL.of (s2 _ _ ha1), SqL.of (s2 _ _ hb1)⟩) ?_ ?_
  ·rintro i x y T zs σ H2 hx hy hT ⟨v0, v1, rfl, s2, rfl⟩
   obtain ⟨y', hy', r⟩ := Us pr hx
   rw [hy] at hy'
   cases hy'
   have sT := Ze (o := .par [x, y]) hT
   have hi : i < xs.length := (List.getElem?_eq_some_iff.mp hx).1
   refine ⟨T, _, rfl, SqT.ofP Zc, rfl, _, _, rfl, _, _, rfl, rfl, ?_⟩
   refine ⟨x, rfl, y, rfl, x, y, rfl, hR r (s1.trans (s2.trans sT)), fun H3 s3 => ⟨by rw [List.length_replicate, sizeLine_eq]; omega, _, _, rfl, s2.trans (sT.trans s3), ?_⟩⟩
   rw [List.replicate_succ']
  ·rintro zs σ H2 ⟨v0, v1, rfl, s2, rfl⟩ p hp
   refine ⟨p, List.replicate xs.length true, rfl, ?_, ?_⟩
   ·rw [List.map_replicate]
    exact SqL.of Zc
   ·have e : (List.replicate xs.length true).all id = true := by simp
    rw [e]
    exact q _ (s1.trans (s2.trans (Ze hp)))
def RBl (_ : Hp) (x y : V) : Prop := ∃ k : Bool, x = .bl k ∧ y = .bl k
theorem Zcg {f : Addr} {fd : FuncData} (F : Fun K "_law_same" "_law_same" sSame f fd) (G : Gs mg) : FnOk P w K mg base CX0 1 f fd ["_law_found", "_law_due_here"] (spSame RBl) := by
 refine F.ok scSame (fun vs H Q E h => ?_) (fun cdv A outer s H vs Q E hr h => ?_)
 ·obtain ⟨x, y, rfl, _⟩ := h
  rfl
 ·obtain ⟨x, y, rfl, ⟨k, rfl, rfl⟩, q⟩ := h
  refine ⟨_, Zg (ZM (ZT (Zj (Wt (a := "list") (b := "tuple")) rfl G.isinstance boot_isinstance (Za (pv 1) (Za (Zv (Za (ZB (v := .ty "list") rfl G.list boot_list rfl) (Za (ZB (v := .ty "tuple") rfl G.tuple boot_tuple rfl) Zb))) Zb)))) Zt Zy)
   (Zg (ZM (PW.pt (JM (YC (JT (pv 1))) (Jp (YC (JT (pv 0)))))) Zt Zy)
   (Zn (ZF (Z2 (ZL Yr (Zj (Zw (c := "bool")) rfl G.isinstance boot_isinstance (Za (pv 0) (Za (ZB (v := .ty "bool") rfl G.bool boot_bool rfl) Zb)))
     (Zj (Zw (c := "bool")) rfl G.isinstance boot_isinstance (Za (pv 1) (Za (ZB (v := .ty "bool") rfl G.bool boot_bool rfl) Zb))) (nomark _))
    (Yb (ZL Yr (pv 0) (pv 1) (nomark _))))))), ?_⟩
  refine ⟨_, rfl, (by show 2 ≤ sizeLine; decide), fun t ht => ?_⟩
  have s1 := Ze (o := .tup [V.ty "list", V.ty "tuple"]) ht
  refine ⟨_, t, _, _, rfl, SqT.of Zc, .inr (.inl ⟨k, rfl, rfl⟩), (show _ = some false from rfl), _, rfl, iteF ?_⟩
  refine ⟨_, rfl, _, rfl, iteF ⟨_, rfl, _, rfl, iteF ?_⟩⟩
  refine ⟨_, rfl, _, _, _, rfl, .bl k, (show _ = some true from rfl), _, rfl, _, _, _, rfl, .bl k, (show _ = some true from rfl), rfl, _, rfl, ?_⟩
  refine iteT ⟨_, rfl, _, rfl, (by cases k <;> rfl), ?_⟩
  have e : decide (V.bl k = V.bl k) = true := decide_eq_true rfl
  rw [e]
  exact q _ s1
theorem ZdR {f : Addr} {fd : FuncData} (F : Fun K "round_steps" "round_steps" sRS f fd) (R1 : DefR P w K mg base 7 "need_full" ["board", "lay"] (spNFx K cB cL)) : FnOk P w K mg base (CXR P w) 8 f fd ["board", "lay"] (spNFx K cB cL) := by
 refine F.okR scRS (fun vs H Q E h => ?_) (fun cdv A outer s H vs Q E hr h => ?_)
 ·obtain ⟨x, y, C, rfl, _⟩ := h
  rfl
 ·obtain ⟨x, y, C, rfl, b, q⟩ := h
  refine ⟨_, Zg (Ye (YF R1 hr (Za (pv 0) (Za (pv 1) Zb)))) Zt, ?_⟩
  exact ⟨x, rfl, y, rfl, x, y, C, rfl, b, q⟩
theorem ZdW {f : Addr} {fd : FuncData} (F : Fun K "is_round" "is_round" sIR f fd) (R1 : DefR P w K mg base 8 "round_steps" ["board", "lay"] (spNFx K cB cL)) : FnOk P w K mg base (CXR P w) 9 f fd ["board", "lay"] (spNFx K cB cL) := by
 refine F.okR scIR (fun vs H Q E h => ?_) (fun cdv A outer s H vs Q E hr h => ?_)
 ·obtain ⟨x, y, C, rfl, _⟩ := h
  rfl
 ·obtain ⟨x, y, C, rfl, b, q⟩ := h
  refine ⟨_, Zg (Zz (i := 2) scIR.nd rfl (Or.inl rfl) (YF R1 hr (Za (pv 0) (Za (pv 1) Zb)))) Zt, ?_⟩
  exact ⟨x, rfl, y, rfl, x, y, C, rfl, b, q⟩
end
end U
set_option Elab.async false
set_option linter.all false
set_option maxRecDepth 100000
set_option maxHeartbeats 4000000
namespace U
open PySem L2 PyProof.Rows PyProof.Rows.Tim
theorem Jo {H H1 : Hp} {L : Addr} {o : HO} (s : Same H H1) (n : H L = none) : Same H (upd H1 L o) := fun b u h => by
 rw [Zh (Zk h n)]
 exact s b u h
theorem Ul {H : Hp} {L : Addr} {zs : List V} {o : HO} (e : H L = some (.lst zs)) {v : V} {k : List Int} (h : TpAt H v k) : TpAt (upd H L o) v k := by
 obtain ⟨t, rfl, ht⟩ := h
 refine ⟨t, rfl, ?_⟩
 rw [Zh (fun z => ?_)]
 ·exact ht
 ·subst z
  rw [e] at ht
  cases ht
theorem JU {α β : Type} {F : α → β → Prop} : ∀ {a c : List α} {b d : List β}, Paired F a b → Paired F c d → Paired F (a ++ c) (b ++ d)
 | _, _, _, _, .nil, h => h
 | _, _, _, _, .cons x y, h => .cons x (JU y h)
def dueK (ns : List Int) (on i : Nat) : List Int := [(on : Int), (ns.getD ((i + on) % ns.length) 0 - ns.getD i 0) % ((ns.length : Int) + 1)]
def dueTo (ns : List Int) (k : Nat) : List (List Int) := (List.range k).flatMap fun k => (List.range ns.length).map (dueK ns (k + 1))
theorem Zaq (ns : List Int) (k : Nat) : dueTo ns (k + 1) = dueTo ns k ++ (List.range ns.length).map (dueK ns (k + 1)) := by
 unfold dueTo
 rw [List.range_succ, List.flatMap_append]
 simp
def dprs (n : Nat) : List (Nat × Nat) := (List.range (n - 1)).flatMap fun k => (List.range n).map fun i => (i, (i + (k + 1)) % n)
theorem ZbN : ∀ n < 13, (dprs n).isPerm (prs n) = true := by decide +kernel
theorem ZdQ : ∀ n < 13, ∀ k < n, ∀ i < n, 1 ≤ k → ((((i + k) % n : Nat) : Int) - (i : Int)) % (n : Int) = (k : Int) := by decide +kernel
theorem ZcK {ns : List Int} (h : ns.length ≤ 12) : (dueTo ns (ns.length - 1)).Perm (rsL ns) := by
 rw [ZbZ]
 have e : dueTo ns (ns.length - 1) = (dprs ns.length).map (rsP ns) := by
  unfold dueTo dprs
  rw [List.map_flatMap, List.flatMap_def, List.flatMap_def]
  congr 1
  refine List.map_congr_left fun k hk => ?_
  rw [List.mem_range] at hk
  rw [List.map_map]
  refine List.map_congr_left fun i hi => ?_
  rw [List.mem_range] at hi
  show dueK ns (k + 1) i = rsP ns (i, (i + (k + 1)) % ns.length)
  unfold dueK rsP
  rw [ZdQ ns.length (by omega) (k + 1) (by omega) i hi (by omega)]
 rw [e]
 exact (List.isPerm_iff.mp (ZbN ns.length (by omega))).map _
theorem Zcv {ns : List Int} {i : Nat} (h : i < ns.length) : atI (ns.map V.int) (i : Int) = some (.int (ns.getD i 0)) := by
 refine YV ?_
 rw [List.getElem?_map, List.getElem?_eq_getElem h, List.getD_eq_getElem?_getD, List.getElem?_eq_getElem h]
 rfl
section
variable {P : Program} {w : World} {K : PySem.W.Frag} {mg : Str → Option Value} {base : Heap}
abbrev sDue : Stmt := top 39
def spDue : Sp := fun vs H Q _ => ∃ (l : Addr) (ns : List Int), vs = [.ref l] ∧ H l = some (.tup (ns.map V.int)) ∧ 1 ≤ ns.length ∧ ns.length ≤ 12 ∧ ∀ (q : Addr) (H' : Hp) (ts : List V) (ks : List (List Int)), Same H H' → H q = none → H' q = some (.lst ts) → Paired (TpAt H') ts ks → ks.Perm (rsL ns) → ks.Pairwise (fun a b => lexB b a = false) → Q (.ref q) H'
abbrev nDue : List Str := ["_law_lay", "_law_many", "_law_found", "_law_on"]
theorem scDue : FnScope nDue ["_law_lay"] (defScope sDue) := ⟨rfl, rfl, rfl, by decide +kernel, rfl, by decide +kernel, by decide +kernel⟩
theorem ZdX {f : Addr} {fd : FuncData} (F : Fun K "_law_due" "_law_due" sDue f fd) (G : Gs mg) : FnOk P w K mg base CX0 1 f fd ["_law_lay"] spDue := by
 refine F.ok scDue (fun vs H Q E h => ?_) (fun cdv A outer s H vs Q E hr h => ?_)
 ·obtain ⟨l, ns, rfl, _⟩ := h
  rfl
 ·obtain ⟨l, ns, rfl, hl, n1, n12, q⟩ := h
  refine ⟨_, Zg (Zz (i := 1) scDue.nd rfl (Or.inr rfl) (Zj Zp rfl G.len boot_len (Za (pv 0) Zb)))
   (Zg (Zz (i := 2) scDue.nd rfl (Or.inl rfl) (ZI Zb))
   (Zg (JN PassesOwn.never rfl (Zbq rfl G.range (Za Zf (Za (pv 1) Zb))) (ZV (i := 3) scDue.nd rfl (Or.inr rfl))
    (Zn (Ye (JR PySem.F.plainAttrs_list PySem.F.slot_list_extend PySem.F.type_list_extend ZbA (pv 2) (Za
     (YO ["_law_line", "_law_lay", "_law_many", "_law_on"] 1 [0, 1, 3] (Yp rfl G.range (Za (pv 1) Zb)) (fun C s H fp => pb 0) (fun C s H fp => Yt)
      (fun C s H fp D => Z8 rfl (Zv (Za (pv 3) (Za (Zo Yc (Zo Yx (ZP (show IxR (blk _ _ _ C s H fp) (rIxT K) from Y4) (pv 1) (Zo Yc (Zo ZW (pv 0) (pv 3)) (pv 2)) (fun _ _ => rfl)) (ZP (show IxR (blk _ _ _ C s H fp) (rIxT K) from Y4) (pv 1) (pv 0) (fun _ _ => rfl))) (Zo ZW (pv 2) Zf)) Zb))))) Zb)))))
   (Zn (ZF (Zj Jk rfl G.sorted boot_sorted (Za (pv 2) Zb)))))), ?_⟩
  have ll : ((ns.map V.int).length : Int) = (ns.length : Int) := by rw [List.length_map]
  refine Zq (ZA ⟨_, rfl, l, _, rfl, .inr (SqT.of hl), Zr ?_⟩)
  dsimp only [List.set]
  rw [ll]
  refine Zq (ZA ⟨by show 0 ≤ sizeLine; decide, fun L hL => Zr ?_⟩)
  dsimp only [List.set]
  have sL := Ze (o := .lst []) hL
  have eL : upd H L (.lst []) L = some (.lst []) := Zc
  generalize upd H L (HO.lst []) = H1 at sL eL
  refine Zq ⟨_, rfl, 1, (ns.length : Int), rfl, ⟨by decide, by decide, by omega, by omega⟩, ?_⟩
  refine YS (fun i σ H4 => ∃ zs v3, σ = [some (.ref l), some (.int (ns.length : Int)), some (.ref L), v3] ∧ Same H H4 ∧ H4 L = some (.lst zs) ∧ Paired (TpAt H4) zs (dueTo ns i) ∧ zs.length ≤ i * 12) ⟨_, _, rfl, sL, eL, .nil, Nat.zero_le _⟩ ?_ ?_
  ·rintro i σ H4 hi ⟨zs, v3, rfl, s4, eL4, pr4, hl4⟩
   refine Zr ?_
   dsimp only [List.set]
   have e1 : (1 : Int) + (i : Int) = ((i + 1 : Nat) : Int) := by omega
   rw [e1]
   refine ⟨_, rfl, .inl ⟨rfl, _, SqL.of eL4⟩, ?_⟩
   refine ⟨_, rfl, _, rfl, by omega, by omega, ?_⟩
   have es := Zaq ns i
   refine JZ (fun j ys σ H7 => ∃ v, σ = [v, some (.ref l), some (.int (ns.length : Int)), some (.int ((i + 1 : Nat) : Int))] ∧ Same H4 H7 ∧ Paired (TpAt H7) ys ((List.range j).map (dueK ns (i + 1))) ∧ ys.length ≤ j) ⟨_, rfl, Same.refl _, .nil, Nat.zero_le _⟩ ?_ ?_
   ·rintro j ys σ H7 hj ⟨v0, rfl, s7, pr7, hl7⟩
    have hj' : j < ns.length := by omega
    rw [Int.zero_add]
    refine Zr ?_
    dsimp only [List.set]
    try unfold tTrue
    refine iteT ?_
    have hl7' := SqT.of (K := K) ((s4.trans s7) _ _ hl)
    have em : ((j : Int) + ((i + 1 : Nat) : Int)) % (ns.length : Int) = (((j + (i + 1)) % ns.length : Nat) : Int) := rfl
    have hm : (j + (i + 1)) % ns.length < ns.length := Nat.mod_lt _ (by omega)
    refine ⟨_, rfl, _, rfl, _, rfl, _, rfl, _, _, rfl, rfl, _, rfl, _, _, rfl, rfl, by omega, l, _, _, _, rfl, rfl, hl7', by rw [em]; exact Zcv hm, _, rfl, _, rfl, l, _, (j : Int), _, rfl, rfl, hl7', Zcv hj', _, _, rfl, rfl, _, rfl, _, _, rfl, rfl, _, _, rfl, rfl, by omega, (by show 2 ≤ sizeLine; decide), fun t8 ht8 => ⟨by rw [sizeLine_eq]; omega, ?_⟩⟩
    have s8 := Ze (o := .tup [.int ((i + 1 : Nat) : Int), .int ((ns.getD ((j + (i + 1)) % ns.length) 0 - ns.getD j 0) % ((ns.length : Int) + 1))]) ht8
    refine ⟨_, rfl, s7.trans s8, ?_, by rw [List.length_append]; simp; omega⟩
    rw [List.range_succ, List.map_append]
    exact Paired.snoc (Paired.mapP pr7 fun v q' hq => hq.same s8) ⟨t8, rfl, Zc⟩
   ·rintro ys σ H7 ⟨v0, rfl, s7, pr7, hl7⟩ p8 hp8
    rw [Int.toNat_natCast] at pr7 hl7
    have s8 := Ze (o := .lst ys) hp8
    have e8 : upd H7 p8 (.lst ys) p8 = some (.lst ys) := Zc
    generalize upd H7 p8 (HO.lst ys) = H8 at s8 e8
    have s48 := s7.trans s8
    have eL8 := s48 _ _ eL4
    refine ⟨L, p8, zs, ys, rfl, rfl, eL8, e8, by rw [sizeLine_eq]; omega, ?_⟩
    refine ⟨_, _, rfl, Jo (s4.trans s48) hL, Zc, ?_, by rw [List.length_append]; omega⟩
    rw [es]
    exact JU (Paired.mapP pr4 fun v q' hq => Ul eL8 (hq.same s48)) (Paired.mapP pr7 fun v q' hq => Ul eL8 (hq.same s8))
  ·rintro σ H4 ⟨zs, v3, rfl, s4, eL4, pr4, hl4⟩
   have en : ((ns.length : Int) - 1).toNat = ns.length - 1 := by omega
   rw [en] at pr4 hl4
   refine ⟨_, rfl, L, zs, _, rfl, SqL.of eL4, pr4, fun k hk => ?_, by omega, fun q2 ts ks hq2 pm so pr5 => ?_⟩
   ·obtain ⟨a, _, hk⟩ := List.mem_flatMap.mp hk
    obtain ⟨b, _, rfl⟩ := List.mem_map.mp hk
    exact List.cons_ne_nil _ _
   ·have s5 := Ze (o := .lst ts) hq2
    exact q q2 _ ts ks (s4.trans s5) (s4.free hq2) Zc (Paired.mapP pr5 fun v q' hq => hq.same s5) (pm.trans (ZcK n12)) so
end
end U
set_option Elab.async false
set_option linter.all false
set_option maxRecDepth 100000
set_option maxHeartbeats 4000000
namespace U
open PySem L2 PyProof.Rows PyProof.Rows.Tim
theorem Zbk {ks ks' : List (List Int)} (h : ks.Pairwise (fun a b => lexB b a = false)) (h' : ks'.Pairwise (fun a b => lexB b a = false)) (p : ks.Perm ks') : ks = ks' :=
 List.Perm.eq_of_pairwise (le := fun a b => lexB b a = false) (fun a b _ _ h1 h2 => ZaQ _ _ h2 h1) h h' p
theorem Jw {α : Type} {R : α → α → Prop} : ∀ {xs : List α}, (∀ x ∈ xs, R x x) → Paired R xs xs
 | [], _ => .nil
 | _ :: _, h => .cons (h _ List.mem_cons_self) (Jw fun x hx => h x (List.mem_cons_of_mem _ hx))
theorem ZdI {ns : List Int} {k : List Int} (h : k ∈ rsL ns) : k.length = 2 := by
 rw [ZbZ] at h
 obtain ⟨p, _, rfl⟩ := List.mem_map.mp h
 rfl
theorem WE {H : Hp} : ∀ {ts ts' : List V} {ks : List (List Int)}, Paired (TpAt H) ts ks → Paired (TpAt H) ts' ks → (∀ k ∈ ks, k.length = 2) → Paired (RTu R0 H) ts ts'
 | _, _, _, .nil, .nil, _ => .nil
 | _, _, _, .cons ⟨a, ea, ha⟩ t, .cons ⟨b, eb, hb⟩ t', h => by
  refine .cons ⟨a, b, _, _, ea, eb, ha, hb, ?_, ?_⟩ (WE t t' fun k hk => h k (List.mem_cons_of_mem _ hk))
  ·refine Jw fun x hx => ?_
   obtain ⟨i, _, rfl⟩ := List.mem_map.mp hx
   exact ⟨i, rfl, rfl⟩
  ·rw [List.length_map, h _ List.mem_cons_self]
   decide
section
variable {P : Program} {w : World} {K : PySem.W.Frag} {mg : Str → Option Value} {base : Heap}
abbrev sRi : Stmt := top 40
def spRi : Sp := fun vs H Q _ => ∃ (l : Addr) (ns : List Int), vs = [.ref l] ∧ H l = some (.tup (ns.map V.int)) ∧ 1 ≤ ns.length ∧ ns.length ≤ 12 ∧ ns.Perm (frTo 0 ns.length) ∧ ∀ (H' : Hp), Same H H' → Q (.bl true) H'
abbrev nRi : List Str := ["_law_lay", "_law_board", "_law_due_here", "_law_turn", "_law_found"]
theorem scRi : FnScope nRi ["_law_lay"] (defScope sRi) := ⟨rfl, rfl, rfl, by decide +kernel, rfl, by decide +kernel, by decide +kernel⟩
theorem Zeh {f : Addr} {fd : FuncData} (F : Fun K "_law_right" "_law_right" sRi f fd) (G : Gs mg) (Ddu : Def P w K mg base 1 "_law_due" ["_law_lay"] spDue) (Drs : Def P w K mg base 8 "round_steps" ["board", "lay"] spRS) (Dir : Def P w K mg base 9 "is_round" ["board", "lay"] spIR)
  (Dsl : Def P w K mg base 3 "_law_same" ["_law_found", "_law_due_here"] (spSame (RLi (RTu R0)))) (Dsb : Def P w K mg base 1 "_law_same" ["_law_found", "_law_due_here"] (spSame RBl)) : FnOk P w K mg base CX0 10 f fd ["_law_lay"] spRi := by
 refine F.ok scRi (fun vs H Q E h => ?_) (fun cdv A outer s H vs Q E hr h => ?_)
 ·obtain ⟨l, ns, rfl, _⟩ := h
  rfl
 ·obtain ⟨l, ns, rfl, hl, n1, n12, pm, q⟩ := h
  have hu : (cxOf CX0 P w K mg base nRi "_law_right" (defScope sRi) f cdv A outer s H E).nox.A.units + 4 < cLine := Nat.lt_of_le_of_lt (Nat.add_le_add_left (by decide : 4 ≤ 64) _) hr.units
  refine ⟨_, Zg (Zad (i := 1) (j := 2) rfl scRi.nd rfl rfl (by decide) rfl rfl (Za (Zv (Za (Zj Zp rfl G.len boot_len (Za (pv 0) Zb)) (Za (Zj Zp rfl G.len boot_len (Za (pv 0) Zb)) Zb))) (Za (Zl Ddu (hr.mono (by decide)) (Za (pv 0) Zb)) Zb)) rfl)
   (Zg (JN PassesOwn.never rfl (Yp rfl G.range (Za Zf Zb)) (ZV (i := 3) scRi.nd rfl (Or.inl rfl))
    (Zg (Zz (i := 4) scRi.nd rfl (Or.inl rfl) (Zl Drs (hr.mono (by decide)) (Za (pv 1) (Za (pv 0) Zb))))
    (Zg (ZM (Ya (ZT (Zl Dsl (hr.mono (by decide)) (Za (pv 4) (Za (pv 2) Zb))))) Zt Zy)
    (Zg (Ye (JR PySem.F.plainAttrs_list PySem.F.slot_list_append PySem.F.type_list_append Jt (pv 4) (Za (Zv Zb) Zb)))
    (Zn (Ye (ZdO PySem.F.plainAttrs_list PySem.F.slot_list_reverse PySem.F.type_list_reverse Zaj (pv 4))))))))
   (Zn (ZF (Zl Dsb (hr.mono (by decide)) (Za (Zl Dir hr (Za (pv 1) (Za (pv 0) Zb))) (Za (ZL Yr (WD rfl hu rfl G.len rfl G.set (pv 2)) (Zj Zp rfl G.len boot_len (Za (pv 2) Zb)) (nomark _)) Zb)))))), ?_⟩
  have ll : ((ns.map V.int).length : Int) = (ns.length : Int) := by rw [List.length_map]
  obtain ⟨fu, _⟩ := ZaZ (ns := ns) (n := (ns.length : Int)) (by omega) (by rw [Int.toNat_natCast]; exact pm)
  refine Zq ⟨_, rfl, l, _, rfl, .inr (SqT.of hl), _, rfl, l, _, rfl, .inr (SqT.of hl), (by show 2 ≤ sizeLine; decide), fun b hb => ?_⟩
  rw [ll]
  have s1 := Ze (o := .tup [.int (ns.length : Int), .int (ns.length : Int)]) hb
  have e1 : upd H b (.tup [.int (ns.length : Int), .int (ns.length : Int)]) b = some (.tup [.int (ns.length : Int), .int (ns.length : Int)]) := Zc
  generalize upd H b (HO.tup [.int (ns.length : Int), .int (ns.length : Int)]) = H1 at s1 e1
  refine ⟨_, rfl, l, ns, rfl, s1 _ _ hl, n1, n12, fun d H2 ts ks s2 nd ed pr pk so => ⟨_, _, rfl, ?_⟩⟩
  dsimp only [List.set]
  have s02 := s1.trans s2
  have eb := s2 _ _ e1
  have hl2 := s02 _ _ hl
  have two : ∀ k ∈ ks, k.length = 2 := fun k hk => ZdI (pk.mem_iff.mp hk)
  have fa : ∀ {H' : Hp}, Same H2 H' → FullAt H' (.ref b) l ns (ns.length : Int) := fun s' => ⟨⟨Zm (s' _ _ eb), by omega, by omega, by omega, by omega⟩, s' _ _ hl2, rfl, fu⟩
  have lks : ks.length ≤ 144 := by
   have h1 := pk.length_eq
   have h2 := Zaz ns
   have h3 := Nat.mul_le_mul n12 n12
   omega
  have lts := Paired.length pr
  refine Zq ⟨2, rfl, by decide, by decide, ?_⟩
  refine YS (fun i σ H' => ∃ v3 v4, σ = [some (.ref l), some (.ref b), some (.ref d), v3, v4] ∧ Same H2 H') ⟨_, _, rfl, Same.refl _⟩ ?_ ?_
  ·rintro i σ H3 hi ⟨v3, v4, rfl, s3⟩
   rw [Int.zero_add]
   refine Zr ?_
   dsimp only [List.set]
   refine Zq (ZA ⟨_, rfl, _, rfl, .ref b, l, ns, _, rfl, fa s3, fun g H4 ts' ks' s4 ng eg pr' pk' so' => Zr ?_⟩)
   dsimp only [List.set]
   have ek : ks' = ks := Zbk so' so (pk'.trans pk.symm)
   subst ek
   have s24 := s3.trans s4
   have lts' := Paired.length pr'
   refine Zq ⟨_, rfl, _, rfl, .ref g, .ref d, rfl, ⟨g, d, ts', ts, rfl, rfl, eg, s24 _ _ ed, WE pr' (Paired.mapP pr fun v q' hq => hq.same s24) two, by omega⟩, fun H5 s5 => ⟨true, rfl, iteF (Z0 ?_)⟩⟩
   dsimp only
   have ng2 : H2 g = none := s3.free ng
   have eg5 := s5 _ _ eg
   refine Zq ⟨_, rfl, .inl ⟨rfl, _, SqL.of eg5⟩, Nat.zero_le _, fun t ht => ?_⟩
   have s6 := Ze (o := .tup []) ht
   generalize upd H5 t (HO.tup []) = H6 at s6
   refine ⟨g, ts', .ref t, rfl, rfl, s6 _ _ eg5, by rw [sizeLine_eq]; omega, Z0 ?_⟩
   dsimp only
   have s26 : Same H2 (upd H6 g (.lst (ts' ++ [.ref t]))) := Jo (s24.trans (s5.trans s6)) ng2
   have e26 : upd H6 g (.lst (ts' ++ [.ref t])) g = some (.lst (ts' ++ [.ref t])) := Zc
   generalize upd H6 g (HO.lst (ts' ++ [.ref t])) = H7 at s26 e26
   refine ⟨_, rfl, .inl ⟨rfl, _, SqL.of e26⟩, g, _, rfl, rfl, e26, Z0 ?_⟩
   exact ⟨_, _, rfl, Jo s26 ng2⟩
  ·rintro σ H3 ⟨v3, v4, rfl, s3⟩
   have ed3 := s3 _ _ ed
   refine ⟨_, rfl, _, rfl, .ref b, l, ns, _, rfl, fa s3, fun H4 s4 => ⟨_, rfl, d, ts, ks, rfl, SqL.of (s4 _ _ ed3), Paired.mapP pr fun v q' hq => hq.same (s3.trans s4), by omega, _, rfl, d, ts, rfl, .inl (SqL.of (s4 _ _ ed3)), rfl, ?_⟩⟩
   have z : decide (V.int (lenS ks : Int) = V.int (ts.length : Int)) = decide (rsL ns).Nodup := by
    rw [decide_eq_decide, lts, ← pk.nodup_iff, ← ZaR]
    constructor
    ·intro h
     injection h with h
     omega
    ·intro h
     rw [h]
   rw [z]
   exact ⟨_, _, rfl, ⟨_, rfl, rfl⟩, fun H5 s5 => q H5 (s02.trans (s3.trans (s4.trans s5)))⟩
end
end U
set_option Elab.async false
set_option linter.all false
set_option maxRecDepth 100000
set_option maxHeartbeats 4000000
namespace L2
open PySem PySem.Spec PyProof.Rows SeqAt
section
variable {X : Cx}
theorem Zc9 (hu : X.A.units + 1 < cLine) : OpR X (compareOp .NotEq) (fun x y H Q => ∃ (a b : Addr) (xs : List Str), x = .ref a ∧ y = .ref b ∧ SqL X.K H a (xs.map V.str) ∧ SqL X.K H b (xs.map V.str) ∧ Q (.bl false) H) := by
 intro pins s σ H x y u v Q I rx ry h
 obtain ⟨a, b, xs, rfl, rfl, ha, hb, q⟩ := h
 cases rx
 cases ry
 obtain ⟨us, r1, p1, _⟩ := I.list ha
 obtain ⟨vs, r2, p2, _⟩ := I.list hb
 have l1 := r1.length
 have l2 := r2.length
 rw [List.length_map] at l1 l2
 refine RcNeAt.lists (e := fun _ => true) p1.isList p2.isList (by simp; omega) (Nat.lt_of_succ_lt hu) (fun j h1 h2 => ?_) _ _ _ _ ?_
 ·have hj : j < xs.length := by simp at h1; omega
  have e : (xs.map V.str)[j]? = some (V.str xs[j]) := by simp [hj]
  obtain ⟨u, hu', ru⟩ := r1.get e
  obtain ⟨v, hv', rv⟩ := r2.get e
  have e1 : us.toArray[j] = u := by simpa using (List.getElem?_eq_some_iff.mp hu').2
  have e2 : vs.toArray[j] = v := by simpa using (List.getElem?_eq_some_iff.mp hv').2
  rw [e1, e2]
  obtain ⟨t1, rfl⟩ := ru
  obtain ⟨t2, rfl⟩ := rv
  have y := EqAt.str_str (A := X.A.in1) (s := s) xs[j] t1 xs[j] t2
  simpa using y
 ·have e : (List.range us.toArray.size).all (fun _ => true) = true := by simp
  rw [e]
  exact ⟨.bl false, H, I, rfl, q⟩
end
end L2
namespace U
open PySem L2 PyProof.Rows PyProof.Rows.Tim
theorem JC {K : PySem.W.Frag} {H : Hp} {P : Addr} {ps : Array Value} {v : V} (t : PlT K H v) (h : H P = some (.tbl ps)) : v ≠ .ref P := fun z => by
 obtain ⟨T, ty⟩ := t
 subst z
 cases ty with
 | lst e => rw [h] at e; cases e
 | frz e => rw [h] at e; cases e
 | tup e => rw [h] at e; cases e
 | dK e => rw [h] at e; cases e
 | dT e => rw [h] at e; cases e
theorem Zdr {H H' : Hp} {P p : Addr} {q : Str} {o : HO} (h : TabAt H P q) (s : SameX p H H') (hp : H p = some o) (h1 : ∀ ps, o ≠ .tbl ps) (h2 : ∀ c, o ≠ codeO c q) : TabAt H' P q := by
 obtain ⟨ps, e, t, f⟩ := h
 refine ⟨ps, s _ _ e fun z => by rw [z, hp] at e; cases e; exact h1 _ rfl, t, fun pos cv z => ?_⟩
 obtain ⟨d, e1, e2⟩ := f pos cv z
 exact ⟨d, e1, s _ _ e2 fun z => by rw [z, hp] at e2; cases e2; exact h2 _ rfl⟩
theorem Wk {K : PySem.W.Frag} {H H' : Hp} {p : Addr} {v : V} (b : BadBoard K H v) (s : SameX p H H') (n : NoRef p H v) : BadBoard K H' v := ⟨ZaF b.1 s n, by rw [YL b.1.1 s n.1]; exact b.2⟩
theorem Js {K : PySem.W.Frag} {H : Hp} {Pt : Addr} {ps : Array Value} {v : V} (t : Pl1 K H v) (h : H Pt = some (.tbl ps)) : NoRef Pt H v := ⟨JC t.1 h, fun xs e y hy => JC (t.2 xs e y hy) h⟩
theorem BoardAt.x {H H' : Hp} {p : Addr} {x : V} {wd hg : Int} (b : BoardAt H x wd hg) (s : SameX p H H') (hn : x ≠ .ref p) : BoardAt H' x wd hg := by
 obtain ⟨a, e, h⟩ := ZH b.1
 subst e
 exact ⟨Zm (s _ _ h fun z => hn (by rw [z])), b.2⟩
theorem BoardAt.tbl {H : Hp} {Pt : Addr} {ps : Array Value} {x : V} {wd hg : Int} (b : BoardAt H x wd hg) (h : H Pt = some (.tbl ps)) : x ≠ .ref Pt := by
 obtain ⟨a, e, h'⟩ := ZH b.1
 subst e
 intro z
 cases z
 rw [h] at h'
 cases h'
def NoFullAt (K : PySem.W.Frag) (n : Int) (H : Hp) (y : V) : Prop := Pl1 K H y ∧ isFullV n n (tupOf H y) = false
theorem NoFullAt.same {K : PySem.W.Frag} {n : Int} {H H' : Hp} {y : V} (b : NoFullAt K n H y) (s : Same H H') : NoFullAt K n H' y := ⟨b.1.same s, by rw [Z3 b.1.1 s]; exact b.2⟩
theorem NoFullAt.x {K : PySem.W.Frag} {n : Int} {Pt : Addr} {H H' : Hp} {y : V} {ps : Array Value} (b : NoFullAt K n H y) (s : SameX Pt H H') (hp : H Pt = some (.tbl ps)) : NoFullAt K n H' y :=
 ⟨ZaF b.1 s (Js b.1 hp), by rw [YL b.1.1 s (JC b.1.1 hp)]; exact b.2⟩
abbrev noA : Arguments := { posonlyargs := [], args := [], vararg := none, kwonlyargs := [], kw_defaults := [], kwarg := none, defaults := [] }
abbrev sc3 (a b c : Str) : Scope := { kind := .function, names := [(a, .free), (b, .free), (c, .free)], isGenerator := false, isCoroutine := false }
abbrev sc1 (a : Str) : Scope := { kind := .function, names := [(a, .globalImplicit)], isGenerator := false, isCoroutine := false }
def cV (x y : Str) (p1 p2 p3 p4 : Pos) : Expr := .Call (.Name "_law_call" p1) [.Name x p2, .Name y p3] [] p4
def cW (p1 p2 p3 p4 p5 p6 : Pos) : Expr := .Call (.Name "_law_call" p1) [.Tuple [.Name "_law_many" p2, .Name "_law_many" p3] 0 p4, .Name "_law_bad" p5] [] p6
theorem lsc1 {p1 p2 p3 p4 : Pos} : LScopeN noA (cV "_law_none" "_law_bad" p1 p2 p3 p4) (sc3 "_law_bad" "_law_call" "_law_none") ["_law_call", "_law_none", "_law_bad"] := ⟨rfl, rfl, rfl, by decide, by decide, by decide, fun _ _ _ _ _ => rfl⟩
theorem lsc2 {p1 p2 p3 p4 p5 p6 : Pos} : LScopeN noA (cW p1 p2 p3 p4 p5 p6) (sc3 "_law_bad" "_law_call" "_law_many") ["_law_call", "_law_many", "_law_bad"] := ⟨rfl, rfl, rfl, by decide, by decide, by decide, fun _ _ _ _ _ => rfl⟩
theorem lsc3 {p1 p2 p3 p4 : Pos} : LScopeN noA (cV "_law_other" "_law_lay" p1 p2 p3 p4) (sc3 "_law_call" "_law_lay" "_law_other") ["_law_call", "_law_other", "_law_lay"] := ⟨rfl, rfl, rfl, by decide, by decide, by decide, fun _ _ _ _ _ => rfl⟩
section
variable {X : Cx} {aB aL gS gI : Addr}
def PreV (K : PySem.W.Frag) (aB aL gS gI C : Addr) (ws : List V) (H : Hp) : Prop := ∃ g vx vy, ws = [.ref g, vx, vy] ∧ (g = gS ∨ g = gI) ∧ BadF K aB aL H vx vy C
theorem bodyV {x y : Str} {scope : Scope} {C f : Addr} {q : Str} {cl : List (Str × Addr)} {ws : List V} {p1 p2 p3 p4 : Pos} (hS : ∀ b', DefR X.prog X.w X.K X.mg b' 8 "round_steps" ["board", "lay"] (spNFx X.K aB aL)) (hI : ∀ b', DefR X.prog X.w X.K X.mg b' 9 "is_round" ["board", "lay"] (spNFx X.K aB aL)) (mS : X.mg "round_steps" = some (.ref gS)) (mI : X.mg "is_round" = some (.ref gI))
  (kc : scope.names.lookup ("_law_call" : Str) = some .free) (kx : scope.names.lookup x = some .free) (ky : scope.names.lookup y = some .free) (dx : (x == ("__debug__" : Str)) = false) (dy : (y == ("__debug__" : Str)) = false)
  (ex : (x == ("__classdict__" : Str)) = false) (ey : (y == ("__classdict__" : Str)) = false) :
  BodyN X 9 C f q (cV x y p1 p2 p3 p4) scope cl ["_law_call", x, y] ws (PreV X.K aB aL gS gI C ws) := by
 intro base' cc A outer s2 H2 Q2 E2 hr pre hE
 obtain ⟨g, vx, vy, rfl, hg0, pre⟩ := pre
 have fin : ∀ {k' : Nat} {fn : Str}, k' ≤ 9 → (∀ b', DefR X.prog X.w X.K X.mg b' k' fn ["board", "lay"] (spNFx X.K aB aL)) → X.mg fn = some (.ref g) → ∃ t, PE (cxL X.prog X.w X.K X.mg base' ["_law_call", x, y] q scope f (.ref cc) cl A outer s2 H2 E2) (cV x y p1 p2 p3 p4) t ∧ t ([V.ref g, vx, vy].map some) H2 Q2 := by
  intro k' fn hk' hU mg
  obtain ⟨g', fd, F, hg, hk, hb⟩ := hU base'
  rw [mg] at hg
  cases hg
  refine ⟨_, JQ (X := cxL X.prog X.w X.K X.mg base' ["_law_call", x, y] q scope f (.ref cc) cl A outer s2 H2 E2) (i := 0) F (hr.mono hk') (Yu (i := 0) rfl (.inr (.inr kc)) (by decide) (by decide)) hk hb .nil (E := E2) (passR' (X := cxL X.prog X.w X.K X.mg base' ["_law_call", x, y] q scope f (.ref cc) cl A outer s2 H2 E2) (fun e s' z => z) rfl rfl rfl)
   (Za (Yu (i := 1) rfl (.inr (.inr kx)) dx ex) (Za (Yu (i := 2) rfl (.inr (.inr ky)) dy ey) Zb)), ?_⟩
  exact ⟨rfl, vx, rfl, vy, rfl, vx, vy, C, rfl, pre, hE⟩
 rcases hg0 with rfl | rfl
 ·exact fin (by decide) hS mS
 ·exact fin (by decide) hI mI
def PreW (K : PySem.W.Frag) (gS gI : Addr) (ws : List V) (H : Hp) : Prop := ∃ g n vy, ws = [.ref g, .int n, vy] ∧ (g = gS ∨ g = gI) ∧ 1 ≤ n ∧ n ≤ 12 ∧ NoFullAt K n H vy
theorem bodyW {f : Addr} {q : Str} {cl : List (Str × Addr)} {ws : List V} {p1 p2 p3 p4 p5 p6 : Pos} (hS : ∀ b', DefR X.prog X.w X.K X.mg b' 8 "round_steps" ["board", "lay"] (spNFx X.K aB aL)) (hI : ∀ b', DefR X.prog X.w X.K X.mg b' 9 "is_round" ["board", "lay"] (spNFx X.K aB aL)) (mS : X.mg "round_steps" = some (.ref gS)) (mI : X.mg "is_round" = some (.ref gI)) :
  BodyN X 9 aL f q (cW p1 p2 p3 p4 p5 p6) (sc3 "_law_bad" "_law_call" "_law_many") cl ["_law_call", "_law_many", "_law_bad"] ws (PreW X.K gS gI ws) := by
 intro base' cc A outer s2 H2 Q2 E2 hr pre hE
 obtain ⟨g, n, vy, rfl, hg0, n1, n12, pre⟩ := pre
 have fin : ∀ {k' : Nat} {fn : Str}, k' ≤ 9 → (∀ b', DefR X.prog X.w X.K X.mg b' k' fn ["board", "lay"] (spNFx X.K aB aL)) → X.mg fn = some (.ref g) → ∃ t, PE (cxL X.prog X.w X.K X.mg base' ["_law_call", "_law_many", "_law_bad"] q (sc3 "_law_bad" "_law_call" "_law_many") f (.ref cc) cl A outer s2 H2 E2) (cW p1 p2 p3 p4 p5 p6) t ∧ t ([V.ref g, V.int n, vy].map some) H2 Q2 := by
  intro k' fn hk' hU mg
  obtain ⟨g', fd, F, hg, hk, hb⟩ := hU base'
  rw [mg] at hg
  cases hg
  refine ⟨_, JQ (X := cxL X.prog X.w X.K X.mg base' ["_law_call", "_law_many", "_law_bad"] q (sc3 "_law_bad" "_law_call" "_law_many") f (.ref cc) cl A outer s2 H2 E2) (i := 0) F (hr.mono hk') (Yu (i := 0) rfl (.inr (.inr rfl)) (by decide) (by decide)) hk hb .nil (E := E2) (passR' (X := cxL X.prog X.w X.K X.mg base' ["_law_call", "_law_many", "_law_bad"] q (sc3 "_law_bad" "_law_call" "_law_many") f (.ref cc) cl A outer s2 H2 E2) (fun e s' z => z) rfl rfl rfl)
   (Za (Zv (Za (Yu (i := 1) rfl (.inr (.inr rfl)) (by decide) (by decide)) (Za (Yu (i := 1) rfl (.inr (.inr rfl)) (by decide) (by decide)) Zb))) (Za (Yu (i := 2) rfl (.inr (.inr rfl)) (by decide) (by decide)) Zb)), ?_⟩
  refine ⟨rfl, _, rfl, _, rfl, (by show 2 ≤ sizeLine; decide), fun t ht => ?_⟩
  have s1 := Ze (o := .tup [V.int n, V.int n]) ht
  have e1 : upd H2 t (.tup [V.int n, V.int n]) t = some (.tup [V.int n, V.int n]) := Zc
  generalize upd H2 t (HO.tup [V.int n, V.int n]) = H3 at s1 e1
  have p3 := pre.same s1
  exact ⟨vy, rfl, .ref t, vy, aL, rfl, .inr ⟨rfl, n, n, ⟨Zm e1, n1, n12, n1, n12⟩, p3.1, p3.2⟩, fun e H' s' => hE e H' (s1.trans s')⟩
 rcases hg0 with rfl | rfl
 ·exact fin (by decide) hS mS
 ·exact fin (by decide) hI mI
abbrev bdA (p1 p2 p3 p4 p5 p6 p7 p8 : Pos) : Expr := .Call (.Name "round_steps" p1) [.Tuple [.Constant (.int 2) 0 p2, .Constant (.int 2) 0 p3] 0 p4, .Tuple [.Constant (.int 0) 0 p5, .Constant (.int 0) 0 p6] 0 p7] [] p8
abbrev bdB (p1 p2 p3 p4 p5 p6 p7 p8 p9 : Pos) : Expr := .Call (.Name "is_round" p1) [.Tuple [.Constant (.int 3) 0 p2, .Constant (.int 3) 0 p3] 0 p4, .Tuple [.Constant (.int 0) 0 p5, .Constant (.int 2) 0 p6, .Constant (.int 0) 0 p7] 0 p8] [] p9
theorem lscA {p1 p2 p3 p4 p5 p6 p7 p8 : Pos} : LScope0 noA (bdA p1 p2 p3 p4 p5 p6 p7 p8) (sc1 "round_steps") := ⟨rfl, rfl, rfl, by decide, fun _ _ _ _ _ => rfl⟩
theorem lscB {p1 p2 p3 p4 p5 p6 p7 p8 p9 : Pos} : LScope0 noA (bdB p1 p2 p3 p4 p5 p6 p7 p8 p9) (sc1 "is_round") := ⟨rfl, rfl, rfl, by decide, fun _ _ _ _ _ => rfl⟩
theorem bodyA {p1 p2 p3 p4 p5 p6 p7 p8 : Pos} {q : Str} {cl : List (Str × Addr)} {f : Addr} (hU : ∀ b', DefR X.prog X.w X.K X.mg b' 8 "round_steps" ["board", "lay"] (spNFx X.K aB aL)) : Body0 X 9 aL f q (bdA p1 p2 p3 p4 p5 p6 p7 p8) (sc1 "round_steps") cl := by
 intro base' cc A outer s2 H2 Q2 E2 hr hE
 obtain ⟨g, fd, F, hg, hk, hb⟩ := hU base'
 refine ⟨_, JD (X := cxL X.prog X.w X.K X.mg base' [] q (sc1 "round_steps") f (.ref cc) cl A outer s2 H2 E2) F (hr.mono (by decide)) rfl hg hk hb .nil (E := E2) (passR' (X := cxL X.prog X.w X.K X.mg base' [] q (sc1 "round_steps") f (.ref cc) cl A outer s2 H2 E2) (fun e s' z => z) rfl rfl rfl)
   (Za (Zv (Za Zf (Za Zf Zb))) (Za (Zv (Za Zf (Za Zf Zb))) Zb)), ?_⟩
 refine ⟨(by show 2 ≤ sizeLine; decide), fun t1 h1 => ⟨(by show 2 ≤ sizeLine; decide), fun t2 h2 => ?_⟩⟩
 have s1 := Ze (o := .tup [V.int 2, V.int 2]) h1
 have e1 : upd H2 t1 (.tup [V.int 2, V.int 2]) t1 = some (.tup [V.int 2, V.int 2]) := Zc
 generalize upd H2 t1 (.tup [V.int 2, V.int 2]) = H3 at s1 e1 h2
 have s2 := Ze (o := .tup [V.int 0, V.int 0]) h2
 have e2 : upd H3 t2 (.tup [V.int 0, V.int 0]) t2 = some (.tup [V.int 0, V.int 0]) := Zc
 generalize upd H3 t2 (.tup [V.int 0, V.int 0]) = H4 at s2 e2
 refine ⟨_, _, aL, rfl, .inr ⟨rfl, 2, 2, ⟨Zm (s2 _ _ e1), by decide, by decide, by decide, by decide⟩, WZ (ns := [0, 0]) e2, ?_⟩, fun e H' s' => hE e H' (s1.trans (s2.trans s'))⟩
 rw [Zm e2]
 decide +kernel
theorem bodyB {p1 p2 p3 p4 p5 p6 p7 p8 p9 : Pos} {q : Str} {cl : List (Str × Addr)} {f : Addr} (hU : ∀ b', DefR X.prog X.w X.K X.mg b' 9 "is_round" ["board", "lay"] (spNFx X.K aB aL)) : Body0 X 9 aL f q (bdB p1 p2 p3 p4 p5 p6 p7 p8 p9) (sc1 "is_round") cl := by
 intro base' cc A outer s2 H2 Q2 E2 hr hE
 obtain ⟨g, fd, F, hg, hk, hb⟩ := hU base'
 refine ⟨_, JD (X := cxL X.prog X.w X.K X.mg base' [] q (sc1 "is_round") f (.ref cc) cl A outer s2 H2 E2) F hr rfl hg hk hb .nil (E := E2) (passR' (X := cxL X.prog X.w X.K X.mg base' [] q (sc1 "is_round") f (.ref cc) cl A outer s2 H2 E2) (fun e s' z => z) rfl rfl rfl)
   (Za (Zv (Za Zf (Za Zf Zb))) (Za (Zv (Za Zf (Za Zf (Za Zf Zb)))) Zb)), ?_⟩
 refine ⟨(by show 2 ≤ sizeLine; decide), fun t1 h1 => ⟨(by show 3 ≤ sizeLine; decide), fun t2 h2 => ?_⟩⟩
 have s1 := Ze (o := .tup [V.int 3, V.int 3]) h1
 have e1 : upd H2 t1 (.tup [V.int 3, V.int 3]) t1 = some (.tup [V.int 3, V.int 3]) := Zc
 generalize upd H2 t1 (.tup [V.int 3, V.int 3]) = H3 at s1 e1 h2
 have s2 := Ze (o := .tup [V.int 0, V.int 2, V.int 0]) h2
 have e2 : upd H3 t2 (.tup [V.int 0, V.int 2, V.int 0]) t2 = some (.tup [V.int 0, V.int 2, V.int 0]) := Zc
 generalize upd H3 t2 (.tup [V.int 0, V.int 2, V.int 0]) = H4 at s2 e2
 refine ⟨_, _, aL, rfl, .inr ⟨rfl, 3, 3, ⟨Zm (s2 _ _ e1), by decide, by decide, by decide, by decide⟩, WZ (ns := [0, 2, 0]) e2, ?_⟩, fun e H' s' => hE e H' (s1.trans (s2.trans s'))⟩
 rw [Zm e2]
 decide +kernel
end
end U
set_option Elab.async false
set_option linter.all false
set_option maxRecDepth 100000
set_option maxHeartbeats 40000000
namespace U
open PySem L2 PyProof.Rows PyProof.Rows.Tim
def lfOk (so si : Scope) : Bool := si.names.all fun z => z.2 != .free || so.names.lookup z.1 == some .cell || so.names.lookup z.1 == some .free
theorem UI {X : Cx} {scope : Scope} (h : lfOk X.env.scope scope = true) : ∀ z ∈ scope.names, z.2 = .free → X.env.kindOf z.1 = some .cell ∨ X.env.kindOf z.1 = some .free := fun z hz e => by
 have := List.all_eq_true.mp h z hz
 simp only [Bool.or_eq_true, bne_iff_ne, ne_eq, beq_iff_eq] at this
 rcases this with (h | h) | h
 ·exact absurd e h
 ·exact .inl h
 ·exact .inr h
theorem places3 {σ : L2.St} {i j l : Nat} {a b c : V} (h1 : σ[i]? = some (some a)) (h2 : σ[j]? = some (some b)) (h3 : σ[l]? = some (some c)) : ∀ (k i' : Nat) v, [i, j, l][k]? = some i' → [a, b, c][k]? = some v → σ[i']? = some (some v) := fun k i' v e1 e2 => by
 match k, e1, e2 with
 | 0, e1, e2 => cases e1; cases e2; exact h1
 | 1, e1, e2 => cases e1; cases e2; exact h2
 | 2, e1, e2 => cases e1; cases e2; exact h3
 | k + 3, e1, e2 => simp at e1
theorem lns3 {X : Cx} {x y z : Str} {i j l : Nat} (h1 : LN X x i) (h2 : LN X y j) (h3 : LN X z l) : ∀ (k : Nat) u m, [x, y, z][k]? = some u → [i, j, l][k]? = some m → LN X u m := fun k u m e1 e2 => by
 match k, e1, e2 with
 | 0, e1, e2 => cases e1; cases e2; exact h1
 | 1, e1, e2 => cases e1; cases e2; exact h2
 | 2, e1, e2 => cases e1; cases e2; exact h3
 | k + 3, e1, e2 => simp at e1
structure HeldAt (K : PySem.W.Frag) (Pt : Addr) (qn : Str) (a : Addr) (ns : List Int) (l : Addr) (ms : List Int) (n : Int) (vn vb : V) (o : Addr) (wd hg : Int) (H : Hp) : Prop where
 scr : ScrAt K H a ns
 tab : TabAt H Pt qn
 none : BadBoard K H vn
 bad : NoFullAt K n H vb
 lay : H l = some (.tup (ms.map V.int))
 oth : BoardAt H (.ref o) wd hg
section
variable {K : PySem.W.Frag} {Pt : Addr} {qn : Str} {a : Addr} {ns : List Int} {l : Addr} {ms : List Int} {n : Int} {vn vb : V} {o : Addr} {wd hg : Int} {H H' : Hp}
theorem HeldAt.same (h : HeldAt K Pt qn a ns l ms n vn vb o wd hg H) (s : Same H H') : HeldAt K Pt qn a ns l ms n vn vb o wd hg H' :=
 ⟨h.scr.same s, Z6 h.tab s, h.none.same s, h.bad.same s, s _ _ h.lay, h.oth.same s⟩
theorem HeldAt.x (h : HeldAt K Pt qn a ns l ms n vn vb o wd hg H) (s : SameX Pt H H') (t : TabAt H' Pt qn) : HeldAt K Pt qn a ns l ms n vn vb o wd hg H' := by
 obtain ⟨ps, hp, _⟩ := h.tab
 exact ⟨h.scr.x s hp (fun _ _ z => by cases z), t, Wk h.none s (Js h.none.1 hp), h.bad.x s hp, s _ _ h.lay (fun z => by have := h.lay; rw [z, hp] at this; cases this), h.oth.x s (h.oth.tbl hp)⟩
end
theorem Uu {K : PySem.W.Frag} {H : Hp} {W : Addr} {v : V} (t : PlT K H v) (h : H W = none) : v ≠ .ref W := fun z => by
 obtain ⟨T, ty⟩ := t
 subst z
 cases ty with
 | lst e => rw [h] at e; cases e
 | frz e => rw [h] at e; cases e
 | tup e => rw [h] at e; cases e
 | dK e => rw [h] at e; cases e
 | dT e => rw [h] at e; cases e
theorem Zbv {K : PySem.W.Frag} {H : Hp} {W : Addr} {v : V} (t : Pl1 K H v) (h : H W = none) : NoRef W H v := ⟨Uu t.1 h, fun xs e y hy => Uu (t.2 xs e y hy) h⟩
theorem Zah {wd hg : Int} (h : wd ≠ hg) (o : Option (List V)) : isFullV wd hg o = false := by
 unfold isFullV
 rw [decide_eq_false h]
 simp
theorem Zem : (rsL [1, 3, 2, 0]).Nodup := by decide +kernel
theorem Zel : ¬ (rsL [0, 1, 2]).Nodup := by decide +kernel
section
variable {P : Program} {w : World} {K : PySem.W.Frag} {mg : Str → Option Value} {base : Heap}
abbrev sLaw : Stmt := top 41
def spLaw (K : PySem.W.Frag) (Pt : Addr) : Sp := fun vs H Q _ => ∃ (a : Addr) (ns : List Int), vs = [.ref a] ∧ ScrAt K H a ns ∧ ns.length ≤ 63 ∧ H Pt = some (.tbl #[]) ∧ ∀ H', Q (.bl true) H'
abbrev nLaw : List Str := ["_law_script", "_law_k", "_law_state_here", "_law_words", "_law_bad", "_law_call", "_law_lay", "_law_many", "_law_none", "_law_other"]
theorem scLaw : FnScope nLaw ["_law_script"] (defScope sLaw) := ⟨rfl, rfl, rfl, by decide +kernel, rfl, by decide +kernel, by decide +kernel⟩
theorem ZdV {f c Pt fR cS aB aL gS gI : Addr} {oc : Value} {od an : Option Addr} {kV doc pm ct : Value} {osl : Array (Option Value)}
  (lk : K.lookup f = some ⟨oc, od, .func (PySem.W.fnOf "law" "law" (defArgs sLaw) (defBody sLaw) (defScope sLaw) .none kV doc pm an (.ref c) ct), osl⟩) (hcd : PySem.W.codeIn K (.ref c) "law" = true) (G : Gs mg)
  (Dst : Def P w K mg base 2 "_law_state" ["_law_script", "_law_k"] (spState K)) (Dtk : Def P w K mg base 1 "_law_take" ["_law_state_here", "_law_many"] spTake) (Dfu : Def P w K mg base 2 "_law_full" ["_law_state_here", "_law_many"] spFullL) (Dnb : Def P w K mg base 2 "_law_no_board" ["_law_state_here"] (spNoB K)) (Dnf : Def P w K mg base 2 "_law_no_full" ["_law_state_here", "_law_lay"] (spNoF K))
  (Dri : Def P w K mg base 10 "_law_right" ["_law_lay"] spRi) (Dir : Def P w K mg base 9 "is_round" ["board", "lay"] spIR)
  (hR : ∀ b', Def P w K mg b' 11 "_law_word" ["_law_call"] (spWord P w K mg b' cS 10)) (hS : ∀ b', DefR P w K mg b' 8 "round_steps" ["board", "lay"] (spNFx K aB aL)) (hI : ∀ b', DefR P w K mg b' 9 "is_round" ["board", "lay"] (spNFx K aB aL)) (mS : mg "round_steps" = some (.ref gS)) (mI : mg "is_round" = some (.ref gI)) (mR : mg "_law_word" = some (.ref fR)) (kR : PySem.W.keepIn K (.ref fR) = true)
  (MB : Mk15 K mg cS aB 0) (ML : Mk15 K mg cS aL 1) (hC : PySem.W.CodeHd base c Pt)
  (hbm : ∃ bm ob, mg "__builtins__" = some (.ref bm) ∧ bm ≠ builtinsNs ∧ base.get? bm = some ob ∧ ob.cls = .type "module" ∧ ob.dict = some builtinsNs ∧ ob.data = .plain) :
  FnOk P w K mg base CX0 12 f (PySem.W.fnOf "law" "law" (defArgs sLaw) (defBody sLaw) (defScope sLaw) .none kV doc pm an (.ref c) ct) ["_law_script"] (spLaw K Pt) := by
 refine ZcE lk hcd scLaw (fun vs H Q E h => ?_) (fun A outer s H vs Q E hr h => ?_)
 ·obtain ⟨a, ns, rfl, _⟩ := h
  rfl
 ·obtain ⟨a, ns, rfl, scr, hns, htab, q⟩ := h
  have C : LCtx (cxOf CX0 P w K mg base nLaw "law" (defScope sLaw) f (.ref c) A outer s H E).nox cS c Pt fR "is_round" 9 ["board", "lay"] (spNFx K aB aL) := ⟨⟨rfl, hC, hbm⟩, hR, hI, hr, mR, kR⟩
  have NC : LN (cxOf CX0 P w K mg base nLaw "law" (defScope sLaw) f (.ref c) A outer s H E).nox "_law_call" 5 := ⟨rfl, rfl, rfl⟩
  have NN : LN (cxOf CX0 P w K mg base nLaw "law" (defScope sLaw) f (.ref c) A outer s H E).nox "_law_none" 8 := ⟨rfl, rfl, rfl⟩
  have NB : LN (cxOf CX0 P w K mg base nLaw "law" (defScope sLaw) f (.ref c) A outer s H E).nox "_law_bad" 4 := ⟨rfl, rfl, rfl⟩
  have NL : LN (cxOf CX0 P w K mg base nLaw "law" (defScope sLaw) f (.ref c) A outer s H E).nox "_law_lay" 6 := ⟨rfl, rfl, rfl⟩
  have NM : LN (cxOf CX0 P w K mg base nLaw "law" (defScope sLaw) f (.ref c) A outer s H E).nox "_law_many" 7 := ⟨rfl, rfl, rfl⟩
  have NO : LN (cxOf CX0 P w K mg base nLaw "law" (defScope sLaw) f (.ref c) A outer s H E).nox "_law_other" 9 := ⟨rfl, rfl, rfl⟩
  have hr1 := hr.mono (show 1 ≤ 11 by decide)
  have hr2 := hr.mono (show 2 ≤ 11 by decide)
  have hr9 := hr.mono (show 9 ≤ 11 by decide)
  have hr10 := hr.mono (show 10 ≤ 11 by decide)
  have main : ∃ t, PSs (cxOf CX0 P w K mg base nLaw "law" (defScope sLaw) f (.ref c) A outer s H E).nox (defBody sLaw) t ∧ t { nx := fun _ H' => Q .non H', rt := Q } (start nLaw [.ref a]) H := by
   refine ⟨_, Zg (JN PassesOwn.never rfl (Yp rfl G.range (Za (Zj (WT rfl) rfl G.max boot_max (Za Zf (Za (Zj (ZbP rfl) rfl G.min boot_min (Za (Zj Zp rfl G.len boot_len (Za (pv 0) Zb)) (Za Zf Zb))) Zb))) Zb)) (ZV (i := 1) scLaw.nd rfl (Or.inl rfl))
     (Zg (Zz (i := 2) scLaw.nd rfl (Or.inl rfl) (Zl Dst hr2 (Za (pv 0) (Za (pv 1) Zb))))
     (Zg (Zz (i := 7) scLaw.nd rfl (Or.inr rfl) (ZP ZK (ZI (Za Zf (Za Zf (Za Zf (Za Zf (Za (Zo ZW Zf (Zl Dtk hr1 (Za (pv 2) (Za Zf Zb)))) Zb)))))) (Zl Dtk hr1 (Za (pv 2) (Za Zf Zb))) (fun _ _ => rfl)))
     (Zg (Zz (i := 6) scLaw.nd rfl (Or.inr rfl) (Zl Dfu hr2 (Za (pv 2) (Za (pv 7) Zb))))
     (Zg (ZM (Ya (ZT (Zl Dri hr10 (Za (pv 6) Zb)))) Zt Zy)
     (Zg (Y2 (Zv (Za (Zl Dnb hr2 (Za (pv 2) Zb)) (Za (Zl Dnf hr2 (Za (pv 2) (Za (pv 6) Zb))) Zb))) (YD rfl (ZG (ZV (i := 8) scLaw.nd rfl (Or.inr rfl)) (ZG (ZV (i := 4) scLaw.nd rfl (Or.inr rfl)) Yi))))
     (Zg (Zz (i := 9) scLaw.nd rfl (Or.inr rfl) (ZP ZK (ZI (Za (Zv (Za (pv 7) (Za (Zo Yx (Zo ZW (pv 7) Zf) (Zo YG Zf (Zo JE (pv 7) Zf))) Zb))) (Za (Zv (Za (Zo Yx (Zo ZW (pv 7) Zf) (Zo YG Zf (Zo JE (pv 7) Zf))) (Za (pv 7) Zb))) Zb))) (Zl Dtk hr1 (Za (pv 2) (Za Zf Zb))) (fun _ _ => rfl)))
     (Zn (JN PassesOwn.never rfl (ZaG (ZI (Za (Y8 (v := .ref gS) rfl mS rfl) (Za (Y8 (v := .ref gI) rfl mI rfl) Zb)))) (ZV (i := 5) scLaw.nd rfl (Or.inr rfl))
      (Zg (Zz (i := 3) scLaw.nd rfl (Or.inl rfl) (ZI (Za (JP (idx := [5, 8, 4]) (Pre := PreV K aB aL gS gI aB) C lsc1 rfl (lns3 NC NN NB) rfl rfl (UI (by kernel_rfl)) MB (fun f ws _ => bodyV hS hI mS mI rfl rfl rfl rfl rfl rfl rfl)) Zb)))
      (Zg (Ye (JR PySem.F.plainAttrs_list PySem.F.slot_list_append PySem.F.type_list_append Jt (pv 3) (Za (JP (idx := [5, 7, 4]) (Pre := PreW K gS gI) C lsc2 rfl (lns3 NC NM NB) rfl rfl (UI (by kernel_rfl)) ML (fun f ws _ => bodyW hS hI mS mI)) Zb)))
      (Zn (ZM (ZO (Zc9 (Zdy hr)) (Zo Yy (pv 3) (ZI (Za (JP (idx := [5, 9, 6]) (Pre := PreV K aB aL gS gI aL) C lsc3 rfl (lns3 NC NO NL) rfl rfl (UI (by kernel_rfl)) ML (fun f ws _ => bodyV hS hI mS mI rfl rfl rfl rfl rfl rfl rfl)) Zb))) (ZI (Za Yv (Za Yv (Za Yv Zb)))) (nomark _)) Zt Zy)))))))))))))
    (Zg (ZM (ZO Jx (Uv C lscA rfl rfl (UI (by kernel_rfl)) ML (fun f => bodyA hS)) Yv (nomark _)) Zt Zy)
    (Zg (ZM (ZO Jx (Uv C lscB rfl rfl (UI (by kernel_rfl)) ML (fun f => bodyB hI)) Yv (nomark _)) Zt Zy)
    (Zg (ZM (PW.pt (JM (Ya (ZT (Zl Dri hr10 (Za (Zv (Za Zf Zb)) Zb)))) (JM (Ya (ZT (Zl Dri hr10 (Za (Zv (Za Zf (Za Zf Zb))) Zb)))) (Jp (Ya (ZT (Zl Dri hr10 (Za (Zv (Za Zf (Za Zf (Za Zf (Za Zf Zb))))) Zb)))))))) Zt Zy)
    (Zn (ZF (Z2 (ZL Zcb (Zl Dir hr9 (Za (Zv (Za Zf (Za Zf Zb))) (Za (Zv (Za Zf (Za Zf (Za Zf (Za Zf Zb))))) Zb))) JS (nomark _))
     (Yb (ZL Zcb (Zl Dir hr9 (Za (Zv (Za Zf (Za Zf Zb))) (Za (Zv (Za Zf (Za Zf (Za Zf Zb)))) Zb))) JS (nomark _))))))))), ?_⟩
   have tab0 : TabAt H Pt (lq (cxOf CX0 P w K mg base nLaw "law" (defScope sLaw) f (.ref c) A outer s H E).nox) := ⟨#[], htab, trivial, fun pos cv z => by cases z⟩
   generalize hqn : lq (cxOf CX0 P w K mg base nLaw "law" (defScope sLaw) f (.ref c) A outer s H E).nox = qn at tab0
   refine Zq ?_
   refine ⟨_, rfl, a, _, rfl, .inl scr.sq, _, _, rfl, _, _, rfl, _, rfl, (by rw [List.length_map]; split <;> split <;> omega), (by rw [List.length_map]; split <;> split <;> omega), ?_⟩
   refine YS (fun i σ H' => ∃ s1 s2 s3 s4 s5 s6 s7 s8 s9, σ = [some (.ref a), s1, s2, s3, s4, s5, s6, s7, s8, s9] ∧ ScrAt K H' a ns ∧ TabAt H' Pt qn) ⟨_, _, _, _, _, _, _, _, _, rfl, scr, tab0⟩ ?_ ?_
   ·rintro i σ H0 hi ⟨s1, s2, s3, s4, s5, s6, s7, s8, s9, rfl, sc, tb⟩
    rw [Int.zero_add]
    refine Zr ?_
    dsimp only [List.set]
    refine Zq (ZA ⟨_, rfl, _, rfl, a, ns, i, rfl, sc.sq, fun p H1 np q1 st1 => Zr ?_⟩)
    dsimp only [List.set]
    replace sc := sc.same q1
    replace tb := Z6 tb q1
    have step : ∀ {H H' : Hp}, SameX p H H' → StAt H p → ScrAt K H a ns → TabAt H Pt qn → ScrAt K H' a ns ∧ TabAt H' Pt qn := fun x ⟨u, v, e, _⟩ s t => ⟨s.x x e (fun _ _ z => by cases z), Zdr t x e (fun _ z => by cases z) (fun _ z => by cases z)⟩
    have nep : ∀ {H : Hp} {l : Addr}, StAt H p → H l = none → l ≠ p := fun ⟨_, _, e, _⟩ h z => by rw [z, e] at h; cases h
    refine Zq (ZA ⟨_, rfl, p, 12, rfl, st1, by decide, by decide, fun r o h0 h12 st2 => ⟨_, _, rfl, rfl, (by show 5 ≤ sizeLine; decide), fun L hL => ?_⟩⟩)
    have x2 : SameX p H1 (upd H1 p o) := SameX.upd
    generalize upd H1 p o = H2 at st2 x2 hL
    obtain ⟨sc2, tb2⟩ := step x2 st1 sc tb
    have q3 := Ze (o := .lst [V.int 12, V.int 10, V.int 6, V.int 4, V.int (1 + r)]) hL
    have e3 : upd H2 L (.lst [V.int 12, V.int 10, V.int 6, V.int 4, V.int (1 + r)]) L = some (.lst [V.int 12, V.int 10, V.int 6, V.int 4, V.int (1 + r)]) := Zc
    have nL := nep st2 hL
    generalize upd H2 L (HO.lst [V.int 12, V.int 10, V.int 6, V.int 4, V.int (1 + r)]) = H3 at q3 e3
    have st3 := st2.same q3
    refine ⟨_, rfl, p, 5, rfl, st3, by decide, by decide, fun r2 o2 g0 g5 st4 => ?_⟩
    have x4 : SameX p H3 (upd H3 p o2) := SameX.upd
    generalize upd H3 p o2 = H4 at st4 x4
    obtain ⟨sc4, tb4⟩ := step x4 st3 (sc2.same q3) (Z6 tb2 q3)
    obtain ⟨m, hat, m1, m12⟩ : ∃ m : Int, atI [V.int 12, V.int 10, V.int 6, V.int 4, V.int (1 + r)] r2 = some (.int m) ∧ 1 ≤ m ∧ m ≤ 12 := by
     rcases (by omega : r2 = 0 ∨ r2 = 1 ∨ r2 = 2 ∨ r2 = 3 ∨ r2 = 4) with rfl | rfl | rfl | rfl | rfl
     ·exact ⟨12, rfl, by decide, by decide⟩
     ·exact ⟨10, rfl, by decide, by decide⟩
     ·exact ⟨6, rfl, by decide, by decide⟩
     ·exact ⟨4, rfl, by decide, by decide⟩
     ·exact ⟨1 + r, rfl, by omega, by omega⟩
    refine ⟨L, _, _, _, rfl, rfl, SqL.of (x4 _ _ e3 nL), hat, Zr ?_⟩
    dsimp only [List.set]
    refine Zq (ZA ⟨_, rfl, _, rfl, p, m, rfl, st4, m1, m12, fun l H5 ms x5 st5 e5 pm => Zr ?_⟩)
    dsimp only [List.set]
    obtain ⟨sc5, tb5⟩ := step x5 st4 sc4 tb4
    obtain ⟨fu, len⟩ := ZaZ m1 pm
    have nl : l ≠ p := by
     obtain ⟨u, v, e, _⟩ := id st5
     exact YH e5 e (by intro z; cases z)
    have pm' : ms.Perm (frTo 0 ms.length) := by
     have e : m.toNat = ms.length := by omega
     rw [← e]
     exact pm
    refine Zq ⟨_, rfl, l, ms, rfl, e5, by omega, by omega, pm', fun H6 q6 => ⟨true, rfl, iteF (Z0 ?_)⟩⟩
    dsimp only
    have st6 := st5.same q6
    have sc6 := sc5.same q6
    have tb6 := Z6 tb5 q6
    have e6 := q6 _ _ e5
    refine Zq (ZA ⟨_, rfl, p, rfl, st6, fun vn H7 x7 st7 bb nr => ⟨_, rfl, _, rfl, p, l, ms, m, rfl, st7, x7 _ _ e6 nl, len, m1, m12, fun vb H8 x8 st8 gf => ⟨(by show 2 ≤ sizeLine; decide), fun t ht => ?_⟩⟩⟩)
    obtain ⟨sc7, tb7⟩ := step x7 st6 sc6 tb6
    obtain ⟨sc8, tb8⟩ := step x8 st7 sc7 tb7
    have bb8 := Wk bb x8 nr
    have nr8 := W5 bb.1.1 x8 nr.1 nr
    have e8 := x8 _ _ (x7 _ _ e6 nl) nl
    have q9 := Ze (o := .tup [vn, vb]) ht
    refine ⟨t, _, rfl, SqT.of Zc, rfl, _, _, rfl, _, _, rfl, rfl, ?_⟩
    dsimp only [List.set]
    generalize upd H8 t (HO.tup [vn, vb]) = H9 at q9
    have st9 := st8.same q9
    have sc9 := sc8.same q9
    have tb9 := Z6 tb8 q9
    have bb9 := bb8.same q9
    have nr9 : NoRef p H9 vn := ⟨nr8.1, fun xs e => nr8.2 xs (by rw [← Z3 bb8.1.1 q9]; exact e)⟩
    have gf9 := ZE gf q9
    have e9 := q9 _ _ e8
    refine Zq (ZA ⟨_, rfl, _, rfl, _, _, rfl, rfl, _, rfl, _, _, rfl, rfl, ⟨by decide, by decide⟩, _, _, rfl, rfl, .inl ⟨by decide, by decide⟩, _, _, rfl, rfl, (by show 2 ≤ sizeLine; decide), fun t1 ht1 => ?_⟩)
    obtain ⟨m', hm'⟩ : ∃ m' : Int, m' = m + 1 - 2 * (m / 12) := ⟨_, rfl⟩
    dsimp only
    rw [← hm']
    have w1 : 1 ≤ m' ∧ m' ≤ 12 ∧ m' ≠ m := by omega
    have q10 := Ze (o := .tup [.int m, .int m']) ht1
    have e10 : upd H9 t1 (.tup [.int m, .int m']) t1 = some (.tup [.int m, .int m']) := Zc
    have nt1 := nep st9 ht1
    generalize upd H9 t1 (HO.tup [.int m, .int m']) = H10 at q10 e10
    refine ⟨_, rfl, _, _, rfl, rfl, _, rfl, _, _, rfl, rfl, ⟨by decide, by decide⟩, _, _, rfl, rfl, .inl ⟨by decide, by decide⟩, _, _, rfl, rfl, _, rfl, (by show 2 ≤ sizeLine; decide), fun t2 ht2 => ?_⟩
    dsimp only
    rw [← hm']
    have st10 := st9.same q10
    have q11 := Ze (o := .tup [.int m', .int m]) ht2
    have e11 : upd H10 t2 (.tup [.int m', .int m]) t2 = some (.tup [.int m', .int m]) := Zc
    have nt2 := nep st10 ht2
    generalize upd H10 t2 (HO.tup [.int m', .int m]) = H11 at q11 e11
    have st11 := st10.same q11
    refine ⟨(by show 2 ≤ sizeLine; decide), fun t3 ht3 => ?_⟩
    have q12 := Ze (o := .lst [V.ref t1, V.ref t2]) ht3
    have e12 : upd H11 t3 (.lst [V.ref t1, V.ref t2]) t3 = some (.lst [V.ref t1, V.ref t2]) := Zc
    have nt3 := nep st11 ht3
    generalize upd H11 t3 (HO.lst [V.ref t1, V.ref t2]) = H12 at q12 e12
    have st12 := st11.same q12
    have q912 := q10.trans (q11.trans q12)
    refine ⟨_, rfl, p, 2, rfl, st12, by decide, by decide, fun r3 o3 r30 r32 st13 => ?_⟩
    have x13 : SameX p H12 (upd H12 p o3) := SameX.upd
    generalize upd H12 p o3 = H13 at st13 x13
    obtain ⟨sc13, tb13⟩ := step x13 st12 (sc9.same q912) (Z6 tb9 q912)
    have f1 := x13 _ _ ((q11.trans q12) _ _ e10) nt1
    have f2 := x13 _ _ (q12 _ _ e11) nt2
    obtain ⟨ot, wd, hg, hat2, bo, ne⟩ : ∃ (ot : Addr) (wd hg : Int), atI [V.ref t1, V.ref t2] r3 = some (.ref ot) ∧ BoardAt H13 (.ref ot) wd hg ∧ wd ≠ hg := by
     rcases (by omega : r3 = 0 ∨ r3 = 1) with rfl | rfl
     ·exact ⟨t1, m, m', rfl, ⟨Zm f1, m1, m12, w1.1, w1.2.1⟩, fun z => w1.2.2 z.symm⟩
     ·exact ⟨t2, m', m, rfl, ⟨Zm f2, w1.1, w1.2.1, m1, m12⟩, w1.2.2⟩
    refine ⟨t3, _, _, _, rfl, rfl, SqL.of (x13 _ _ e12 nt3), hat2, Zr ?_⟩
    dsimp only [List.set]
    have nr12 : NoRef p H12 vn := ⟨nr9.1, fun xs e => nr9.2 xs (by rw [← Z3 bb9.1.1 q912]; exact e)⟩
    have gf13 := ZaX (ZE gf9 q912) x13
    have held : HeldAt K Pt qn a ns l ms m vn vb ot wd hg H13 := ⟨sc13, tb13, Wk (bb9.same q912) x13 nr12, ⟨gf13.1.1, gf13.1.2⟩, x13 _ _ (q912 _ _ e9) nl, bo⟩
    refine ⟨(by show 2 ≤ sizeLine; decide), fun t4 ht4 => ⟨t4, rfl, ⟨_, SqL.of Zc⟩, ?_⟩⟩
    have q14 := Ze (o := .lst [V.ref gS, V.ref gI]) ht4
    have e14 : upd H13 t4 (.lst [V.ref gS, V.ref gI]) t4 = some (.lst [V.ref gS, V.ref gI]) := Zc
    generalize upd H13 t4 (HO.lst [V.ref gS, V.ref gI]) = H14 at q14 e14
    replace held := held.same q14
    refine ZcD (xs := [V.ref gS, V.ref gI]) (fun j σ H' => ∃ s3 s5, σ = [some (.ref a), some (.int (i : Int)), some (.ref p), s3, some vb, s5, some (.ref l), some (.int m), some vn, some (.ref ot)] ∧ HeldAt K Pt qn a ns l ms m vn vb ot wd hg H' ∧ H' t4 = some (.lst [V.ref gS, V.ref gI])) ⟨_, _, rfl, held, e14⟩ (fun j σ H' _ ⟨_, _, _, _, e⟩ => SqL.of e) ?_ ?_
    ·rintro j v σ H15 hv ⟨s3, s5, rfl, hd, et⟩
     obtain ⟨g, rfl, hg0⟩ : ∃ g : Addr, v = .ref g ∧ (g = gS ∨ g = gI) := by
      have := List.mem_of_getElem? hv
      simp only [List.mem_cons, List.not_mem_nil, or_false] at this
      rcases this with rfl | rfl
      ·exact ⟨_, rfl, .inl rfl⟩
      ·exact ⟨_, rfl, .inr rfl⟩
     refine Zr ?_
     dsimp only [List.set]
     have keep : ∀ {H H' : Hp} {b : Addr} {o : HO}, TabAt H Pt qn → SameX Pt H H' → H b = some o → (∀ ps, o ≠ .tbl ps) → H' b = some o := fun ⟨ps, hp, _⟩ x e hn => x _ _ e (fun z => by rw [z, hp] at e; cases e; exact hn _ rfl)
     refine Zq (ZA ⟨[.ref g, vn, vb], rfl, places3 rfl rfl rfl, by rw [hqn]; exact hd.tab, fun H' x' => ?_, fun H16 x16 t16 => ⟨(by show 1 ≤ sizeLine; decide), fun W hW => Zr ?_⟩⟩)
     ·obtain ⟨ps, hp, _⟩ := hd.tab
      exact ⟨g, vn, vb, rfl, hg0, .inl ⟨rfl, Wk hd.none x' (Js hd.none.1 hp)⟩⟩
     rw [hqn] at t16
     dsimp only [List.set]
     have hd16 := hd.x x16 t16
     have et16 := keep hd.tab x16 et (fun _ z => by cases z)
     have q17 := Ze (o := .lst [V.str (wordOf 0)]) hW
     have e17 : upd H16 W (.lst [V.str (wordOf 0)]) W = some (.lst [V.str (wordOf 0)]) := Zc
     generalize upd H16 W (HO.lst [V.str (wordOf 0)]) = H17 at q17 e17
     have hd17 := hd16.same q17
     have et17 := q17 _ _ et16
     have tW : t4 ≠ W := Zk et16 hW
     refine Zq ⟨_, rfl, .inl ⟨rfl, _, SqL.of e17⟩, [.ref g, .int m, vb], rfl, places3 rfl rfl rfl, by rw [hqn]; exact hd17.tab, fun H' x' => ?_, fun H18 x18 t18 => ?_⟩
     ·obtain ⟨ps, hp, _⟩ := hd17.tab
      exact ⟨g, m, vb, rfl, hg0, m1, m12, hd17.bad.x x' hp⟩
     rw [hqn] at t18
     have hd18 := hd17.x x18 t18
     have et18 := keep hd17.tab x18 et17 (fun _ z => by cases z)
     have e18 := keep hd17.tab x18 e17 (fun _ z => by cases z)
     refine ⟨W, _, _, rfl, rfl, e18, by rw [sizeLine_eq]; decide, Z0 ?_⟩
     dsimp only
     have x19 : SameX W H18 (upd H18 W (.lst ([V.str (wordOf 0)] ++ [V.str (wordOf 1)]))) := SameX.upd
     have e19 : upd H18 W (.lst ([V.str (wordOf 0)] ++ [V.str (wordOf 1)])) W = some (.lst ([V.str (wordOf 0)] ++ [V.str (wordOf 1)])) := Zc
     generalize upd H18 W (HO.lst ([V.str (wordOf 0)] ++ [V.str (wordOf 1)])) = H19 at x19 e19
     have nrW : ∀ {v : V}, Pl1 K H16 v → NoRef W H18 v := fun {v} t => by
      have n16 : NoRef W H16 v := Zbv t hW
      have n17 : NoRef W H17 v := ⟨n16.1, fun xs e => n16.2 xs (by rw [← Z3 t.1 q17]; exact e)⟩
      obtain ⟨ps, hp, _⟩ := hd17.tab
      exact W5 (q17.plT t.1) x18 (JC (q17.plT t.1) hp) n17
     have hd19 : HeldAt K Pt qn a ns l ms m vn vb ot wd hg H19 := ⟨hd18.scr.x x19 e18 (fun _ _ z => by cases z), Zdr hd18.tab x19 e18 (fun _ z => by cases z) (fun _ z => by cases z), Wk hd18.none x19 (nrW hd16.none.1),
      ⟨ZaF hd18.bad.1 x19 (nrW hd16.bad.1), by rw [YL hd18.bad.1.1 x19 (nrW hd16.bad.1).1]; exact hd18.bad.2⟩, x19 _ _ hd18.lay (YH hd18.lay e18 (by intro z; cases z)),
      hd18.oth.x x19 (fun z => by
       cases z
       obtain ⟨o', e, h⟩ := ZH hd18.oth.1
       cases e
       rw [e18] at h
       cases h)⟩
     have et19 := x19 _ _ et18 tW
     refine ⟨_, rfl, [.ref g, .ref ot, .ref l], rfl, places3 rfl rfl rfl, by rw [hqn]; exact hd19.tab, fun H' x' => ?_, fun H20 x20 t20 => ⟨(by show 1 ≤ sizeLine; decide), fun U hU => ?_⟩⟩
     ·obtain ⟨ps, hp, _⟩ := hd19.tab
      exact ⟨g, .ref ot, .ref l, rfl, hg0, .inr ⟨rfl, wd, hg, hd19.oth.x x' (hd19.oth.tbl hp), WZ (keep hd19.tab x' hd19.lay (fun _ z => by cases z)), Zah ne _⟩⟩
     rw [hqn] at t20
     have hd20 := hd19.x x20 t20
     have et20 := keep hd19.tab x20 et19 (fun _ z => by cases z)
     have e20 := keep hd19.tab x20 e19 (fun _ z => by cases z)
     have q21 := Ze (o := .lst [V.str (wordOf 1)]) hU
     have e21 : upd H20 U (.lst [V.str (wordOf 1)]) U = some (.lst [V.str (wordOf 1)]) := Zc
     generalize upd H20 U (HO.lst [V.str (wordOf 1)]) = H21 at q21 e21
     refine ⟨W, U, _, _, rfl, rfl, q21 _ _ e20, e21, by rw [sizeLine_eq]; decide, fun Z hZ => ?_⟩
     have q22 := Ze (o := .lst (([V.str (wordOf 0)] ++ [V.str (wordOf 1)]) ++ [V.str (wordOf 1)])) hZ
     have e22 : upd H21 Z (.lst (([V.str (wordOf 0)] ++ [V.str (wordOf 1)]) ++ [V.str (wordOf 1)])) Z = some (.lst (([wordOf 0, wordOf 1, wordOf 1] : List Str).map V.str)) := Zc
     generalize upd H21 Z (HO.lst (([V.str (wordOf 0)] ++ [V.str (wordOf 1)]) ++ [V.str (wordOf 1)])) = H22 at q22 e22
     refine ⟨(by show 3 ≤ sizeLine; decide), fun Y hY => ?_⟩
     refine ⟨Z, Y, [wordOf 0, wordOf 1, wordOf 1], rfl, rfl, SqL.of (Ze hY _ _ e22), SqL.of Zc, ?_⟩
     refine ⟨_, rfl, iteF (Z0 ?_)⟩
     exact ⟨_, _, rfl, hd20.same (q21.trans (q22.trans (Ze hY))), (q21.trans (q22.trans (Ze hY))) _ _ et20⟩
    ·rintro σ H15 ⟨s3, s5, rfl, hd, et⟩
     exact ⟨_, _, _, _, _, _, _, _, _, rfl, hd.scr, hd.tab⟩
   ·rintro σ H1 ⟨s1, s2, s3, s4, s5, s6, s7, s8, s9, rfl, sc, tb⟩
    dsimp only
    refine Zq ⟨by rw [hqn]; exact tb, fun H2 x2 t2 => ⟨rfl, ?_⟩⟩
    rw [hqn] at t2
    refine ⟨_, rfl, iteF (Z0 ?_)⟩
    dsimp only
    refine Zq ⟨by rw [hqn]; exact t2, fun H3 x3 t3 => ⟨rfl, ?_⟩⟩
    refine ⟨_, rfl, iteF (Z0 ?_)⟩
    dsimp only
    refine Zq ⟨(by show 1 ≤ sizeLine; decide), fun u1 hu1 => ⟨u1, [0], rfl, Zc, by decide, by decide, by decide, fun H4 _ => ⟨true, rfl, iteF ?_⟩⟩⟩
    refine ⟨(by show 2 ≤ sizeLine; decide), fun u2 hu2 => ⟨u2, [0, 1], rfl, Zc, by decide, by decide, by decide, fun H5 _ => ⟨true, rfl, iteF ?_⟩⟩⟩
    refine ⟨(by show 4 ≤ sizeLine; decide), fun u3 hu3 => ⟨u3, [1, 3, 2, 0], rfl, Zc, by decide, by decide, by decide, fun H6 _ => ⟨true, rfl, iteF (Z0 ?_)⟩⟩⟩
    dsimp only
    refine ⟨(by show 2 ≤ sizeLine; decide), fun b1 hb1 => ⟨(by show 4 ≤ sizeLine; decide), fun l1 hl1 => ?_⟩⟩
    have v1 := Ze (o := .tup [V.int 4, V.int 4]) hb1
    have f1 : upd H6 b1 (.tup [V.int 4, V.int 4]) b1 = some (.tup [V.int 4, V.int 4]) := Zc
    generalize upd H6 b1 (HO.tup [V.int 4, V.int 4]) = H7 at v1 f1 hl1
    have v2 := Ze (o := .tup [V.int 1, V.int 3, V.int 2, V.int 0]) hl1
    have f2 : upd H7 l1 (.tup [V.int 1, V.int 3, V.int 2, V.int 0]) l1 = some (.tup (([1, 3, 2, 0] : List Int).map V.int)) := Zc
    generalize upd H7 l1 (HO.tup [V.int 1, V.int 3, V.int 2, V.int 0]) = H8 at v2 f2
    refine ⟨.ref b1, l1, [1, 3, 2, 0], 4, rfl, ⟨⟨Zm (v2 _ _ f1), by decide, by decide, by decide, by decide⟩, f2, rfl, by decide +kernel⟩, fun H9 _ => ⟨_, _, rfl, rfl, ?_⟩⟩
    rw [decide_eq_true Zem]
    refine ⟨_, rfl, iteT ?_⟩
    refine ⟨(by show 2 ≤ sizeLine; decide), fun b2 hb2 => ⟨(by show 3 ≤ sizeLine; decide), fun l2 hl2 => ?_⟩⟩
    have v3 := Ze (o := .tup [V.int 3, V.int 3]) hb2
    have f3 : upd H9 b2 (.tup [V.int 3, V.int 3]) b2 = some (.tup [V.int 3, V.int 3]) := Zc
    generalize upd H9 b2 (HO.tup [V.int 3, V.int 3]) = H10 at v3 f3 hl2
    have v4 := Ze (o := .tup [V.int 0, V.int 1, V.int 2]) hl2
    have f4 : upd H10 l2 (.tup [V.int 0, V.int 1, V.int 2]) l2 = some (.tup (([0, 1, 2] : List Int).map V.int)) := Zc
    generalize upd H10 l2 (HO.tup [V.int 0, V.int 1, V.int 2]) = H11 at v4 f4
    refine ⟨.ref b2, l2, [0, 1, 2], 3, rfl, ⟨⟨Zm (v4 _ _ f3), by decide, by decide, by decide, by decide⟩, f4, rfl, by decide +kernel⟩, fun H12 _ => ⟨_, _, rfl, rfl, ?_⟩⟩
    rw [decide_eq_false Zel]
    exact q _
  obtain ⟨t, ht, hq⟩ := main
  exact ⟨t, ht.nox, hq⟩
end
end U
set_option Elab.async false
set_option linter.all false
set_option maxRecDepth 100000
namespace U
open PySem L2 PyProof.Rows PySem.Spec
abbrev gsNames : List Str := ["isinstance", "int", "bool", "tuple", "list", "len", "all", "set", "range", "max", "min", "enumerate", "zip", "sorted", "ValueError"]
section
variable {P : Program} {w : World} {K : PySem.W.Frag} {mg : Str → Option Value} {base : Heap}
theorem Zej {h : Heap} {t1 : Tok} (KX : K.In h) (G : h.Ns mainGlobals mg) (e : gsNames.all (noneAt K) = true) (lo : PySem.W.nsIn K mainGlobals "LONGEST_SIDE" = some (some (.int 12 t1))) : Gs mg ∧ mg "ValueError" = none := by
 have k : ∀ x ∈ gsNames, mg x = none := fun x hx => Zbu KX G (List.all_eq_true.mp e x hx)
 exact ⟨⟨k _ (by simp), k _ (by simp), k _ (by simp), k _ (by simp), k _ (by simp), k _ (by simp), k _ (by simp), k _ (by simp), k _ (by simp), k _ (by simp), k _ (by simp), k _ (by simp), k _ (by simp), k _ (by simp), ⟨t1, PySem.W.mg_of KX G lo⟩⟩, k _ (by simp)⟩
def kOk (K : PySem.W.Frag) (C c : Value) (b : Bool) : Bool := match PySem.W.kitOne K C c with | some d => d == b | none => false
theorem Zcy {C c : Value} {b : Bool} (h : kOk K C c b = true) : PySem.W.kitOne K C c = some b := by
 unfold kOk at h
 split at h
 ·rename_i d q
  rw [q, beq_iff_eq.mp h]
 ·cases h
def markOk (K : PySem.W.Frag) (C : Addr) (iC : Nat) : Bool := (List.range 15).all fun i => match PySem.W.nsIn K mainGlobals (nm15.getD i "") with | some (some (.ref c)) => kOk K (.ref C) (.ref c) (decide (i = iC)) | _ => false
def mroOk (K : PySem.W.Frag) (C : Addr) (b : Value) : Bool := match PySem.W.mroIn K C b with | some d => d | none => false
theorem UA {C : Addr} {b : Value} (h : mroOk K C b = true) : PySem.W.mroIn K C b = some true := by
 unfold mroOk at h
 split at h
 ·rename_i d q
  rw [q, h]
 ·cases h
def exmOk (K : PySem.W.Frag) (C c : Value) : Bool := match PySem.W.exmOne K C c with | some d => d | none => false
theorem ZcF {C c : Value} (h : exmOk K C c = true) : PySem.W.exmOne K C c = some true := by
 unfold exmOk at h
 split at h
 ·rename_i d q
  rw [q, h]
 ·cases h
def excOk (K : PySem.W.Frag) (cS C : Addr) (iC : Nat) : Bool := mroOk K C (.type "object") && mroOk K C (.type "BaseException") && (PySem.W.clsIn K C).isSome && exmOk K (.ref C) (.ref cS) && markOk K C iC && kOk K (.ref C) (.type "ValueError") true && PySem.W.excIn K C bmV "ValueError.__new__"
theorem ZaM {h : Heap} {cS C : Addr} {iC : Nat} (KX : K.In h) (G : h.Ns mainGlobals mg) (mv : mg "ValueError" = none) (ms : mg "StepError" = some (.ref cS)) (hi : iC < 15) (e : excOk K cS C iC = true)
  (ga : PySem.W.findIn K (.ref C) "__getattribute__" = some (some (.builtin "BaseException.__getattribute__"))) (hook : PySem.W.findIn K (.ref C) "__getattr__" = some none) (cl : PySem.W.findIn K (.ref C) "__class__" = some (some (.builtin "object.__class__"))) : Mk15 K mg cS C iC ∧ PySem.W.excIn K C bmV "ValueError.__new__" = true := by
 unfold excOk at e
 simp only [Bool.and_eq_true] at e
 obtain ⟨⟨⟨⟨⟨⟨e1, e2⟩, e3⟩, e4⟩, e5⟩, e6⟩, e7⟩ := e
 refine ⟨⟨⟨ga, hook, cl, UA e1, UA e2, e3⟩, ms, ZcF e4, fun i hi => ?_, mv, Zcy e6, hi⟩, e7⟩
 have := List.all_eq_true.mp e5 i (List.mem_range.mpr hi)
 split at this
 ·rename_i c q
  exact ⟨c, PySem.W.mg_of KX G q, Zcy this⟩
 ·cases this
set_option maxHeartbeats 4000000 in
theorem law_all {h : Heap} {fa c Pt f cS aB aL : Addr} {oc : Value} {od an : Option Addr} {kV doc pm ct : Value} {osl : Array (Option Value)} {t1 : Tok} (KX : K.In h) (G : h.Ns mainGlobals mg) (hmg : mg "law" = some (.ref fa))
  (d0 : DefAt K "is_whole" sWhole) (d1 : DefAt K "is_whole_within" sWithin) (d2 : DefAt K "is_tuple_of" sTupOf) (d3 : DefAt K "is_board" sBoard) (d4 : DefAt K "need_board" sNeedBoard) (d5 : DefAt K "is_lay" sLay) (d6 : DefAt K "is_full" sFull) (d7 : DefAt K "need_full" sNeedFull) (d8 : DefAt K "round_steps" sRS) (d9 : DefAt K "is_round" sIR) (d10 : DefAt K "_law_cell_at" sCell) (d11 : DefAt K "_law_state" sState) (d12 : DefAt K "_law_take" sTake) (d13 : DefAt K "_law_word" sWord) (d14 : DefAt K "_law_no_board" sNoB) (d15 : DefAt K "_law_same" sSame) (d16 : DefAt K "_law_full" sFullL) (d17 : DefAt K "_law_no_full" sNoF) (d18 : DefAt K "_law_due" sDue) (d19 : DefAt K "_law_right" sRi)
  (l1 : PySem.W.nsIn K mainGlobals "law" = some (some (.ref f))) (l2 : K.lookup f = some ⟨oc, od, .func (PySem.W.fnOf "law" "law" (defArgs sLaw) (defBody sLaw) (defScope sLaw) .none kV doc pm an (.ref c) ct), osl⟩) (l3 : PySem.W.codeIn K (.ref c) "law" = true) (l4 : PySem.W.codeHdIn K c Pt = true)
  (g1 : gsNames.all (noneAt K) = true) (lo : PySem.W.nsIn K mainGlobals "LONGEST_SIDE" = some (some (.int 12 t1)))
  (eB : PySem.W.nsIn K mainGlobals "NoBoard" = some (some (.ref aB))) (eL : PySem.W.nsIn K mainGlobals "NoLay" = some (some (.ref aL))) (eS : PySem.W.nsIn K mainGlobals "StepError" = some (some (.ref cS)))
  (x0 : excOk K cS aB 0 = true) (x1 : excOk K cS aL 1 = true)
  (gaB : PySem.W.findIn K (.ref aB) "__getattribute__" = some (some (.builtin "BaseException.__getattribute__"))) (hoB : PySem.W.findIn K (.ref aB) "__getattr__" = some none) (clB : PySem.W.findIn K (.ref aB) "__class__" = some (some (.builtin "object.__class__")))
  (gaL : PySem.W.findIn K (.ref aL) "__getattribute__" = some (some (.builtin "BaseException.__getattribute__"))) (hoL : PySem.W.findIn K (.ref aL) "__getattr__" = some none) (clL : PySem.W.findIn K (.ref aL) "__class__" = some (some (.builtin "object.__class__"))) :
  ∃ fd : FuncData, (∀ (s : Shared) (u : Value), BindsTo s fd ⟨[u], []⟩ [("_law_script", u)]) ∧ ∀ base : Heap, K.In base → base.Ns mainGlobals mg → BmAt mg base → FnOk P w K mg base CX0 12 fa fd ["_law_script"] (spLaw K Pt) := by
 have e0 := hmg.symm.trans (PySem.W.mg_of KX G l1)
 cases e0
 obtain ⟨gs, mv⟩ := Zej KX G g1 lo
 have ms := PySem.W.mg_of KX G eS
 obtain ⟨MB, xB⟩ := ZaM KX G mv ms (by decide : 0 < 15) x0 gaB hoB clB
 obtain ⟨ML, xL⟩ := ZaM KX G mv ms (by decide : 1 < 15) x1 gaL hoL clL
 have exB : Exc K mg "NoBoard" aB := ⟨PySem.W.mg_of KX G eB, xB⟩
 have exL : Exc K mg "NoLay" aL := ⟨PySem.W.mg_of KX G eL, xL⟩
 refine ⟨PySem.W.fnOf "law" "law" (defArgs sLaw) (defBody sLaw) (defScope sLaw) .none kV doc pm an (.ref c) ct, fun s u => .of_eq rfl, fun base kb nb bm => ?_⟩
 have good : ∀ b' : Heap, (Def P w K mg b' 8 "round_steps" ["board", "lay"] spRS ∧ DefR P w K mg b' 8 "round_steps" ["board", "lay"] (spNFx K aB aL)) ∧ (Def P w K mg b' 9 "is_round" ["board", "lay"] spIR ∧ DefR P w K mg b' 9 "is_round" ["board", "lay"] (spNFx K aB aL)) := fun b' => by
  have D0 : Def P w K mg b' 1 "is_whole" ["thing"] (spWhole K) := d0.to KX G (b1 fun _ _ _ _ _ _ _ => rfl) fun f fd F => Zcd F gs
  have D1 : Def P w K mg b' 2 "is_whole_within" ["thing", "least", "most"] (spWithin K) := d1.to KX G (b3 fun _ _ _ _ _ _ _ _ _ => rfl) fun f fd F => Zbr F D0
  have D3 : Def P w K mg b' 1 "is_tuple_of" ["thing", "many"] (spTupOf K) := d2.to KX G (b2 fun _ _ _ _ _ _ _ _ => rfl) fun f fd F => Zce F gs
  have D4 : Def P w K mg b' 3 "is_board" ["thing"] (spBoard K) := d3.to KX G (b1 fun _ _ _ _ _ _ _ => rfl) fun f fd F => Zck F gs D3 D1
  have D5 : Def P w K mg b' 4 "need_board" ["board"] (spNeedBoard K) := d4.to KX G (b1 fun _ _ _ _ _ _ _ => rfl) fun f fd F => W3 F D4
  have D6 : Def P w K mg b' 5 "is_lay" ["board", "thing"] (spLay K) := d5.to KX G (b2 fun _ _ _ _ _ _ _ _ => rfl) fun f fd F => ZdU F gs D5 D3 D1
  have D7 : Def P w K mg b' 6 "is_full" ["board", "thing"] (spFull K) := d6.to KX G (b2 fun _ _ _ _ _ _ _ _ => rfl) fun f fd F => Zdf F D6
  have D8 : Def P w K mg b' 7 "need_full" ["board", "lay"] (spNeedFull K) := d7.to KX G (b2 fun _ _ _ _ _ _ _ _ => rfl) fun f fd F => Uy F D7
  have D9 : Def P w K mg b' 8 "round_steps" ["board", "lay"] spRS := d8.to KX G (b2 fun _ _ _ _ _ _ _ _ => rfl) fun f fd F => Zeg F gs D8
  have D10 : Def P w K mg b' 9 "is_round" ["board", "lay"] spIR := d9.to KX G (b2 fun _ _ _ _ _ _ _ _ => rfl) fun f fd F => Zei F gs D9
  have R5 : DefR P w K mg b' 4 "need_board" ["board"] (spNBx K aB) := d4.toR KX G (b1 fun _ _ _ _ _ _ _ => rfl) fun f fd F => Wo F gs exB D4
  have R6 : DefR P w K mg b' 5 "is_lay" ["board", "thing"] (spLayx K aB) := d5.toR KX G (b2 fun _ _ _ _ _ _ _ _ => rfl) fun f fd F => Zde F R5
  have R7 : DefR P w K mg b' 6 "is_full" ["board", "thing"] (spFullx K aB) := d6.toR KX G (b2 fun _ _ _ _ _ _ _ _ => rfl) fun f fd F => Zci F R6
  have R8 : DefR P w K mg b' 7 "need_full" ["board", "lay"] (spNFx K aB aL) := d7.toR KX G (b2 fun _ _ _ _ _ _ _ _ => rfl) fun f fd F => W2 F exL D7 R7
  have R9 : DefR P w K mg b' 8 "round_steps" ["board", "lay"] (spNFx K aB aL) := d8.toR KX G (b2 fun _ _ _ _ _ _ _ _ => rfl) fun f fd F => ZdR F R8
  have R10 : DefR P w K mg b' 9 "is_round" ["board", "lay"] (spNFx K aB aL) := d9.toR KX G (b2 fun _ _ _ _ _ _ _ _ => rfl) fun f fd F => ZdW F R9
  exact ⟨⟨D9, R9⟩, D10, R10⟩
 have hR : ∀ b' : Heap, Def P w K mg b' 11 "_law_word" ["_law_call"] (spWord P w K mg b' cS 10) := fun b' => d13.to KX G (b1 fun _ _ _ _ _ _ _ => rfl) fun f fd F => Zdc F gs
 have E1 : Def P w K mg base 1 "_law_cell_at" ["_law_script", "_law_k"] (spCell K) := d10.to KX G (b2 fun _ _ _ _ _ _ _ _ => rfl) fun f fd F => Zdg F gs
 have E2 : Def P w K mg base 2 "_law_state" ["_law_script", "_law_k"] (spState K) := d11.to KX G (b2 fun _ _ _ _ _ _ _ _ => rfl) fun f fd F => Zcf F gs E1
 have E3 : Def P w K mg base 1 "_law_take" ["_law_state_here", "_law_many"] spTake := d12.to KX G (b2 fun _ _ _ _ _ _ _ _ => rfl) fun f fd F => Zdd F
 have E4 : Def P w K mg base 2 "_law_no_board" ["_law_state_here"] (spNoB K) := d14.to KX G (b1 fun _ _ _ _ _ _ _ => rfl) fun f fd F => ZdT F E3
 have S1 : Def P w K mg base 1 "_law_same" ["_law_found", "_law_due_here"] (spSame R0) := d15.to KX G (b2 fun _ _ _ _ _ _ _ _ => rfl) fun f fd F => Zch F gs
 have S2 : Def P w K mg base 2 "_law_same" ["_law_found", "_law_due_here"] (spSame (RTu R0)) := d15.to KX G (b2 fun _ _ _ _ _ _ _ _ => rfl) fun f fd F => Zbs (R := R0) (fun r s => R0.same r s) F gs S1
 have S3 : Def P w K mg base 3 "_law_same" ["_law_found", "_law_due_here"] (spSame (RLi (RTu R0))) := d15.to KX G (b2 fun _ _ _ _ _ _ _ _ => rfl) fun f fd F => Zbt (R := RTu R0) (fun r s => RTu.same (R := R0) (fun r s => R0.same r s) r s) F gs S2
 have S4 : Def P w K mg base 1 "_law_same" ["_law_found", "_law_due_here"] (spSame RBl) := d15.to KX G (b2 fun _ _ _ _ _ _ _ _ => rfl) fun f fd F => Zcg F gs
 have E5 : Def P w K mg base 2 "_law_full" ["_law_state_here", "_law_many"] spFullL := d16.to KX G (b2 fun _ _ _ _ _ _ _ _ => rfl) fun f fd F => Zcj F gs E3
 have E6 : Def P w K mg base 2 "_law_no_full" ["_law_state_here", "_law_lay"] (spNoF K) := d17.to KX G (b2 fun _ _ _ _ _ _ _ _ => rfl) fun f fd F => ZdS F gs E3
 have E7 : Def P w K mg base 1 "_law_due" ["_law_lay"] spDue := d18.to KX G (b1 fun _ _ _ _ _ _ _ => rfl) fun f fd F => ZdX F gs
 have E8 : Def P w K mg base 10 "_law_right" ["_law_lay"] spRi := d19.to KX G (b1 fun _ _ _ _ _ _ _ => rfl) fun f fd F => Zeh F gs E7 (good base).1.1 (good base).2.1 S3 S4
 obtain ⟨fR, fdR, eR', FR⟩ := id d13
 obtain ⟨gS, _, mS, _⟩ := id d8
 obtain ⟨gI, _, mI, _⟩ := id d9
 exact ZdV l2 l3 gs E2 E3 E5 E4 E6 E8 (good base).2.1 hR (fun b' => (good b').1.2) (fun b' => (good b').2.2) (PySem.W.mg_of KX G mS) (PySem.W.mg_of KX G mI) (PySem.W.mg_of KX G eR') FR.kp MB ML (PySem.W.codeHd_of_K kb l4) bm
end
end U
set_option Elab.async false
set_option linter.all false
set_option maxRecDepth 100000
def PySem.W.Fast.tw4903031024958279424 : Unit := ()
def PySem.W.Fast.tw10924301247974242914 : Unit := ()
def PySem.W.Fast.tw15849643905539191300 : Unit := ()
def PySem.W.Fast.tw13991332450343934341 : Unit := ()
def PySem.W.Fast.tw2862591102889353701 : Unit := ()
def PySem.W.Fast.tw13860365555101069861 : Unit := ()
def PySem.W.Fast.tw17349273910336938438 : Unit := ()
def PySem.W.Fast.tw16858560578073593223 : Unit := ()
def PySem.W.Fast.tw17396451499915614951 : Unit := ()
def PySem.W.Fast.tw13304207317403362151 : Unit := ()
def PySem.W.Fast.tw14969299968829405063 : Unit := ()
def PySem.W.Fast.tw15598318654681889000 : Unit := ()
def PySem.W.Fast.tw5762490946608720810 : Unit := ()
def PySem.W.Fast.tw5607456258479685707 : Unit := ()
def PySem.W.Fast.tw2559227400364179051 : Unit := ()
def PySem.W.Fast.tw6552806312654018251 : Unit := ()
def PySem.W.Fast.tw15563875829053876139 : Unit := ()
def PySem.W.Fast.tw13730149891367348460 : Unit := ()
def PySem.W.Fast.tw17321416457753621996 : Unit := ()
def PySem.W.Fast.tw7525195936523646604 : Unit := ()
def PySem.W.Fast.tw1947985667573605229 : Unit := ()
def PySem.W.Fast.tw4399298362813593104 : Unit := ()
def PySem.W.Fast.tw13115409535364325968 : Unit := ()
def PySem.W.Fast.tw14293410346965071249 : Unit := ()
def PySem.W.Fast.tw11740380359117938641 : Unit := ()
def PySem.W.Fast.tw18346861303009834386 : Unit := ()
def PySem.W.Fast.tw4441478843992568594 : Unit := ()
def PySem.W.Fast.tw10549545855022464914 : Unit := ()
def PySem.W.Fast.tw6235546112393570290 : Unit := ()
def PySem.W.Fast.tw16663445143160325267 : Unit := ()
def PySem.W.Fast.tw8834709905631799155 : Unit := ()
def PySem.W.Fast.tw14153733216357383733 : Unit := ()
def PySem.W.Fast.tw16864949528838114997 : Unit := ()
def PySem.W.Fast.tw379774019951687926 : Unit := ()
def PySem.W.Fast.tw15998282950067138070 : Unit := ()
def PySem.W.Fast.tw9048515720456800376 : Unit := ()
def PySem.W.Fast.tw5522193138635530520 : Unit := ()
def PySem.W.Fast.tw4489699739227721657 : Unit := ()
def PySem.W.Fast.tw612411316218225820 : Unit := ()
def PySem.W.Fast.tw16718748607326202013 : Unit := ()
def PySem.W.Fast.tw1579762159972317534 : Unit := ()
def PySem.W.Fast.tw12728301627971372703 : Unit := ()
def PySem.W.Fast.tw9424601057617522297 : Unit := ()
set_option maxRecDepth 100000 in
set_option maxHeartbeats 0 in
theorem PySem.Challenge.cw_unlikesteps_k85_round_steps_holds : PySem.Challenge.rw_unlikesteps_k85_round_steps.Holds := by
 w_on; o_law; k_head; (case hw => w_witness2)
 k_fill
 refine U.walk_ofTs (l := PySem.Challenge.rw_unlikesteps_k85_round_steps) (n := 63) (k := 12) (x := "_law_script") (Pts := [337]) (sp := fun K => U.spLaw K 337) rfl (by decide) rfl ⟨rfl, by decide, by decide, rfl⟩ (fun w h Y => PySem.W.km_in_of Y) ?hT9 ?hC9 ?hN9 ?F ?S
 case hT9 =>
  intro w h Y P hP
  simp only [List.mem_cons, List.not_mem_nil, or_false] at hP
  rcases hP with rfl
  ·exact PySem.W.km_tabs_of Y 337 (by simp)
 case hC9 =>
  intro w h X P hP
  simp only [List.mem_cons, List.not_mem_nil, or_false] at hP
  rcases hP with rfl
  ·exact ⟨341, PySem.W.codeHd_of_K X (by kernel_rfl)⟩
 case hN9 =>
  intro w P hP
  simp only [List.mem_cons, List.not_mem_nil, or_false] at hP
  rcases hP with rfl
  ·kernel_rfl
 case S => exact fun K H a ns hl hs hp => ⟨a, ns, rfl, hs, hl, hp _ (by simp), fun _ => rfl⟩
 case F =>
  intro w mg fa h KX G hmg
  refine' U.law_all (c := 341) (Pt := 337) KX G hmg (U.defAt_mk ?a0 ?b0 ?c0 ?e0) (U.defAt_mk ?a1 ?b1 ?c1 ?e1) (U.defAt_mk ?a2 ?b2 ?c2 ?e2) (U.defAt_mk ?a3 ?b3 ?c3 ?e3) (U.defAt_mk ?a4 ?b4 ?c4 ?e4) (U.defAt_mk ?a5 ?b5 ?c5 ?e5) (U.defAt_mk ?a6 ?b6 ?c6 ?e6) (U.defAt_mk ?a7 ?b7 ?c7 ?e7) (U.defAt_mk ?a8 ?b8 ?c8 ?e8) (U.defAt_mk ?a9 ?b9 ?c9 ?e9) (U.defAt_mk ?a10 ?b10 ?c10 ?e10) (U.defAt_mk ?a11 ?b11 ?c11 ?e11) (U.defAt_mk ?a12 ?b12 ?c12 ?e12) (U.defAt_mk ?a13 ?b13 ?c13 ?e13) (U.defAt_mk ?a14 ?b14 ?c14 ?e14) (U.defAt_mk ?a15 ?b15 ?c15 ?e15) (U.defAt_mk ?a16 ?b16 ?c16 ?e16) (U.defAt_mk ?a17 ?b17 ?c17 ?e17) (U.defAt_mk ?a18 ?b18 ?c18 ?e18) (U.defAt_mk ?a19 ?b19 ?c19 ?e19) ?l1 ?l2 ?l3 ?l4 ?g1 ?lo ?eB ?eL ?eS ?x0 ?x1 ?gaB ?hoB ?clB ?gaL ?hoL ?clL
  (case a0 => k_is); (case b0 => k_is); (case c0 => k_is); (case e0 => k_is)
  (case a1 => k_is); (case b1 => k_is); (case c1 => k_is); (case e1 => k_is)
  (case a2 => k_is); (case b2 => k_is); (case c2 => k_is); (case e2 => k_is)
  (case a3 => k_is); (case b3 => k_is); (case c3 => k_is); (case e3 => k_is)
  (case a4 => k_is); (case b4 => k_is); (case c4 => k_is); (case e4 => k_is)
  (case a5 => k_is); (case b5 => k_is); (case c5 => k_is); (case e5 => k_is)
  (case a6 => k_is); (case b6 => k_is); (case c6 => k_is); (case e6 => k_is)
  (case a7 => k_is); (case b7 => k_is); (case c7 => k_is); (case e7 => k_is)
  (case a8 => k_is); (case b8 => k_is); (case c8 => k_is); (case e8 => k_is)
  (case a9 => k_is); (case b9 => k_is); (case c9 => k_is); (case e9 => k_is)
  (case a10 => k_is); (case b10 => k_is); (case c10 => k_is); (case e10 => k_is)
  (case a11 => k_is); (case b11 => k_is); (case c11 => k_is); (case e11 => k_is)
  (case a12 => k_is); (case b12 => k_is); (case c12 => k_is); (case e12 => k_is)
  (case a13 => k_is); (case b13 => k_is); (case c13 => k_is); (case e13 => k_is)
  (case a14 => k_is); (case b14 => k_is); (case c14 => k_is); (case e14 => k_is)
  (case a15 => k_is); (case b15 => k_is); (case c15 => k_is); (case e15 => k_is)
  (case a16 => k_is); (case b16 => k_is); (case c16 => k_is); (case e16 => k_is)
  (case a17 => k_is); (case b17 => k_is); (case c17 => k_is); (case e17 => k_is)
  (case a18 => k_is); (case b18 => k_is); (case c18 => k_is); (case e18 => k_is)
  (case a19 => k_is); (case b19 => k_is); (case c19 => k_is); (case e19 => k_is)
  (case l1 => k_is)
  (case l2 => k_is)
  (case l3 => k_is)
  (case l4 => kernel_rfl)
  (case g1 => kernel_rfl)
  (case lo => k_is)
  (case eB => k_is)
  (case eL => k_is)
  (case eS => k_is)
  (case x0 => kernel_rfl)
  (case x1 => kernel_rfl)
  (case gaB => k_is)
  (case hoB => k_is)
  (case clB => k_is)
  (case gaL => k_is)
  (case hoL => k_is)
  (case clL => k_is)
