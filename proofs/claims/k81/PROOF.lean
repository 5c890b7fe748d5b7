import PyProof.Rows.All
import Wide.All
import OpenK.AllK
import Wide.FinOn
import Lean
import PyProof.EqAt
import PyProof.EqKinds
import PyProof.TupleCall
import PyProof.NeKinds
import PyProof.Rows.SortWalk
import PyProof.Rows.SortRuns
import KE.KMinKey
import PyProof.IsRules
import PySem.SetOps
import PyProof.SetScanFacts
import PyProof.TupleKey
import PyProof.SetKind
import PyProof.Rows.SetFrom
import KE.KRevSl
import PyProof.Rows.SumAny
import PyProof.EnumMake
import PyProof.SeqI3
import PyProof.TupleOfGen
import PyProof.ListRange
import PyProof.CollectIter
import PyProof.DictItems
import KE.KDictList
import PySem.Challenge.RW_unlikesteps_k81_least_ones_and_own_turns
set_option Elab.async false
set_option linter.all false
set_option maxRecDepth 100000
namespace L2
open PySem PySem.Spec PyProof.Rows
abbrev Key := Sum Int Str
def keyIs : Key → Value → Bool
 | .inl k, v => Value.isInt k v
 | .inr x, v => Value.isStrOf x v
def keyH (w : World) : Key → Int
 | .inl k => hashInt k
 | .inr x => hashStr w x
theorem ZN : ∀ {k : Key} {v : Value}, keyIs k v = true → (∃ i t, k = Sum.inl i ∧ v = Value.int i t) ∨ (∃ x t, k = Sum.inr x ∧ v = Value.str x t)
 | .inl i, v, h => by
  obtain ⟨t, e⟩ := Value.isInt_shape (k := i) (v := v) h
  exact .inl ⟨i, t, rfl, e⟩
 | .inr x, v, h => by
  obtain ⟨t, e⟩ := Value.isStrOf_shape (x := x) (v := v) h
  exact .inr ⟨x, t, rfl, e⟩
theorem Za2 (i : Int) (t : Tok) : keyIs (.inl i) (.int i t) = true := by simp [keyIs, Value.isInt]
theorem Za1 (x : Str) (t : Tok) : keyIs (.inr x) (.str x t) = true := by simp [keyIs, Value.isStrOf]
theorem Zdm (a b : Int) : decide ((Sum.inl a : Key) = Sum.inl b) = (a == b) := by
 by_cases e : a = b
 ·subst e; simp
 ·have h : ¬ (Sum.inl a : Key) = Sum.inl b := fun q => e (Sum.inl.inj q)
  rw [decide_eq_false h]
  exact (beq_eq_false_iff_ne.mpr e).symm
theorem Zdj (a b : Str) : decide ((Sum.inr a : Key) = Sum.inr b) = decide (a = b) := by
 by_cases e : a = b
 ·subst e; simp
 ·have h : ¬ (Sum.inr a : Key) = Sum.inr b := fun q => e (Sum.inr.inj q)
  rw [decide_eq_false h, decide_eq_false e]
theorem Zdl (a : Int) (b : Str) : decide ((Sum.inl a : Key) = Sum.inr b) = false := decide_eq_false (fun q => nomatch q)
theorem Zdk (a : Str) (b : Int) : decide ((Sum.inr a : Key) = Sum.inl b) = false := decide_eq_false (fun q => nomatch q)
def mixKind (prog : Program) (w : World) : PySem.KeyKind prog w Key where
 is := keyIs
 hash := keyH w
 inj := fun v a b ha hb => by
  rcases ZN ha with ⟨i, t, rfl, rfl⟩ | ⟨x, t, rfl, rfl⟩
  ·rcases ZN hb with ⟨j, u, rfl, e⟩ | ⟨y, u, rfl, e⟩
   ·injection e with e1 _; rw [e1]
   ·exact nomatch e
  ·rcases ZN hb with ⟨j, u, rfl, e⟩ | ⟨y, u, rfl, e⟩
   ·exact nomatch e
   ·injection e with e1 _; rw [e1]
 byValue := fun k v h => by
  rcases ZN h with ⟨i, t, rfl, rfl⟩ | ⟨x, t, rfl, rfl⟩ <;> rfl
 pyHash := fun hv h => by
  rcases ZN hv with ⟨i, t, rfl, rfl⟩ | ⟨x, t, rfl, rfl⟩
  ·exact wpAny_pyHash_int h
  ·exact wpAny_pyHash_str h
 eqBool := fun hu hv h => by
  rcases ZN hu with ⟨i, t, rfl, rfl⟩ | ⟨x, t, rfl, rfl⟩
  ·rcases ZN hv with ⟨j, u, rfl, rfl⟩ | ⟨y, u, rfl, rfl⟩
   ·rw [Zdm] at h; exact wpAny_eqBool_int h
   ·rw [Zdl] at h; exact SeqAt.EqAt.int_str i t y u _ _ _ _ h
  ·rcases ZN hv with ⟨j, u, rfl, rfl⟩ | ⟨y, u, rfl, rfl⟩
   ·rw [Zdk] at h; exact SeqAt.EqAt.str_int x t j u _ _ _ _ h
   ·rw [Zdj] at h; exact wpAny_eqBool_str h
 «strs» := fun k x t v h => by
  rcases ZN h with ⟨i, u, rfl, e⟩ | ⟨y, u, rfl, e⟩
  ·exact nomatch e
  ·injection e with e1 _
   subst e1
   cases v <;> rfl
theorem Ui (prog : Program) (w : World) (i : Int) (t : Tok) : (mixKind prog w).is (.inl i) (.int i t) = true := Za2 i t
theorem Uh (prog : Program) (w : World) (x : Str) (t : Tok) : (mixKind prog w).is (.inr x) (.str x t) = true := Za1 x t
end L2
namespace L2
open PySem PySem.Spec PyProof.Rows
inductive V where
 | non | bl (b : Bool) | int (i : Int) | str (x : Str) | byt (b : Array UInt8) | flt (b : UInt64) | ref (a : Addr) | ty (n : String)
 deriving DecidableEq
def RelV : V → Value → Prop
 | .non, u => u = Value.none
 | .bl b, u => u = Value.bool b
 | .int i, u => ∃ t, u = Value.int i t
 | .str x, u => ∃ t, u = Value.str x t
 | .byt b, u => ∃ t, u = Value.bytes b t
 | .flt b, u => ∃ t, u = Value.float b t
 | .ref a, u => u = Value.ref a
 | .ty n, u => u = Value.type n
abbrev Vals : List V → List Value → Prop := Paired RelV
theorem Vals.length {xs : List V} {us : List Value} (r : Vals xs us) : xs.length = us.length := Paired.length r
theorem Vals.get : ∀ {xs : List V} {us : List Value} {i : Nat} {x : V}, Vals xs us → xs[i]? = some x → ∃ u, us[i]? = some u ∧ RelV x u
 | _, _, _, _, .nil, e => by simp at e
 | _, _, 0, _, .cons r _, e => by simp at e; subst e; exact ⟨_, rfl, r⟩
 | _, _, i + 1, x, .cons _ t, e => by
  obtain ⟨u, h1, h2⟩ := Vals.get (i := i) (x := x) t (by simpa using e)
  exact ⟨u, by simpa using h1, h2⟩
theorem Vals.set {x : V} {u : Value} (r : RelV x u) : ∀ {xs : List V} {us : List Value} (i : Nat), Vals xs us → Vals (xs.set i x) (us.set i u)
 | _, _, _, .nil => .nil
 | _, _, 0, .cons _ t => .cons r t
 | _, _, i + 1, .cons q t => .cons q (Vals.set r i t)
theorem Vals.append : ∀ {xs ys : List V} {us ws : List Value}, Vals xs us → Vals ys ws → Vals (xs ++ ys) (us ++ ws)
 | _, _, _, _, .nil, s => s
 | _, _, _, _, .cons r t, s => .cons r (Vals.append t s)
theorem Vals.take : ∀ {xs : List V} {us : List Value} (n : Nat), Vals xs us → Vals (xs.take n) (us.take n)
 | _, _, 0, _ => .nil
 | _, _, _ + 1, .nil => .nil
 | _, _, n + 1, .cons r t => .cons r (Vals.take n t)
theorem Vals.drop : ∀ {xs : List V} {us : List Value} (n : Nat), Vals xs us → Vals (xs.drop n) (us.drop n)
 | _, _, 0, r => r
 | _, _, _ + 1, .nil => .nil
 | _, _, n + 1, .cons _ t => Vals.drop n t
def RelO : Option V → Option Value → Prop
 | some v, some u => RelV v u
 | none, none => True
 | _, _ => False
def KV {κ : Type} : List (κ × V) → List (κ × Value) → Prop := Paired fun (p : κ × V) (q : κ × Value) => p.1 = q.1 ∧ RelV p.2 q.2
def kV : Key → V
 | .inl i => .int i
 | .inr x => .str x
inductive HO where
  | lst (xs : List V)
  | tup (xs : List V)
  | par (xs : List V)
  | dK (kvs : List (Key × V)) | dT (kvs : List (List Key × V))
  | set (S : Int → Bool) (n : Nat)
  | ins (C dx : Addr) (fs : List (Str × V))
  | own (x : Addr)
  | xd (fs : List (Str × V))
  | met (f x : Addr)
  | rng (lo hi : Int)
  | frz (o : Obj) (u : HO)
  | tbl (ps : Array Value)
  | ext (φ : Heap → Prop)
abbrev Hp := Addr → Option HO
def upd (H : Hp) (a : Addr) (o : HO) : Hp := fun b => if b = a then some o else H b
theorem Zc {H : Hp} {a : Addr} {o : HO} : upd H a o a = some o := by unfold upd; rw [if_pos rfl]
theorem Zg {H : Hp} {a b : Addr} {o : HO} (h : b ≠ a) : upd H a o b = H b := by unfold upd; rw [if_neg h]
theorem YG {H : Hp} {a b : Addr} {o u : HO} (h : H a = some o) (h' : H b = some u) (d : o ≠ u) : a ≠ b := by
 intro e; subst e; rw [h] at h'; exact d (Option.some.inj h')
theorem Zj {H : Hp} {a b : Addr} {o : HO} (h : H a = some o) (h' : H b = none) : a ≠ b := by
 intro e; subst e; rw [h] at h'; cases h'
section
variable (P : Program) (w : World)
def ObjOk (H : Hp) (h : Heap) (a : Addr) : HO → Prop
 | .lst xs => xs.length ≤ sizeLine ∧ ∃ (its : List Value) (n : Nat), Vals xs its ∧ h.get? a = some { cls := .type "list", data := .seq its.toArray n }
 | .tup xs => xs.length ≤ sizeLine ∧ ∃ its : List Value, Vals xs its ∧ IsTup h a its.toArray ∧ ∃ o, h.get? a = some o ∧ o.dict = none
 | .par xs => xs.length ≤ sizeLine ∧ ∃ its : List Value, Vals xs its ∧ IsTup h a its.toArray
 | .dK kvs => kvs.length ≤ sizeLine ∧ (a == sysModules) = false ∧ ∃ vs, KV kvs vs ∧ h.DictOf (mixKind P w) a vs
 | .dT kvs => kvs.length ≤ sizeLine ∧ (a == sysModules) = false ∧ ∃ xs : List (List Key × Addr × Value),
   Paired (fun (p : List Key × V) (q : List Key × Addr × Value) => p.1 = q.1 ∧ H q.2.1 = some (.tup (p.1.map kV)) ∧ RelV p.2 q.2.2) kvs xs ∧
   ∃ o es ep, h.get? a = some o ∧ o.ExactDict ∧ o.data = .dict es ep ∧ es.toList = xs.map (entryOfKey (tupleKind (mixKind P w))) ∧ (xs.map (·.1)).Nodup
 | .set S n => h.SetOf (intKind P w) a S n
 | .ins C dx fs => H dx = some (.own a) ∧ fs.length ≤ 1000 ∧ dx ≠ a ∧ h.get? a = some (PySem.W.instObj C dx) ∧
   ∃ mA, h.Ns1 dx mA ∧ (∀ f, RelO (fs.lookup f) (mA f)) ∧ PySem.Within mA (fs.map (·.1))
 | .own _ => ∃ o, h.get? a = some o
 | .xd fs => ∃ mA, h.Ns1 a mA ∧ ∀ f, RelO (fs.lookup f) (mA f)
 | .rng lo hi => ∃ t u v, h.get? a = some { cls := .type "range", data := .fields #[.int lo t, .int hi u, .int 1 v] }
 | .frz o u => h.get? a = some o ∧ ObjOk H h a u
 | .tbl ps => h.get? a = some { cls := .none, data := .fields ps }
 | .met f x => h.get? a = some (PySem.W.methodObj (.ref f) (.ref x))
 | .ext φ => φ h ∧ (∃ o, h.get? a = some o) ∧ ∀ h1 h2 : Heap, φ h1 → (∀ o, h1.get? a = some o → h2.get? a = some o) → φ h2
def HOk (H : Hp) (h : Heap) : Prop := ∀ a o, H a = some o → ObjOk P w H h a o
end
section
variable {P : Program} {w : World} {H H' : Hp} {h h' : Heap} {a : Addr} {o : HO}
theorem ObjOk.lt (x : ObjOk P w H h a o) : a < h.objs.size := by
 cases o with
 | lst xs => obtain ⟨_, _, _, _, e⟩ := x; exact Heap.lt_size e
 | tup xs => obtain ⟨_, _, _, p, _⟩ := x; exact p.lt
 | par xs => obtain ⟨_, _, _, p⟩ := x; exact p.lt
 | dK kvs => obtain ⟨_, _, _, _, o, _, _, e, _⟩ := x; exact Heap.lt_size e
 | dT kvs => obtain ⟨_, _, _, _, o, _, _, e, _⟩ := x; exact Heap.lt_size e
 | set S n => obtain ⟨o, _, _, _, e, _⟩ := x; exact Heap.lt_size e
 | ins C dx fs => obtain ⟨_, _, _, e, _⟩ := x; exact Heap.lt_size e
 | own y => obtain ⟨_, e⟩ := x; exact Heap.lt_size e
 | xd fs => obtain ⟨_, ⟨_, _, _, e, _⟩, _⟩ := x; exact Heap.lt_size e
 | rng lo hi => obtain ⟨_, _, _, e⟩ := x; exact Heap.lt_size e
 | frz ob u => obtain ⟨e, _⟩ := x; exact Heap.lt_size e
 | tbl ps => exact Heap.lt_size (show h.get? a = some _ from x)
 | met f y => exact Heap.lt_size (show h.get? a = some _ from x)
 | ext φ => obtain ⟨_, ⟨_, e⟩, _⟩ := x; exact Heap.lt_size e
theorem Paired.mapP {α β : Type} {F G : α → β → Prop} : ∀ {l₁ : List α} {l₂ : List β}, Paired F l₁ l₂ → (∀ a b, F a b → G a b) → Paired G l₁ l₂
 | _, _, .nil, _ => .nil
 | _, _, .cons r t, f => .cons (f _ _ r) (Paired.mapP t f)
theorem ObjOk.stay (x : ObjOk P w H h a o) (k : ∀ b u, (b = a ∨ H b = some (.own a)) → h.get? b = some u → h'.get? b = some u)
  (ho : ∀ b, H b = some (.own a) → H' b = some (.own a)) (ht : ∀ b xs, H b = some (.tup xs) → H' b = some (.tup xs)) : ObjOk P w H' h' a o := by
 induction o with
 | lst xs => obtain ⟨z, its, n, r, e⟩ := x; exact ⟨z, its, n, r, k _ _ (.inl rfl) e⟩
 | tup xs => obtain ⟨z, its, r, ⟨ob, e, c⟩, o2, e2, c2⟩ := x; exact ⟨z, its, r, ⟨ob, k _ _ (.inl rfl) e, c⟩, o2, k _ _ (.inl rfl) e2, c2⟩
 | par xs => obtain ⟨z, its, r, ob, e, c⟩ := x; exact ⟨z, its, r, ob, k _ _ (.inl rfl) e, c⟩
 | dK kvs => obtain ⟨z, y, vs, r, ob, es, ep, e, c⟩ := x; exact ⟨z, y, vs, r, ob, es, ep, k _ _ (.inl rfl) e, c⟩
 | dT kvs =>
  obtain ⟨z, y, xs, r, ob, es, ep, e, c⟩ := x
  exact ⟨z, y, xs, Paired.mapP r fun p q z => ⟨z.1, ht _ _ z.2.1, z.2.2⟩, ob, es, ep, k _ _ (.inl rfl) e, c⟩
 | set S n => obtain ⟨ob, es, ep, t, e, c⟩ := x; exact ⟨ob, es, ep, t, k _ _ (.inl rfl) e, c⟩
 | ins C dx fs =>
  obtain ⟨d, z, ne, e, mA, ⟨od, es, ep, e2, c⟩, r⟩ := x
  exact ⟨ho _ d, z, ne, k _ _ (.inl rfl) e, mA, ⟨od, es, ep, k _ _ (.inr d) e2, c⟩, r⟩
 | own y => obtain ⟨ob, e⟩ := x; exact ⟨ob, k _ _ (.inl rfl) e⟩
 | xd fs => obtain ⟨mA, ⟨od, es, ep, e, c⟩, r⟩ := x; exact ⟨mA, ⟨od, es, ep, k _ _ (.inl rfl) e, c⟩, r⟩
 | rng lo hi => obtain ⟨t, u, v, e⟩ := x; exact ⟨t, u, v, k _ _ (.inl rfl) e⟩
 | frz ob u ih => obtain ⟨e, q⟩ := x; exact ⟨k _ _ (.inl rfl) e, ih q⟩
 | tbl ps =>
  have e : h.get? a = some { cls := .none, data := .fields ps } := x
  show h'.get? a = some { cls := .none, data := .fields ps }
  exact k a _ (.inl rfl) e
 | met f y =>
  have e : h.get? a = some (PySem.W.methodObj (.ref f) (.ref y)) := x
  show h'.get? a = some (PySem.W.methodObj (.ref f) (.ref y))
  exact k a _ (.inl rfl) e
 | ext φ => obtain ⟨p, ⟨o, e⟩, st⟩ := x; exact ⟨st _ _ p fun o q => k _ _ (.inl rfl) q, ⟨o, k _ _ (.inl rfl) e⟩, st⟩
theorem HOk.lt (x : HOk P w H h) (e : H a = some o) : a < h.objs.size := (x a o e).lt
theorem HOk.fresh (x : HOk P w H h) (e : h.objs.size ≤ a) : H a = none := by
 cases q : H a with
 | none => rfl
 | some u => exact absurd (Nat.lt_of_lt_of_le (x.lt q) e) (Nat.lt_irrefl _)
theorem HOk.kept (x : HOk P w H h) (k : ∀ b u, h.get? b = some u → h'.get? b = some u) : HOk P w H h' := fun a o e =>
 (x a o e).stay (fun b u _ q => k b u q) (fun _ q => q) fun _ _ q => q
theorem HOk.laid (x : HOk P w H h) (k : ∀ b u, h.get? b = some u → h'.get? b = some u) (hp : h.objs.size ≤ a) (new : ObjOk P w (upd H a o) h' a o) : HOk P w (upd H a o) h' := fun b u e => by
 have hn := x.fresh hp
 by_cases hb : b = a
 ·subst hb; rw [Zc] at e; cases e; exact new
 ·rw [Zg hb] at e
  exact (x b u e).stay (fun c v _ q => k c v q) (fun c q => by rw [Zg (Zj q hn)]; exact q) fun c xs q => by rw [Zg (Zj q hn)]; exact q
end
def Rd (H : Hp) (a : Addr) (u : HO) : Prop := H a = some u ∨ ∃ o, H a = some (.frz o u)
theorem Rd.ok {P : Program} {w : World} {H : Hp} {h : Heap} {a : Addr} {u : HO} (r : Rd H a u) (x : HOk P w H h) : ObjOk P w H h a u := by
 rcases r with r | ⟨o, r⟩
 ·exact x a u r
 ·obtain ⟨_, q⟩ := x a _ r
  exact q
def Mut : Option HO → Prop
 | some (.lst _) => True
 | some (.dK _) => True
 | some (.dT _) => True
 | some (.set _ _) => True
 | some (.ins _ _ _) => True
 | some (.ext _) => True
 | _ => False
section
variable {P : Program} {w : World} {H : Hp} {h h' : Heap} {x e : Addr} {o' : HO}
theorem HOk.write (ok : HOk P w H h) (mu : Mut (H x)) (he : e = x ∨ H e = some (.own x)) (k : ∀ b u, b ≠ e → h.get? b = some u → h'.get? b = some u) (heo : ∃ u, h'.get? e = some u)
  (new : ObjOk P w (upd H x o') h' x o') : HOk P w (upd H x o') h' := fun b u q => by
 have nown : ∀ c y, H c = some (.own y) → c ≠ x := fun c y r z => by subst z; rw [r] at mu; exact mu
 have ntup : ∀ c xs, H c = some (.tup xs) → c ≠ x := fun c xs r z => by subst z; rw [r] at mu; exact mu
 by_cases hb : b = x
 ·subst hb; rw [Zc] at q; cases q; exact new
 ·rw [Zg hb] at q
  by_cases hbe : b = e
  ·have q' : H b = some (.own x) := by
    rcases he with z | z
    ·exact absurd (hbe.trans z) hb
    ·rw [hbe]; exact z
   rw [q] at q'; cases q'
   obtain ⟨v, hv⟩ := heo
   exact ⟨v, by rw [hbe]; exact hv⟩
  ·refine (ok b u q).stay (fun c v hc r => k c v ?_ r) (fun c r => by rw [Zg (nown c b r)]; exact r) fun c xs r => by rw [Zg (ntup c xs r)]; exact r
   rcases hc with rfl | hc
   ·exact hbe
   ·rintro rfl
    rcases he with z | z
    ·exact nown c b hc z
    ·rw [hc] at z; cases z; exact hb rfl
end
structure Un (fs ex : List Addr) (H H' : Hp) (h h' : Heap) : Prop where
 keep : ∀ b o, h.get? b = some o → H b = none → b ∉ fs → b ∉ ex → h'.get? b = some o
 slot : ∀ b o, h.get? b = some o → H b = none → b ∈ fs → b ∉ ex → ∃ sl, h'.get? b = some { o with slots := sl }
 free : ∀ b o, h.get? b = some o → H b = none → b ∉ ex → H' b = none
 there : ∀ b o, h.get? b = some o → b ∉ ex → ∃ o', h'.get? b = some o'
 tups : ∀ b xs, H b = some (.tup xs) → H' b = some (.tup xs)
 frzs : ∀ b o u, H b = some (.frz o u) → H' b = some (.frz o u)
 tbls : ∀ b ps, H b = some (.tbl ps) → ∃ more, H' b = some (.tbl (ps ++ more))
section
variable {fs fs' ex ex' : List Addr} {H H1 H2 : Hp} {h h1 h2 h' : Heap} {a x e : Addr} {o : HO}
theorem Un.any (u : Un fs ex H H1 h h1) {b : Addr} {ob : Obj} (q : h.get? b = some ob) (n : H b = none) (hx : b ∉ ex) : ∃ sl, h1.get? b = some { ob with slots := sl } := by
 by_cases hb : b ∈ fs
 ·exact u.slot b ob q n hb hx
 ·exact ⟨ob.slots, u.keep b ob q n hb hx⟩
theorem Un.trans (a : Un fs ex H H1 h h1) (b : Un fs ex H1 H2 h1 h2) : Un fs ex H H2 h h2 where
 keep := fun c ob q n hc hx => b.keep c ob (a.keep c ob q n hc hx) (a.free c ob q n hx) hc hx
 slot := fun c ob q n hc hx => by
  obtain ⟨sl, e1⟩ := a.slot c ob q n hc hx
  obtain ⟨sl', e2⟩ := b.slot c _ e1 (a.free c ob q n hx) hc hx
  exact ⟨sl', e2⟩
 free := fun c ob q n hx => by
  obtain ⟨o', e1⟩ := a.there c ob q hx
  exact b.free c o' e1 (a.free c ob q n hx) hx
 there := fun c ob q hx => by
  obtain ⟨o', e1⟩ := a.there c ob q hx
  exact b.there c o' e1 hx
 tups := fun c xs q => b.tups c xs (a.tups c xs q)
 frzs := fun c ob xs q => b.frzs c ob xs (a.frzs c ob xs q)
 tbls := fun c ps q => by
  obtain ⟨m1, e1⟩ := a.tbls c ps q
  obtain ⟨m2, e2⟩ := b.tbls c _ e1
  exact ⟨m1 ++ m2, by rw [e2, Array.append_assoc]⟩
theorem Un.kept (k : ∀ b u, h.get? b = some u → h'.get? b = some u) : Un fs ex H H h h' :=
 ⟨fun b ob q _ _ _ => k b ob q, fun b ob q _ _ _ => ⟨ob.slots, k b ob q⟩, fun _ _ _ n _ => n, fun b ob q _ => ⟨ob, k b ob q⟩, fun _ _ q => q, fun _ _ _ q => q, fun _ ps q => ⟨#[], by rw [q]; simp⟩⟩
theorem Un.refl : Un fs ex H H h h := Un.kept fun _ _ q => q
theorem Un.laid (k : ∀ b u, h.get? b = some u → h'.get? b = some u) (hp : h.objs.size ≤ a) (hn : H a = none) : Un fs ex H (upd H a o) h h' where
 keep := fun b u q _ _ _ => k b u q
 slot := fun b u q _ _ _ => ⟨u.slots, k b u q⟩
 free := fun b u q n _ => by rw [Zg (Nat.ne_of_lt (Nat.lt_of_lt_of_le (Heap.lt_size q) hp))]; exact n
 there := fun b u q _ => ⟨u, k b u q⟩
 tups := fun b xs q => by rw [Zg (Zj q hn)]; exact q
 frzs := fun b u xs q => by rw [Zg (Zj q hn)]; exact q
 tbls := fun b ps q => ⟨#[], by rw [Zg (Zj q hn), q]; simp⟩
theorem Un.write (mu : Mut (H x)) (he : e = x ∨ H e = some (.own x)) (k : ∀ b u, b ≠ e → h.get? b = some u → h'.get? b = some u) (heo : ∃ u, h'.get? e = some u) : Un fs ex H (upd H x o) h h' := by
 have hx : ∀ b, H b = none → b ≠ x := fun b n z => by subst z; rw [n] at mu; exact mu
 have hb : ∀ b, H b = none → b ≠ e := fun b n z => by
  subst z
  rcases he with r | r
  ·exact hx b n r
  ·rw [n] at r; cases r
 have hm : ∀ b u, H b = some u → ¬ Mut (some u) → b ≠ x := fun b u q nm z => by subst z; rw [q] at mu; exact nm mu
 refine ⟨fun b u q n _ _ => k b u (hb b n) q, fun b u q n _ _ => ⟨u.slots, k b u (hb b n) q⟩, fun b u q n _ => by rw [Zg (hx b n)]; exact n, fun b u q _ => ?_,
  fun b xs q => by rw [Zg (hm b _ q fun z => z)]; exact q, fun b u xs q => by rw [Zg (hm b _ q fun z => z)]; exact q, fun b ps q => ⟨#[], by rw [Zg (hm b _ q fun z => z), q]; simp⟩⟩
 by_cases hbe : b = e
 ·subst hbe; exact heo
 ·exact ⟨u, k b u hbe q⟩
theorem Un.mono (u : Un fs ex H H1 h h1) (hs : ∀ b ∈ fs, b ∈ fs') (hx : ∀ b ∈ ex, b ∈ ex') : Un fs' ex' H H1 h h1 :=
 ⟨fun b ob q n hb he => u.keep b ob q n (fun z => hb (hs b z)) fun z => he (hx b z), fun _ _ q n _ he => u.any q n fun z => he (hx _ z), fun b ob q n he => u.free b ob q n fun z => he (hx b z), fun b ob q he => u.there b ob q fun z => he (hx b z), u.tups, u.frzs, u.tbls⟩
end
def trk (h : Heap) (H : Hp) : List Addr := (List.range h.objs.size).filter fun a => (H a).isSome
def hidT (h : Heap) (H : Hp) : Heap := PySem.W.hideAll h (trk h H)
theorem Wz (h : Heap) (H : Hp) : (hidT h H).objs.size = h.objs.size := PySem.W.hideAll_size _ _
theorem Uw {h : Heap} {H : Hp} {b : Addr} {o : Obj} (e : h.get? b = some o) (n : H b = none) : (hidT h H).get? b = some o :=
 PySem.W.hideAll_get _ e fun hm => by
  have q : (H b).isSome = true := (List.mem_filter.mp hm).2
  rw [n] at q; simp at q
theorem Zak {h : Heap} {H : Hp} {b : Addr} {o : Obj} (e : (hidT h H).get? b = some o) : h.get? b = some o ∧ H b = none := by
 have e' : h.get? b = some o := PySem.W.of_hideAll (trk h H) e
 refine ⟨e', ?_⟩
 cases q : H b with
 | none => rfl
 | some x =>
  have hm : b ∈ trk h H := List.mem_filter.mpr ⟨List.mem_range.mpr (Heap.lt_size e'), by simp [q]⟩
  have z : (hidT h H).get? b = none := PySem.W.hideAll_none (trk h H) hm
  rw [z] at e; cases e
def allNews (g h : Heap) (L : Addr) : List (Addr × Obj) := (List.range h.objs.size).filterMap fun a => if a = L ∨ (g.get? a).isSome = true then none else (h.get? a).map fun o => (a, o)
def rest (g h : Heap) (L d : Addr) : List (Addr × Obj) := (allNews g h L).filter fun p => decide (p.1 ≠ d)
end L2
namespace L2
open PySem PySem.Spec PyProof.Rows
structure Mod (K : PySem.W.Frag) (mg : Str → Option Value) (base : Heap) : Prop where
 kin : K.In base
 glob : base.Ns mainGlobals mg
 blt : ∃ mb, base.Ns builtinsNs mb ∧ ∀ x : Str, x ≠ "__name__" → mb x = bootBuiltins x
 nolimit : base.NoLimit
structure Cx where
 prog : Program
 w : World
 K : PySem.W.Frag
 mg : Str → Option Value
 base : Heap
 A : Around
 N : List Str
 s₀ : Shared
 H₀ : Hp
 env : Env
 outer : List Env
 stack : List Env
 ex : List Addr
 fn : Str → Bool
 calm : Bool
 pn : List (Addr × Obj)
 xe : Value → Shared → Prop
def frs (l : List Env) : List Addr := l.filterMap (·.frame)
abbrev Cx.fs (X : Cx) : List Addr := frs X.outer
def Vis (sc : Scope) (x : Str) : Prop := sc.names.lookup x = some .local ∨ sc.names.lookup x = some .cell ∨ sc.names.lookup x = some .free
def Loc (sc : Scope) (x : Str) : Prop := sc.names.lookup x = some .local ∨ sc.names.lookup x = some .cell
def Look (env : Env) (h : Heap) (m : Str → Option Value) (x : Str) (u : Value) : Prop :=
 (env.kindOf x = some .local ∧ m x = some u) ∨ ((env.kindOf x = some .cell ∨ env.kindOf x = some .free) ∧ ∃ c, env.cells.lookup x = some c ∧ h.IsCell c (some u))
structure Cx.Ok (X : Cx) : Prop where
 mod : Mod X.K X.mg X.base
 kind : X.env.scope.kind = .function
 glob : X.env.globals = mainGlobals
 blt : X.env.builtins = builtinsNs
 above : X.s₀.heap.objs.size ≤ X.env.locals
 inj : ∀ x y c, X.env.cells.lookup x = some c → X.env.cells.lookup y = some c → x = y
 has : ∀ x, (X.env.kindOf x = some .cell ∨ X.env.kindOf x = some .free) → ∃ c, X.env.cells.lookup x = some c
 cab : ∀ x c, X.fn x = true → X.env.cells.lookup x = some c → X.s₀.heap.objs.size ≤ c
 hd : X.calm = true → X.A.handled = none
 frames : X.A.frames = some X.stack
 stk : X.stack = X.outer ∨ (X.stack = X.env :: X.outer ∧ X.env.frame = some X.env.locals)
 exf : ∀ b ∈ X.ex, b ≠ X.env.locals ∧ ∀ x c, X.env.cells.lookup x = some c → c ≠ b
 bs : ∀ b o, X.base.get? b = some o → X.s₀.heap.get? b = some o ∧ X.H₀ b = none
 bsz : X.base.objs.size ≤ X.s₀.heap.objs.size
 noex : ∀ b o, X.base.get? b = some o → b ∉ X.ex
 exfs : ∀ b ∈ X.ex, b ∉ X.fs
 funs : X.s₀.heap.FunFrames X.base X.outer
 frf : ∀ b ∈ X.fs, X.H₀ b = none
structure Inv (X : Cx) (pins : List (Addr × Obj)) (σ : List (Option V)) (H : Hp) (s : Shared) : Prop where
 ok : X.Ok
 os : s.os = X.s₀.os
 bare : AllBare s.gens
 base : Un X.fs X.ex X.H₀ H X.s₀.heap s.heap
 loc : ∃ m, s.heap.Ns X.env.locals m ∧ ∀ (i : Nat) (x : Str) (v : V), X.N[i]? = some x → σ[i]? = some (some v) → Vis X.env.scope x → ∃ u, RelV v u ∧ Look X.env s.heap m x u
 cell : ∀ x c, X.env.cells.lookup x = some c → ∃ v, s.heap.IsCell c v
 free : H X.env.locals = none
 freeC : ∀ x c, X.env.cells.lookup x = some c → H c = none
 pin : ∀ p ∈ X.pn ++ pins, s.heap.get? p.1 = some p.2 ∧ H p.1 = none ∧ p.1 ≠ X.env.locals ∧ p.1 ∉ X.fs ∧ ∀ v, p.2.data ≠ .cell v
 hok : HOk X.prog X.w H s.heap
 len : σ.length = X.N.length
section
variable {X : Cx} {pins : List (Addr × Obj)} {σ : List (Option V)} {H H' : Hp} {s : Shared} {h' : Heap}
theorem Cx.Ok.nofr (ok : X.Ok) {b : Addr} {o : Obj} (e : X.base.get? b = some o) : b ∉ X.fs := fun hb => by
 have := (ok.funs.mem hb).1
 rw [e] at this; cases this
theorem Inv.bs (I : Inv X pins σ H s) : ∀ b o, X.base.get? b = some o → s.heap.get? b = some o ∧ H b = none := fun b o e =>
 ⟨I.base.keep b o (I.ok.bs b o e).1 (I.ok.bs b o e).2 (I.ok.nofr e) (I.ok.noex b o e), I.base.free b o (I.ok.bs b o e).1 (I.ok.bs b o e).2 (I.ok.noex b o e)⟩
theorem Inv.bk (I : Inv X pins σ H s) : ∀ b o, X.base.get? b = some o → s.heap.get? b = some o := fun b o e => (I.bs b o e).1
theorem Inv.mod (I : Inv X pins σ H s) : Mod X.K X.mg X.base := I.ok.mod
theorem Inv.kIn (I : Inv X pins σ H s) : X.K.In s.heap := I.ok.mod.kin.keeps I.bk
theorem Inv.lt (I : Inv X pins σ H s) : X.env.locals < s.heap.objs.size := let ⟨_, hn, _⟩ := I.loc; hn.lt
theorem Inv.sz (I : Inv X pins σ H s) : X.s₀.heap.objs.size ≤ s.heap.objs.size := Nat.le_trans I.ok.above (Nat.le_of_lt I.lt)
theorem Inv.nofs (I : Inv X pins σ H s) {a : Addr} (h : s.heap.objs.size ≤ a) : a ∉ X.fs := fun hb => by
 obtain ⟨_, o, ho, _⟩ := I.ok.funs.mem hb
 exact absurd (Nat.lt_of_lt_of_le (Heap.lt_size ho) (Nat.le_trans I.sz h)) (Nat.lt_irrefl _)
theorem Inv.cne (I : Inv X pins σ H s) : ∀ x c, X.env.cells.lookup x = some c → c ≠ X.env.locals := fun x c e z => by
 obtain ⟨v, o, ho, hd⟩ := I.cell x c e
 obtain ⟨m, ⟨o', es, ep, ho', hd', _⟩, _⟩ := I.loc
 rw [z, ho'] at ho; cases ho; rw [hd'] at hd; cases hd
theorem Inv.funs (I : Inv X pins σ H s) : s.heap.FunFrames X.base X.outer := by
 have all : ∀ (l : List Env), (∀ b ∈ frs l, b ∈ X.fs) → X.s₀.heap.FunFrames X.base l → s.heap.FunFrames X.base l := by
  intro l
  induction l with
  | nil => intro _ _; trivial
  | cons env r ih =>
   intro hs hl
   obtain ⟨hk, ⟨L, o, hf, hn, ho, hd⟩, hr⟩ := hl
   have hL : L ∈ X.fs := hs L (by unfold frs; rw [List.filterMap_cons, hf]; exact List.mem_cons_self)
   obtain ⟨sl, e⟩ := I.base.slot L o ho (I.ok.frf L hL) hL fun z => I.ok.exfs L z hL
   exact ⟨hk, ⟨L, _, hf, hn, e, hd⟩, ih (fun b hb => hs b (by unfold frs; rw [List.filterMap_cons, hf]; exact List.mem_cons_of_mem _ hb)) hr⟩
 exact all X.outer (fun _ hb => hb) I.ok.funs
theorem Inv.stack (I : Inv X pins σ H s) : s.heap.FunFrames X.base X.stack := by
 rcases I.ok.stk with e | ⟨e, hf⟩
 ·rw [e]; exact I.funs
 ·rw [e]
  obtain ⟨m, hn, _⟩ := I.loc
  refine .cons (by rw [I.ok.kind]; decide) hf hn ?_ I.funs
  exact Heap.get?_none_of_le (Nat.le_trans I.ok.bsz I.ok.above)
theorem Inv.stkSub (I : Inv X pins σ H s) : ∀ b ∈ frs X.stack, b ∈ X.env.locals :: X.fs := fun b hb => by
 rcases I.ok.stk with e | ⟨e, hf⟩
 ·rw [e] at hb; exact List.mem_cons_of_mem _ hb
 ·rw [e] at hb
  unfold frs at hb
  rw [List.filterMap_cons, hf] at hb
  exact hb
theorem Inv.stkFree (I : Inv X pins σ H s) : ∀ b ∈ frs X.stack, H b = none := fun b hb => by
 rcases List.mem_cons.mp (I.stkSub b hb) with e | hb
 ·rw [e]; exact I.free
 ·obtain ⟨_, o, ho, _⟩ := I.ok.funs.mem hb
  exact I.base.free b o ho (I.ok.frf b hb) fun z => I.ok.exfs b z hb
theorem Inv.step {g' : Array GenState} {t' : Nat} {d' : Drawn} {ch : List Addr} (I : Inv X pins σ H s)
  (hch : ∀ b ∈ ch, (b ∈ X.ex ∨ X.s₀.heap.objs.size ≤ b) ∧ b ≠ X.env.locals ∧ (∀ x c, X.env.cells.lookup x = some c → c ≠ b) ∧ ∀ p ∈ X.pn ++ pins, p.1 ≠ b)
  (keep : ∀ b o, b ≠ X.env.locals → b ∉ X.fs → b ∉ ch → s.heap.get? b = some o → H b = none → h'.get? b = some o)
  (slot : ∀ b o, b ≠ X.env.locals → b ∈ X.fs → b ∉ ch → s.heap.get? b = some o → H b = none → ∃ sl, h'.get? b = some { o with slots := sl }) (free : ∀ b o, b ∉ ch → s.heap.get? b = some o → H b = none → H' b = none)
  (there : ∀ b o, b ∉ ch → s.heap.get? b = some o → ∃ o', h'.get? b = some o')
  (tups : ∀ b xs, H b = some (.tup xs) → H' b = some (.tup xs)) (frzs : ∀ b o u, H b = some (.frz o u) → H' b = some (.frz o u)) (tbls : ∀ b ps, H b = some (.tbl ps) → ∃ more, H' b = some (.tbl (ps ++ more)))
  (ns : ∀ m, s.heap.Ns X.env.locals m → h'.Ns X.env.locals m) (hok : HOk X.prog X.w H' h') (hg : AllBare g') :
  Inv X pins σ H' { s with heap := h', gens := g', drawn := d', toks := t' } := by
 have neL : ∀ b o, X.s₀.heap.get? b = some o → b ≠ X.env.locals := fun b o e => Nat.ne_of_lt (Nat.lt_of_lt_of_le (Heap.lt_size e) I.ok.above)
 have neC : ∀ b o, X.s₀.heap.get? b = some o → b ∉ X.ex → b ∉ ch := fun b o e hx hb => by
  rcases (hch b hb).1 with z | z
  ·exact hx z
  ·exact absurd (Nat.lt_of_lt_of_le (Heap.lt_size e) z) (Nat.lt_irrefl _)
 have cellK : ∀ x c, X.env.cells.lookup x = some c → ∀ v, s.heap.IsCell c v → h'.IsCell c v := fun x c e v ⟨o, ho, hd⟩ => by
  have nch : c ∉ ch := fun z => (hch c z).2.2.1 x c e rfl
  by_cases hc : c ∈ X.fs
  ·obtain ⟨sl, q⟩ := slot c o (I.cne x c e) hc nch ho (I.freeC x c e)
   exact ⟨_, q, hd⟩
  ·exact ⟨o, keep c o (I.cne x c e) hc nch ho (I.freeC x c e), hd⟩
 refine ⟨I.ok, I.os, hg, ⟨fun b o e n hb hx => ?_, fun b o e n hb hx => ?_, fun b o e n hx => ?_, fun b o e hx => ?_, fun b xs e => tups b xs (I.base.tups b xs e), fun b o xs e => frzs b o xs (I.base.frzs b o xs e), fun b ps e => ?_⟩, ?_, fun x c e => ?_, ?_, fun x c e => ?_, fun p hp => ?_, hok, I.len⟩
 ·exact keep b o (neL b o e) hb (neC b o e hx) (I.base.keep b o e n hb hx) (I.base.free b o e n hx)
 ·obtain ⟨sl, e1⟩ := I.base.slot b o e n hb hx
  obtain ⟨sl', e2⟩ := slot b _ (neL b o e) hb (neC b o e hx) e1 (I.base.free b o e n hx)
  exact ⟨sl', e2⟩
 ·obtain ⟨o', e1⟩ := I.base.there b o e hx
  exact free b o' (neC b o e hx) e1 (I.base.free b o e n hx)
 ·obtain ⟨o', e1⟩ := I.base.there b o e hx
  exact there b o' (neC b o e hx) e1
 ·obtain ⟨m1, e1⟩ := I.base.tbls b ps e
  obtain ⟨m2, e2⟩ := tbls b _ e1
  exact ⟨m1 ++ m2, by rw [e2, Array.append_assoc]⟩
 ·obtain ⟨m, hn, hl⟩ := I.loc
  refine ⟨m, ns m hn, fun i x v e1 e2 e3 => ?_⟩
  obtain ⟨u, r, l⟩ := hl i x v e1 e2 e3
  refine ⟨u, r, ?_⟩
  rcases l with l | ⟨k, c, e, z⟩
  ·exact .inl l
  ·exact .inr ⟨k, c, e, cellK x c e _ z⟩
 ·obtain ⟨v, z⟩ := I.cell x c e
  exact ⟨v, cellK x c e v z⟩
 ·obtain ⟨m, ⟨o, _, _, ho, _⟩, _⟩ := I.loc
  exact free _ o (fun z => (hch _ z).2.1 rfl) ho I.free
 ·obtain ⟨v, o, ho, hd⟩ := I.cell x c e
  exact free c o (fun z => (hch c z).2.2.1 x c e rfl) ho (I.freeC x c e)
 ·obtain ⟨e, n, ne, nf, d⟩ := I.pin p hp
  have nch : p.1 ∉ ch := fun z => (hch p.1 z).2.2.2 p hp rfl
  exact ⟨keep p.1 p.2 ne nf nch e n, free p.1 p.2 nch e n, ne, nf, d⟩
theorem Inv.un {t' : Nat} (I : Inv X pins σ H s) (u : Un X.fs [] H H' s.heap h') (hok : HOk X.prog X.w H' h') : Inv X pins σ H' { s with heap := h', toks := t' } := by
 obtain ⟨m, ⟨o, es, ep, ho, r⟩, _⟩ := id I.loc
 obtain ⟨sl, hL⟩ := u.any ho I.free (by simp)
 exact I.step (g' := s.gens) (d' := s.drawn) (ch := []) (fun _ z => nomatch z) (fun b o _ hb _ e n => u.keep b o e n hb (by simp)) (fun b o _ hb _ e n => u.slot b o e n hb (by simp)) (fun b o _ e n => u.free b o e n (by simp)) (fun b o _ e => u.there b o e (by simp)) u.tups u.frzs u.tbls (fun m' hm => by
  obtain ⟨o', es', ep', ho', r'⟩ := hm
  rw [ho] at ho'; cases ho'
  exact ⟨_, es', ep', hL, r'⟩) hok I.bare
theorem Inv.call {g' : Array GenState} {t' : Nat} {d' : Drawn} {ch : List Addr} (I : Inv X pins σ H s) (u : Un (frs X.stack) ch H H' s.heap h') (hok : HOk X.prog X.w H' h') (hg : AllBare g')
  (hch : ∀ b ∈ ch, (b ∈ X.ex ∨ X.s₀.heap.objs.size ≤ b) ∧ b ≠ X.env.locals ∧ (∀ x c, X.env.cells.lookup x = some c → c ≠ b) ∧ ∀ p ∈ X.pn ++ pins, p.1 ≠ b) :
  Inv X pins σ H' { s with heap := h', gens := g', drawn := d', toks := t' } := by
 obtain ⟨m, ⟨o, es, ep, ho, r⟩, _⟩ := id I.loc
 obtain ⟨sl, hL⟩ := u.any ho I.free fun z => (hch _ z).2.1 rfl
 exact I.step (ch := ch) hch (fun b o hL hb hc e n => u.keep b o e n (fun z => (List.mem_cons.mp (I.stkSub b z)).elim hL hb) hc) (fun b o _ _ hc e n => u.any e n hc) (fun b o hc e n => u.free b o e n hc) (fun b o hc e => u.there b o e hc) u.tups u.frzs u.tbls (fun m' hm => by
  obtain ⟨o', es', ep', ho', r'⟩ := hm
  rw [ho] at ho'; cases ho'
  exact ⟨_, es', ep', hL, r'⟩) hok hg
theorem Inv.turned {t' : Nat} {it : Addr} (I : Inv X pins σ H s) (k : ∀ b o, b ≠ it → s.heap.get? b = some o → h'.get? b = some o) (hn : H it = none) (hL : it ≠ X.env.locals)
  (h1 : it ∈ X.ex ∨ X.s₀.heap.objs.size ≤ it) (h2 : ∀ x c, X.env.cells.lookup x = some c → c ≠ it) (h3 : ∀ p ∈ X.pn ++ pins, p.1 ≠ it) : Inv X pins σ H { s with heap := h', toks := t' } := by
 have nit : ∀ b u, H b = some u → b ≠ it := fun b u e z => by rw [z, hn] at e; cases e
 refine I.step (g' := s.gens) (d' := s.drawn) (ch := [it]) (fun b hb => ?_) (fun b o _ _ hc e _ => k b o (fun z => hc (by simp [z])) e) (fun b o _ _ hc e _ => ⟨o.slots, k b o (fun z => hc (by simp [z])) e⟩) (fun _ _ _ _ n => n)
  (fun b o hc e => ⟨o, k b o (fun z => hc (by simp [z])) e⟩) (fun _ _ e => e) (fun _ _ _ e => e) (fun b ps e => ⟨#[], by rw [e]; simp⟩) (fun m hm => ?_) (fun b u e => ?_) I.bare
 ·have e : b = it := by simpa using hb
  subst e
  exact ⟨h1, hL, h2, h3⟩
 ·obtain ⟨o, es, ep, ho, r⟩ := hm
  exact ⟨o, es, ep, k _ o (Ne.symm hL) ho, r⟩
 ·refine (I.hok b u e).stay (fun c v hc q => k c v ?_ q) (fun _ q => q) fun _ _ q => q
  rcases hc with z | z
  ·rw [z]; exact nit b u e
  ·exact nit c _ z
theorem Inv.tok (I : Inv X pins σ H s) (t : Nat) : Inv X pins σ H { s with toks := t } := I.un (h' := s.heap) (t' := t) Un.refl I.hok
theorem Inv.kept {t' : Nat} (I : Inv X pins σ H s) (k : ∀ b u, s.heap.get? b = some u → h'.get? b = some u) : Inv X pins σ H { s with heap := h', toks := t' } := I.un (Un.kept k) (I.hok.kept k)
theorem Inv.laid {a : Addr} {o : HO} {t' : Nat} (I : Inv X pins σ H s) (k : ∀ b u, s.heap.get? b = some u → h'.get? b = some u) (hp : s.heap.objs.size ≤ a) (new : ObjOk X.prog X.w (upd H a o) h' a o) :
  Inv X pins σ (upd H a o) { s with heap := h', toks := t' } := I.un (Un.laid k hp (I.hok.fresh hp)) (I.hok.laid k hp new)
theorem Inv.write {x e : Addr} {o : HO} {t' : Nat} (I : Inv X pins σ H s) (mu : Mut (H x)) (he : e = x ∨ H e = some (.own x)) (k : ∀ b u, b ≠ e → s.heap.get? b = some u → h'.get? b = some u) (heo : ∃ u, h'.get? e = some u)
  (new : ObjOk X.prog X.w (upd H x o) h' x o) : Inv X pins σ (upd H x o) { s with heap := h', toks := t' } := I.un (Un.write mu he k heo) (I.hok.write mu he k heo new)
theorem Inv.pins_of {pins' : List (Addr × Obj)} (I : Inv X pins σ H s) (h : ∀ p ∈ pins', s.heap.get? p.1 = some p.2 ∧ H p.1 = none ∧ p.1 ≠ X.env.locals ∧ p.1 ∉ X.fs ∧ ∀ v, p.2.data ≠ .cell v) : Inv X pins' σ H s :=
 ⟨I.ok, I.os, I.bare, I.base, I.loc, I.cell, I.free, I.freeC, fun p hp => (List.mem_append.mp hp).elim (fun z => I.pin p (List.mem_append_left _ z)) (h p), I.hok, I.len⟩
theorem JZ {N : List Str} (hN : N.Nodup) {i j : Nat} {x : Str} (a : N[i]? = some x) (b : N[j]? = some x) : i = j := by
 obtain ⟨h1, e1⟩ := List.getElem?_eq_some_iff.mp a
 obtain ⟨h2, e2⟩ := List.getElem?_eq_some_iff.mp b
 exact (List.getElem_inj hN).mp (e1.trans e2.symm)
theorem Wo {M : Model} {A : Around} {E : Value → Shared → Prop} {i : Nat} {x : Str} {v : V} {u : Value} {Q : Unit → Shared → Prop} (I : Inv X pins σ H s) (hN : X.N.Nodup) (hi : X.N[i]? = some x) (hx : Loc X.env.scope x) (r : RelV v u)
  (h : ∀ s', Inv X pins (σ.set i (some v)) H s' → (∃ a, Heap.SameBut a s.heap s'.heap ∧ (a = X.env.locals ∨ X.env.cells.lookup x = some a)) → Q () s') (hf : X.fn x = true ∨ X.env.scope.names.lookup x = some .local := by first | exact .inl rfl | exact .inr rfl | assumption) : wpAny M A (storeName X.env x u) Q E s := by
 obtain ⟨m, hn, hl⟩ := id I.loc
 have hcls : (X.env.scope.kind == .class || (X.env.scope.kind == .module && X.env.locals != X.env.globals)) = false := by rw [I.ok.kind]; rfl
 have hiσ : i < σ.length := by rw [I.len]; exact (List.getElem?_eq_some_iff.mp hi).1
 have cne := I.cne
 have tracked : ∀ {a : Addr} {h' : Heap}, (∃ o, s.heap.get? a = some o ∧ H a = none) → Heap.SameBut a s.heap h' → HOk X.prog X.w H h' := fun {a h'} ha hs b ob e => by
  obtain ⟨_, _, hfree⟩ := ha
  refine (I.hok b ob e).stay (fun c w' hc q => (hs.2 c ?_).trans q) (fun _ q => q) fun _ _ q => q
  rintro rfl
  rcases hc with rfl | hc
  ·rw [hfree] at e; cases e
  ·rw [hfree] at hc; cases hc
 rcases hx with hk | hk
 ·refine wpAny_storeName_local hk hn (fun h' hn' hs => ?_) hcls
  obtain ⟨oL, _, _, hoL, _⟩ := id hn
  refine h _ ⟨I.ok, I.os, I.bare, ⟨fun b o e n hb hx => ?_, fun b o e n hb hx => ?_, I.base.free, fun b o e hx => ?_, I.base.tups, I.base.frzs, I.base.tbls⟩, ⟨_, hn', fun j y v' e1 e2 e3 => ?_⟩, fun y c e => ?_, I.free, I.freeC, fun p hp => ?_, tracked ⟨oL, hoL, I.free⟩ hs, by simpa using I.len⟩ ⟨_, hs, .inl rfl⟩
  ·exact (hs.2 b (Nat.ne_of_lt (Nat.lt_of_lt_of_le (Heap.lt_size e) I.ok.above))).trans (I.base.keep b o e n hb hx)
  ·obtain ⟨sl, e1⟩ := I.base.slot b o e n hb hx
   exact ⟨sl, (hs.2 b (Nat.ne_of_lt (Nat.lt_of_lt_of_le (Heap.lt_size e) I.ok.above))).trans e1⟩
  ·obtain ⟨o', e1⟩ := I.base.there b o e hx
   exact ⟨o', (hs.2 b (Nat.ne_of_lt (Nat.lt_of_lt_of_le (Heap.lt_size e) I.ok.above))).trans e1⟩
  ·by_cases hj : j = i
   ·subst hj
    rw [hi] at e1; cases e1
    rw [List.getElem?_set_self hiσ] at e2
    cases e2
    exact ⟨u, r, .inl ⟨hk, by simp⟩⟩
   ·rw [List.getElem?_set_ne (Ne.symm hj)] at e2
    obtain ⟨u', r', q⟩ := hl j y v' e1 e2 e3
    refine ⟨u', r', ?_⟩
    rcases q with ⟨k, e⟩ | ⟨k, c, e, z⟩
    ·refine .inl ⟨k, ?_⟩
     have : y ≠ x := fun e => hj (JZ hN e1 (e ▸ hi))
     simp [this, e]
    ·exact .inr ⟨k, c, e, z.sameBut hs (cne y c e)⟩
  ·obtain ⟨w', z⟩ := I.cell y c e
   exact ⟨w', z.sameBut hs (cne y c e)⟩
  ·obtain ⟨e, n, ne, nf, d⟩ := I.pin p hp
   exact ⟨(hs.2 p.1 ne).trans e, n, ne, nf, d⟩
 ·have hfn : X.fn x = true := by
   rcases hf with z | z
   ·exact z
   ·rw [z] at hk; cases hk
  obtain ⟨c, hc⟩ := I.ok.has x (.inl hk)
  obtain ⟨w', z⟩ := I.cell x c hc
  refine wpAny_storeName_cell I.ok.kind hk hc z (fun h' hc' hs => ?_)
  obtain ⟨oc, hoc, hocd⟩ := id z
  refine h { s with heap := h' } ⟨I.ok, I.os, I.bare, ⟨fun b o e n hb hx => ?_, fun b o e n hb hx => ?_, I.base.free, fun b o e hx => ?_, I.base.tups, I.base.frzs, I.base.tbls⟩, ⟨m, hn.sameBut hs (Ne.symm (cne x c hc)), fun j y v' e1 e2 e3 => ?_⟩, fun y c' e => ?_, I.free, I.freeC, fun p hp => ?_, tracked ⟨oc, hoc, I.freeC x c hc⟩ hs, by simpa using I.len⟩ ⟨c, hs, .inr hc⟩
  ·exact (hs.2 b (Nat.ne_of_lt (Nat.lt_of_lt_of_le (Heap.lt_size e) (I.ok.cab x c hfn hc)))).trans (I.base.keep b o e n hb hx)
  ·obtain ⟨sl, e1⟩ := I.base.slot b o e n hb hx
   exact ⟨sl, (hs.2 b (Nat.ne_of_lt (Nat.lt_of_lt_of_le (Heap.lt_size e) (I.ok.cab x c hfn hc)))).trans e1⟩
  ·obtain ⟨o', e1⟩ := I.base.there b o e hx
   exact ⟨o', (hs.2 b (Nat.ne_of_lt (Nat.lt_of_lt_of_le (Heap.lt_size e) (I.ok.cab x c hfn hc)))).trans e1⟩
  ·by_cases hj : j = i
   ·subst hj
    rw [hi] at e1; cases e1
    rw [List.getElem?_set_self hiσ] at e2
    cases e2
    exact ⟨u, r, .inr ⟨.inl hk, c, hc, hc'⟩⟩
   ·rw [List.getElem?_set_ne (Ne.symm hj)] at e2
    obtain ⟨u', r', q⟩ := hl j y v' e1 e2 e3
    refine ⟨u', r', ?_⟩
    rcases q with q | ⟨k, c', e, z'⟩
    ·exact .inl q
    ·refine .inr ⟨k, c', e, z'.sameBut hs ?_⟩
     rintro rfl
     exact hj (JZ hN e1 (I.ok.inj _ _ _ e hc ▸ hi))
  ·by_cases hcc : c' = c
   ·subst hcc; exact ⟨_, hc'⟩
   ·obtain ⟨w2, z2⟩ := I.cell y c' e
    exact ⟨w2, z2.sameBut hs hcc⟩
  ·obtain ⟨e, n, ne, nf, d⟩ := I.pin p hp
   refine ⟨(hs.2 p.1 ?_).trans e, n, ne, nf, d⟩
   intro q
   rw [q, hoc] at e
   have q' : oc = p.2 := Option.some.inj e
   exact d w' (by rw [← q']; exact hocd)
theorem Ys {M : Model} {A : Around} {E : Value → Shared → Prop} {i : Nat} {x : Str} {v : V} {u : Value} {Q : Unit → Shared → Prop} (I : Inv X pins σ H s) (hN : X.N.Nodup) (hi : X.N[i]? = some x) (hx : Loc X.env.scope x) (r : RelV v u)
  (h : ∀ s', Inv X pins (σ.set i (some v)) H s' → Q () s') (hf : X.fn x = true ∨ X.env.scope.names.lookup x = some .local := by first | exact .inl rfl | exact .inr rfl | assumption) : wpAny M A (storeName X.env x u) Q E s :=
 Wo I hN hi hx r (fun s' I' _ => h s' I') hf
theorem Inv.call' {s' : Shared} {ch : List Addr} (I : Inv X pins σ H s) (ho : s'.os = s.os) (u : Un (frs X.stack) ch H H' s.heap s'.heap) (hok : HOk X.prog X.w H' s'.heap) (hg : AllBare s'.gens)
  (hch : ∀ b ∈ ch, (b ∈ X.ex ∨ X.s₀.heap.objs.size ≤ b) ∧ b ≠ X.env.locals ∧ (∀ x c, X.env.cells.lookup x = some c → c ≠ b) ∧ ∀ p ∈ X.pn ++ pins, p.1 ≠ b) : Inv X pins σ H' s' := by
 obtain ⟨h', g', d', t', o'⟩ := s'
 have e : o' = s.os := ho
 subst e
 exact I.call (g' := g') (t' := t') (d' := d') u hok hg hch
end
abbrev XK := Value → Option Addr → Hp → Prop
abbrev St := List (Option V)
abbrev VK := V → Hp → Prop
abbrev TE := St → Hp → VK → Prop
abbrev TT := St → Hp → (Bool → Hp → Prop) → Prop
abbrev TA := St → Hp → (List V → Hp → Prop) → Prop
structure Ends where
 nx : St → Hp → Prop
 rt : VK
 bk : St → Hp → Prop := fun _ _ => False
 ct : St → Hp → Prop := fun _ _ => False
abbrev TS := Ends → St → Hp → Prop
def EP (X : Cx) (pins : List (Addr × Obj)) (σ : St) (Q : VK) (u : Value) (s' : Shared) : Prop := ∃ v H', Inv X pins σ H' s' ∧ RelV v u ∧ Q v H'
def TP (X : Cx) (pins : List (Addr × Obj)) (σ : St) (Q : Bool → Hp → Prop) (b : Bool) (s' : Shared) : Prop := ∃ H', Inv X pins σ H' s' ∧ Q b H'
def AP (X : Cx) (pins : List (Addr × Obj)) (σ : St) (Q : List V → Hp → Prop) (us : List Value) (s' : Shared) : Prop := ∃ vs H', Inv X pins σ H' s' ∧ Vals vs us ∧ Q vs H'
def SP (X : Cx) (pins : List (Addr × Obj)) (D : Ends) (f : Flow) (s' : Shared) : Prop :=
 match f with
 | .next => ∃ σ' H', Inv X pins σ' H' s' ∧ D.nx σ' H'
 | .brk => ∃ σ' H', Inv X pins σ' H' s' ∧ D.bk σ' H'
 | .cont => ∃ σ' H', Inv X pins σ' H' s' ∧ D.ct σ' H'
 | .ret u => ∃ v σ' H', Inv X pins σ' H' s' ∧ RelV v u ∧ D.rt v H'
def PE (X : Cx) (e : Expr) (t : TE) : Prop :=
 ∀ (pins : List (Addr × Obj)) (s : Shared) (σ : St) (H : Hp) (Q : VK), Inv X pins σ H s → t σ H Q → wpAny (model X.prog X.w) X.A (eval e X.env) (EP X pins σ Q) X.xe s
def PT (X : Cx) (e : Expr) (t : TT) : Prop :=
 ∀ (pins : List (Addr × Obj)) (s : Shared) (σ : St) (H : Hp) (Q : Bool → Hp → Prop), Inv X pins σ H s → t σ H Q → wpAny (model X.prog X.w) X.A (isTrue e X.env (eval e X.env)) (TP X pins σ Q) X.xe s
def PW (X : Cx) (e : Expr) (t : TT) : Prop :=
 ∀ (whole : Sem Value) (pins : List (Addr × Obj)) (s : Shared) (σ : St) (H : Hp) (Q : Bool → Hp → Prop), Inv X pins σ H s → t σ H Q → wpAny (model X.prog X.w) X.A (isTrue e X.env whole) (TP X pins σ Q) X.xe s
theorem PW.pt {X : Cx} {e : Expr} {t : TT} (h : PW X e t) : PT X e t := h _
def PA (X : Cx) (es : List Expr) (t : TA) : Prop :=
 ∀ (pos : Pos) (pins : List (Addr × Obj)) (s : Shared) (σ : St) (H : Hp) (Q : List V → Hp → Prop), Inv X pins σ H s → t σ H Q → wpAny (model X.prog X.w) X.A (spliced (backTo pos (starEach es X.env))) (AP X pins σ Q) X.xe s
def PS (X : Cx) (st : Stmt) (t : TS) : Prop :=
 ∀ (pins : List (Addr × Obj)) (s : Shared) (σ : St) (H : Hp) (D : Ends), Inv X pins σ H s → t D σ H → wpAny (model X.prog X.w) X.A (exec st X.env) (SP X pins D) X.xe s
def PSs (X : Cx) (st : List Stmt) (t : TS) : Prop :=
 ∀ (pins : List (Addr × Obj)) (s : Shared) (σ : St) (H : Hp) (D : Ends), Inv X pins σ H s → t D σ H → wpAny (model X.prog X.w) X.A (execs st X.env) (SP X pins D) X.xe s
theorem thn {α : Type} {t : Sem α} {Q Q' : α → Shared → Prop} {M : Model} {A : Around} {E : Value → Shared → Prop} {s : Shared} (h : wpAny M A t Q E s) (hQ : ∀ a s, Q a s → Q' a s) : wpAny M A t Q' E s := wpAny_mono h hQ fun _ _ x => x
end L2
namespace L2
open PySem PySem.Spec PyProof.Rows
section
variable {X : Cx}
def tVar (i : Nat) : TE := fun σ H Q => ∃ v, σ[i]? = some (some v) ∧ Q v H
def tC (v : V) : TE := fun _ H Q => Q v H
theorem JR {i : Nat} {x : Str} {pos : Pos} (hN : X.N[i]? = some x) (hv : Vis X.env.scope x) (hd : (x == ("__debug__" : Str)) = false := by decide) (hcd : (x == ("__classdict__" : Str)) = false := by decide) : PE X (.Name x pos) (tVar i) := by
 intro pins s σ H Q I h
 obtain ⟨v, e, h⟩ := h
 obtain ⟨m, hn, hl⟩ := I.loc
 obtain ⟨u, r, l⟩ := hl i x v hN e hv
 have fin : EP X pins σ Q u s := ⟨v, H, I, r, h⟩
 rcases l with ⟨hk, hm⟩ | ⟨hk, c, hc, hcell⟩
 ·exact wpAny_Name (wpAny_loadName_local I.ok.kind hk hn hm fin) hd
 ·rcases hk with hk | hk
  ·exact wpAny_Name (wpAny_loadName_cell I.ok.kind hk hc hcell fin) hd
  ·exact wpAny_Name (wpAny_loadName_free I.ok.kind hk hc hcell fin hcd) hd
theorem Zf {i j pos} : PE X (.Constant (.int i) j pos) (tC (.int i)) := fun _ _ _ H _ I h => wpAny_Constant_int ⟨.int i, H, I.tok _, ⟨_, rfl⟩, h⟩
theorem Wt {b j pos} : PE X (.Constant (.bool b) j pos) (tC (.bl b)) := fun _ _ _ H _ I h => Constant_bool ⟨.bl b, H, I, rfl, h⟩
theorem Yq {j pos} : PE X (.Constant .none j pos) (tC .non) := fun _ _ _ H _ I h => Constant_none ⟨.non, H, I, rfl, h⟩
theorem Y4 {x j pos} : PE X (.Constant (.str x) j pos) (tC (.str x)) := fun _ _ _ H _ I h => Calls.Constant_str ⟨.str x, H, I.tok _, ⟨_, rfl⟩, h⟩
def Gl (X : Cx) (x : Str) : Prop := X.env.kindOf x = some .globalImplicit
theorem YY {E : Value → Shared → Prop} {pins : List (Addr × Obj)} {s : Shared} {σ : St} {H : Hp} {x : Str} {u : Value} {pos : Pos} {Q : Value → Shared → Prop} (I : Inv X pins σ H s) (hg : Gl X x) (hm : X.mg x = some u) (h : Q u s)
  (hd : (x == ("__debug__" : Str)) = false := by decide) : wpAny (model X.prog X.w) X.A (eval (.Name x pos) X.env) Q E s :=
 Calls.Name_function_global I.ok.kind hg (Calls.loadGlobal_global (by rw [I.ok.glob]; exact I.mod.glob.keeps I.bk) hm h) hd
theorem YE {E : Value → Shared → Prop} {pins : List (Addr × Obj)} {s : Shared} {σ : St} {H : Hp} {x : Str} {u : Value} {pos : Pos} {Q : Value → Shared → Prop} (I : Inv X pins σ H s) (hg : Gl X x) (hm : X.mg x = none) (hv : bootBuiltins x = some u) (h : Q u s)
  (hn : x ≠ "__name__" := by decide) (hd : (x == ("__debug__" : Str)) = false := by decide) : wpAny (model X.prog X.w) X.A (eval (.Name x pos) X.env) Q E s := by
 obtain ⟨mb, h1, h2⟩ := I.mod.blt
 exact Calls.Name_function_global I.ok.kind hg (Calls.loadGlobal_builtin (by rw [I.ok.glob]; exact I.mod.glob.keeps I.bk) hm (by rw [I.ok.blt]; exact h1.keeps I.bk) ((h2 x hn).trans hv) h) hd
theorem Z5 {x : Str} {v : V} {u : Value} {pos : Pos} (hg : Gl X x) (hm : X.mg x = some u) (r : RelV v u) (hd : (x == ("__debug__" : Str)) = false := by decide) : PE X (.Name x pos) (tC v) :=
 fun _ _ _ H _ I h => YY I hg hm ⟨v, H, I, r, h⟩ hd
theorem Zy {x : Str} {v : V} {u : Value} {pos : Pos} (hg : Gl X x) (hm : X.mg x = none) (hv : bootBuiltins x = some u) (r : RelV v u) (hn : x ≠ "__name__" := by decide) (hd : (x == ("__debug__" : Str)) = false := by decide) : PE X (.Name x pos) (tC v) :=
 fun _ _ _ H _ I h => YE I hg hm hv ⟨v, H, I, r, h⟩ hn hd
variable {a b : Expr} {ta tb : TE} {pos : Pos}
def PC (X : Cx) (op : CmpOp) (a b : Expr) (t : TE) : Prop :=
 ∀ (pins : List (Addr × Obj)) (s : Shared) (σ : St) (H : Hp) (Q : VK), Inv X pins σ H s → t σ H Q →
  wpAny (model X.prog X.w) X.A (eval a X.env) (fun v s₁ => wpAny (model X.prog X.w) X.A (eval b X.env) (fun u s₂ => wpAny (model X.prog X.w) X.A (compareOp op v u) (EP X pins σ Q) X.xe s₂) X.xe s₁) X.xe s
theorem nobehind (b : Expr) {op : CmpOp} (h : op ≠ .In) (h2 : op ≠ .NotIn) : behindInMarks op b = false := by
 have e1 : (op == CmpOp.In) = false := by cases op <;> first | rfl | exact absurd rfl h
 have e2 : (op == CmpOp.NotIn) = false := by cases op <;> first | rfl | exact absurd rfl h2
 cases b <;> simp [behindInMarks, e1, e2]
def tIsN (ta : TE) : TE := fun σ H Q => ta σ H fun x H1 => Q (.bl (decide (x = .non))) H1
def tNotN (ta : TE) : TE := fun σ H Q => ta σ H fun x H1 => Q (.bl (!decide (x = .non))) H1
theorem RelV.none_iff {x : V} {v : Value} (r : RelV x v) : (v == Value.none) = decide (x = .non) := by
 cases x with
 | non => cases r; rfl
 | bl _ => cases r; rfl
 | int _ => obtain ⟨t, rfl⟩ := r; rfl
 | str _ => obtain ⟨t, rfl⟩ := r; rfl
 | byt _ => obtain ⟨t, rfl⟩ := r; rfl
 | flt _ => obtain ⟨t, rfl⟩ := r; rfl
 | ref _ => cases r; rfl
 | ty _ => cases r; rfl
theorem Yr {j pos'} (ha : PE X a ta) : PC X .Is a (.Constant .none j pos') (tIsN ta) := by
 intro pins s σ H Q I h
 refine thn (ha pins s σ H _ I h) fun v s1 ⟨x, H1, I1, r1, q1⟩ => ?_
 exact Constant_none (is_none_gen ⟨.bl _, H1, I1, by rw [r1.none_iff]; rfl, q1⟩)
theorem JI {j pos'} (ha : PE X a ta) : PC X .IsNot a (.Constant .none j pos') (tNotN ta) := by
 intro pins s σ H Q I h
 refine thn (ha pins s σ H _ I h) fun v s1 ⟨x, H1, I1, r1, q1⟩ => ?_
 exact Constant_none (isnot_none_gen ⟨.bl _, H1, I1, by rw [r1.none_iff]; rfl, q1⟩)
def tB (t : TE) : TT := fun σ H Q => t σ H fun x H1 => ∃ c, x = .bl c ∧ Q c H1
theorem Zbu {op : CmpOp} {t : TE} (h : PC X op a b t) (h1 : behindInMarks op b = false := by first | exact nobehind _ (by decide) (by decide) | rfl) : PE X (.Compare a [op] [b] pos) t := fun pins s σ H Q I hw => wpAny_Compare1 (h pins s σ H Q I hw) h1
theorem Yf {op : CmpOp} {t : TE} (h : PC X op a b t) (h1 : behindInMarks op b = false := by first | exact nobehind _ (by decide) (by decide) | rfl) : PT X (.Compare a [op] [b] pos) (tB t) := by
 intro pins s σ H Q I hw
 refine wpAny_isTrue_Compare1 (thn (h pins s σ H _ I hw) fun v s1 h1 => thn h1 fun u s2 h2 => thn h2 fun c s3 ⟨x, H1, I1, r1, q1⟩ => ?_) h1
 obtain ⟨d, rfl, q⟩ := q1
 cases r1
 exact wpAny_truthy_bool ⟨H1, I1, q⟩
theorem ZO {e : Expr} {t : TE} (h : PE X e t) (he : ∀ whole, isTrue e X.env whole = (do let v ← whole; standAt e.pos; holding [v] (truthy v)) := by intro _; rfl) : PT X e (tB t) := by
 intro pins s σ H Q I hw
 refine isTrue_plain (thn (h pins s σ H _ I hw) fun v s1 ⟨x, H1, I1, r1, q1⟩ => ?_) (he _)
 obtain ⟨d, rfl, q⟩ := q1
 cases r1
 exact wpAny_truthy_bool ⟨H1, I1, q⟩
variable {tA tB' : TT} {rest : List Expr}
def tAnd (t u : TT) : TT := fun σ H Q => t σ H fun c H1 => if c = true then u σ H1 Q else Q false H1
def tOr (t u : TT) : TT := fun σ H Q => t σ H fun c H1 => if c = true then Q true H1 else u σ H1 Q
def tNot (t : TT) : TT := fun σ H Q => t σ H fun c H1 => Q (!c) H1
theorem WP (ha : PT X a tA) : PW X (.BoolOp .And [a] pos) tA := by
 intro wh pins s σ H Q I h
 refine isTrue_and (thn (ha pins s σ H Q I h) fun c s1 e => ?_)
 cases c with
 | true => exact isTrue_and_nil e
 | false => exact e
theorem Yi (ha : PT X a tA) : PW X (.BoolOp .Or [a] pos) tA := by
 intro wh pins s σ H Q I h
 refine isTrue_or (thn (ha pins s σ H Q I h) fun c s1 e => ?_)
 cases c with
 | false => exact isTrue_or_nil e
 | true => exact e
theorem UI (ha : PT X a tA) (hb : PW X (.BoolOp .And (b :: rest) pos) tB') : PW X (.BoolOp .And (a :: b :: rest) pos) (tAnd tA tB') := by
 intro wh pins s σ H Q I h
 refine isTrue_and (thn (ha pins s σ H _ I h) fun c s1 ⟨H1, I1, q1⟩ => ?_)
 cases c with
 | true => exact hb wh pins s1 σ H1 Q I1 q1
 | false => exact ⟨H1, I1, q1⟩
theorem YI (ha : PT X a tA) (hb : PW X (.BoolOp .Or (b :: rest) pos) tB') : PW X (.BoolOp .Or (a :: b :: rest) pos) (tOr tA tB') := by
 intro wh pins s σ H Q I h
 refine isTrue_or (thn (ha pins s σ H _ I h) fun c s1 ⟨H1, I1, q1⟩ => ?_)
 cases c with
 | true => exact ⟨H1, I1, q1⟩
 | false => exact hb wh pins s1 σ H1 Q I1 q1
theorem ZX (ha : PT X a tA) : PT X (.UnaryOp .Not a pos) (tNot tA) := by
 intro pins s σ H Q I h
 exact isTrue_not (ha pins s σ H (fun c H1 => Q (!c) H1) I h)
def tAndV (ta tb : TE) : TE := fun σ H Q => ta σ H fun x H1 => ∃ c, x = .bl c ∧ if c = true then tb σ H1 Q else Q (.bl false) H1
def tNotV (ta : TE) : TE := fun σ H Q => ta σ H fun x H1 => ∃ c, x = .bl c ∧ Q (.bl (!c)) H1
theorem Z4 {op} {t : TE} (h : PE X a t) : PE X (.BoolOp op [a] pos) t := fun pins s σ H Q I hw => BoolOp_one (h pins s σ H Q I hw)
theorem Z7 (ha : PE X a ta) (hb : PE X (.BoolOp .And (b :: rest) pos) tb) : PE X (.BoolOp .And (a :: b :: rest) pos) (tAndV ta tb) := by
 intro pins s σ H Q I h
 refine BoolOp_and (thn (ha pins s σ H _ I h) fun v s1 ⟨x, H1, I1, r1, q1⟩ => ?_)
 obtain ⟨c, rfl, q1⟩ := q1
 cases r1
 refine wpAny_truthy_bool ?_
 cases c with
 | true => exact hb pins s1 σ H1 Q I1 q1
 | false => exact ⟨.bl false, H1, I1, rfl, q1⟩
theorem ZcY (ha : PE X a ta) : PE X (.UnaryOp .Not a pos) (tNotV ta) := by
 intro pins s σ H Q I h
 refine UnaryOp_ (thn (ha pins s σ H _ I h) fun v s1 ⟨x, H1, I1, r1, q1⟩ => ?_)
 obtain ⟨c, rfl, q1⟩ := q1
 cases r1
 exact not_of (wpAny_truthy_bool ⟨.bl (!c), H1, I1, rfl, q1⟩)
def tIf (t : TT) (ta tb : TE) : TE := fun σ H Q => t σ H fun c H1 => if c = true then ta σ H1 Q else tb σ H1 Q
theorem YK {c : Expr} (hc : PT X c tA) (ha : PE X a ta) (hb : PE X b tb) : PE X (.IfExp c a b pos) (tIf tA ta tb) := by
 intro pins s σ H Q I h
 refine wpAny_IfExp (thn (hc pins s σ H _ I h) fun d s1 ⟨H1, I1, q1⟩ => ?_)
 cases d with
 | true => exact ha pins s1 σ H1 Q I1 q1
 | false => exact hb pins s1 σ H1 Q I1 q1
end
end L2
namespace L2
open PySem PySem.Spec PyProof.Rows
def SqL (K : PySem.W.Frag) (H : Hp) (a : Addr) (xs : List V) : Prop :=
 Rd H a (.lst xs) ∨
  ∃ (o : Obj) (its : Array Value) (n : Nat), K.lookup a = some o ∧ o.cls = .type "list" ∧ o.dict = none ∧ o.data = .seq its n ∧ its.size ≤ sizeLine ∧ Vals xs its.toList
def SqT (K : PySem.W.Frag) (H : Hp) (a : Addr) (xs : List V) : Prop :=
 Rd H a (.tup xs) ∨
  (∃ (o : Obj) (its : Array Value) (n : Nat), K.lookup a = some o ∧ o.cls = .type "tuple" ∧ o.data = .seq its n ∧ its.size ≤ sizeLine ∧ Vals xs its.toList) ∨ H a = some (.par xs)
def absV : Value → Option V
 | .none => some .non
 | .bool b => some (.bl b)
 | .int i _ => some (.int i)
 | .str x _ => some (.str x)
 | .bytes b _ => some (.byt b)
 | .float b _ => some (.flt b)
 | .ref a => some (.ref a)
 | .type n => some (.ty n)
 | _ => none
theorem RelV.abs {x : V} {u : Value} (r : RelV x u) : absV u = some x := by
 cases x with
 | non => cases r; rfl
 | bl _ => cases r; rfl
 | int _ => obtain ⟨t, rfl⟩ := r; rfl
 | str _ => obtain ⟨t, rfl⟩ := r; rfl
 | byt _ => obtain ⟨t, rfl⟩ := r; rfl
 | flt _ => obtain ⟨t, rfl⟩ := r; rfl
 | ref _ => cases r; rfl
 | ty _ => cases r; rfl
theorem RelV.inj {x y : V} {u : Value} (r : RelV x u) (q : RelV y u) : x = y := Option.some.inj (r.abs.symm.trans q.abs)
theorem Vals.inj : ∀ {xs ys : List V} {us : List Value}, Vals xs us → Vals ys us → xs = ys
 | _, _, _, .nil, .nil => rfl
 | _, _, _, .cons r t, .cons r' t' => by rw [r.inj r', Vals.inj t t']
section
variable {X : Cx} {pins : List (Addr × Obj)} {σ : St} {H : Hp} {s : Shared} {a : Addr} {xs ys : List V}
theorem SqL.of {K : PySem.W.Frag} (h : H a = some (.lst xs)) : SqL K H a xs := .inl (.inl h)
theorem SqT.of {K : PySem.W.Frag} (h : H a = some (.tup xs)) : SqT K H a xs := .inl (.inl h)
theorem SqT.ofP {K : PySem.W.Frag} (h : H a = some (.par xs)) : SqT K H a xs := .inr (.inr h)
theorem Inv.list (I : Inv X pins σ H s) (h : SqL X.K H a xs) : ∃ its : List Value, Vals xs its ∧ PlainL s.heap a its.toArray ∧ xs.length ≤ sizeLine := by
 rcases h with h | ⟨o, its, n, hk, hc, hd, hs, hz, r⟩
 ·obtain ⟨z, its, n, r, e⟩ := h.ok I.hok
  exact ⟨its, r, ⟨_, n, e, rfl, rfl, rfl⟩, z⟩
 ·refine ⟨its.toList, r, ⟨o, n, I.kIn a o hk, hc, hd, by simpa using hs⟩, ?_⟩
  have e := r.length
  simp only [Array.length_toList] at e
  omega
theorem Inv.tuple (I : Inv X pins σ H s) (h : SqT X.K H a xs) : ∃ its : List Value, Vals xs its ∧ IsTup s.heap a its.toArray ∧ xs.length ≤ sizeLine := by
 rcases h with h | ⟨o, its, n, hk, hc, hs, hz, r⟩ | h
 ·obtain ⟨z, its, r, p, _⟩ := h.ok I.hok
  exact ⟨its, r, p, z⟩
 rotate_left
 ·obtain ⟨z, its, r, p⟩ := (show ObjOk X.prog X.w H s.heap a (.par xs) from I.hok a _ h)
  exact ⟨its, r, p, z⟩
 ·refine ⟨its.toList, r, ⟨o, I.kIn a o hk, hc, n, by simpa using hs⟩, ?_⟩
  have e := r.length
  simp only [Array.length_toList] at e
  omega
theorem Inv.list_inj (I : Inv X pins σ H s) (h : SqL X.K H a xs) (h' : SqL X.K H a ys) : xs = ys := by
 obtain ⟨its, r, ⟨o, n, e, _, _, d⟩, _⟩ := I.list h
 obtain ⟨its', r', ⟨o', n', e', _, _, d'⟩, _⟩ := I.list h'
 rw [e] at e'; cases e'
 rw [d] at d'
 injection d' with d1 _
 have : its = its' := by simpa using congrArg Array.toList d1
 subst this
 exact r.inj r'
theorem Inv.tuple_inj (I : Inv X pins σ H s) (h : SqT X.K H a xs) (h' : SqT X.K H a ys) : xs = ys := by
 obtain ⟨its, r, ⟨o, e, _, n, d⟩, _⟩ := I.tuple h
 obtain ⟨its', r', ⟨o', e', _, n', d'⟩, _⟩ := I.tuple h'
 rw [e] at e'; cases e'
 rw [d] at d'
 injection d' with d1 _
 have : its = its' := by simpa using congrArg Array.toList d1
 subst this
 exact r.inj r'
end
abbrev Cx.wish (X : Cx) (E : Value → Shared → Prop) : Cx := { X with xe := E }
abbrev Cx.nox (X : Cx) : Cx := X.wish fun _ _ => False
theorem Cx.Ok.wish {X : Cx} (ok : X.Ok) (E : Value → Shared → Prop) : (X.wish E).Ok :=
 ⟨ok.mod, ok.kind, ok.glob, ok.blt, ok.above, ok.inj, ok.has, ok.cab, ok.hd, ok.frames, ok.stk, ok.exf, ok.bs, ok.bsz, ok.noex, ok.exfs, ok.funs, ok.frf⟩
theorem Cx.Ok.unwish {X : Cx} {E : Value → Shared → Prop} (ok : (X.wish E).Ok) : X.Ok :=
 ⟨ok.mod, ok.kind, ok.glob, ok.blt, ok.above, ok.inj, ok.has, ok.cab, ok.hd, ok.frames, ok.stk, ok.exf, ok.bs, ok.bsz, ok.noex, ok.exfs, ok.funs, ok.frf⟩
section
variable {X : Cx} {pins : List (Addr × Obj)} {σ : St} {H : Hp} {s : Shared} {E : Value → Shared → Prop}
theorem Inv.wish (I : Inv X pins σ H s) (E : Value → Shared → Prop) : Inv (X.wish E) pins σ H s := ⟨I.ok.wish E, I.os, I.bare, I.base, I.loc, I.cell, I.free, I.freeC, I.pin, I.hok, I.len⟩
theorem Inv.unwish (I : Inv (X.wish E) pins σ H s) : Inv X pins σ H s := ⟨I.ok.unwish, I.os, I.bare, I.base, I.loc, I.cell, I.free, I.freeC, I.pin, I.hok, I.len⟩
theorem SP.unwish {D : Ends} {f : Flow} {s' : Shared} (h : SP (X.wish E) pins D f s') : SP X pins D f s' := by
 cases f with
 | next => obtain ⟨σ', H', I, q⟩ := h; exact ⟨σ', H', I.unwish, q⟩
 | brk => obtain ⟨σ', H', I, q⟩ := h; exact ⟨σ', H', I.unwish, q⟩
 | cont => obtain ⟨σ', H', I, q⟩ := h; exact ⟨σ', H', I.unwish, q⟩
 | ret u => obtain ⟨v, σ', H', I, r, q⟩ := h; exact ⟨v, σ', H', I.unwish, r, q⟩
theorem PSs.nox {st : List Stmt} {t : TS} (h : PSs X.nox st t) : PSs X st t := fun pins s σ H D I hw =>
 wpAny_mono (h pins s σ H D (I.wish _) hw) (fun _ _ q => q.unwish) fun _ _ z => False.elim z
end
section
variable {X : Cx} {st : Stmt} {rest : List Stmt} {t u : TS} {e : Expr} {te : TE} {pos : Pos}
def tNext : TS := fun D σ H => D.nx σ H
def tSeq (t u : TS) : TS := fun D σ H => t { D with nx := u D } σ H
theorem Zt : PSs X [] tNext := fun _ _ σ H _ I h => wpAny_execs_nil ⟨σ, H, I, h⟩
theorem Ze (h1 : PS X st t) (h2 : PSs X rest u) : PSs X (st :: rest) (tSeq t u) := by
 intro pins s σ H D I h
 refine wpAny_execs_cons (thn (h1 pins s σ H { D with nx := u D } I h) fun f s1 q => ?_)
 cases f with
 | next =>
  obtain ⟨σ', H', I', q⟩ := q
  exact h2 pins s1 σ' H' D I' q
 | ret v => exact q
 | brk => exact q
 | cont => exact q
theorem Zi (h1 : PS X st t) : PSs X [st] t := by
 intro pins s σ H D I h
 refine wpAny_execs_cons (thn (h1 pins s σ H D I h) fun f s1 q => ?_)
 cases f with
 | next => exact wpAny_execs_nil q
 | ret v => exact q
 | brk => exact q
 | cont => exact q
theorem Inv.quiet {pins : List (Addr × Obj)} {σ : St} {H : Hp} {s : Shared} (I : Inv X pins σ H s) : interactive X.env = false := by simp [interactive, I.ok.kind]
def tDrop (te : TE) : TS := fun D σ H => te σ H fun _ H1 => D.nx σ H1
theorem ZU (he : PE X e te) (hs : swapsWith e none pos.line X.env = pure false := by rfl) : PS X (.Expr e pos) (tDrop te) := by
 intro pins s σ H D I h
 exact wpAny_Expr_any (thn (he pins s σ H _ I h) fun v s1 ⟨x, H1, I1, r1, q1⟩ => ⟨σ, H1, I1, q1⟩) I.quiet hs
def tRet (te : TE) : TS := fun D σ H => te σ H D.rt
theorem Zq (he : PE X e te) : PS X (.Return (some e) pos) (tRet te) := by
 intro pins s σ H D I h
 exact wpAny_Return_some (thn (he pins s σ H _ I h) fun v s1 ⟨x, H1, I1, r1, q1⟩ => ⟨x, σ, H1, I1, r1, q1⟩)
def tIfS (c : TT) (t u : TS) : TS := fun D σ H => c σ H fun b H1 => if b = true then t D σ H1 else u D σ H1
theorem ZI {c : Expr} {a b : List Stmt} {tc : TT} (hc : PT X c tc) (ha : PSs X a t) (hb : PSs X b u) : PS X (.If c a b pos) (tIfS tc t u) := by
 intro pins s σ H D I h
 refine wpAny_If (thn (hc pins s σ H _ I h) fun d s1 ⟨H1, I1, q1⟩ => ?_)
 cases d with
 | true => exact ha pins s1 σ H1 D I1 q1
 | false => exact hb pins s1 σ H1 D I1 q1
def tNever : TS := fun _ _ _ => False
theorem Zp {sts : List Stmt} : PSs X sts tNever := fun _ _ _ _ _ _ h => h.elim
end
abbrev TG := V → St → Hp → (St → Hp → Prop) → Prop
abbrev TGs := List V → St → Hp → (St → Hp → Prop) → Prop
def PG (X : Cx) (target : Expr) (t : TG) : Prop :=
 ∀ (pins : List (Addr × Obj)) (s : Shared) (σ : St) (H : Hp) (v : V) (u : Value) (Q : St → Hp → Prop), Inv X pins σ H s → RelV v u → t v σ H Q →
  wpAny (model X.prog X.w) X.A (assign target X.env u) (fun _ s' => ∃ σ' H', Inv X pins σ' H' s' ∧ Q σ' H') X.xe s
def PGs (X : Cx) (ts : List Expr) (t : TGs) : Prop :=
 ∀ (pins : List (Addr × Obj)) (s : Shared) (σ : St) (H : Hp) (vs : List V) (us : List Value) (Q : St → Hp → Prop), Inv X pins σ H s → Vals vs us → t vs σ H Q →
  wpAny (model X.prog X.w) X.A (assignInOrder ((assignEach ts X.env).map (·.2)) us) (fun _ s' => ∃ σ' H', Inv X pins σ' H' s' ∧ Q σ' H') X.xe s
abbrev TSet := V → V → V → Hp → (Hp → Prop) → Prop
def PSet (X : Cx) (t : TSet) : Prop :=
 ∀ (pins : List (Addr × Obj)) (s : Shared) (σ : St) (H : Hp) (o i v : V) (ov iv u : Value) (Q : Hp → Prop), Inv X pins σ H s → RelV o ov → RelV i iv → RelV v u → t o i v H Q →
  wpAny (model X.prog X.w) X.A (setItem ov iv u) (fun _ s' => ∃ H', Inv X pins σ H' s' ∧ Q H') X.xe s
section
variable {X : Cx} {pos : Pos}
def gName (i : Nat) : TG := fun v σ H Q => Q (σ.set i (some v)) H
theorem ZC {i : Nat} {x : Str} (hN : X.N.Nodup) (hi : X.N[i]? = some x) (hx : Loc X.env.scope x) (hf : X.fn x = true ∨ X.env.scope.names.lookup x = some .local := by first | exact .inl rfl | exact .inr rfl | assumption) : PG X (.Name x pos) (gName i) := by
 intro pins s σ H v u Q I r h
 exact wpAny_assign_Name (Ys I hN hi hx r (fun s' I' => ⟨_, H, I', h⟩) hf)
def gNil : TGs := fun vs σ H Q => vs = [] ∧ Q σ H
def gCons (t : TG) (u : TGs) : TGs := fun vs σ H Q => ∃ v r, vs = v :: r ∧ t v σ H fun σ' H' => u r σ' H' Q
theorem ZP : PGs X [] gNil := by
 intro pins s σ H vs us Q I r h
 obtain ⟨e, h⟩ := h
 subst e
 cases r
 exact assignInOrder_nil ⟨σ, H, I, h⟩
theorem Zn {e : Expr} {es : List Expr} {t : TG} {u : TGs} (h1 : PG X e t) (h2 : PGs X es u)
  (hs : (assignEach (e :: es) X.env).map (·.2) = assign e X.env :: (assignEach es X.env).map (·.2) := by rfl) : PGs X (e :: es) (gCons t u) := by
 intro pins s σ H vs us Q I r h
 obtain ⟨v, vr, e1, h⟩ := h
 subst e1
 cases r with
 | cons r rr =>
  rw [hs]
  refine assignInOrder_cons (thn (h1 pins s σ H _ _ _ I r h) fun _ s1 ⟨σ1, H1, I1, q1⟩ => ?_)
  exact h2 pins s1 σ1 H1 _ _ Q I1 rr q1
def gTup (K : PySem.W.Frag) (n : Nat) (t : TGs) : TG := fun v σ H Q => ∃ a xs, v = .ref a ∧ SqT K H a xs ∧ xs.length = n ∧ t xs σ H Q
theorem ZY {es : List Expr} {k : Nat} {t : TGs} {n : Nat} (hc : X.calm = true) (h : PGs X es t)
  (hn : (assignEach es X.env).length = n := by rfl) (hst : (assignEach es X.env).findIdx? (·.1) = none := by rfl) : PG X (.Tuple es k pos) (gTup X.K n t) := by
 intro pins s σ H v u Q I r hw
 obtain ⟨a, xs, e1, hq, hl, hw⟩ := hw
 subst e1
 cases r
 obtain ⟨its, rv, ht, hz⟩ := I.tuple hq
 refine assign_Tuple_tuple (I.ok.hd hc) ht (by simp [hn, ← hl, rv.length]) hst fun h' hx => ?_
 have I1 : Inv X pins σ H { s with heap := h' } := I.kept (t' := s.toks) fun b o e => hx b o (Nat.ne_of_lt (Heap.lt_size e)) e
 exact h pins _ σ H xs _ Q I1 (by simpa using rv) hw
def gSub (to ti : TE) (t : TSet) : TG := fun v σ H Q => to σ H fun o H1 => ti σ H1 fun i H2 => t o i v H2 fun H3 => Q σ H3
theorem JQ {o i : Expr} {to ti : TE} {t : TSet} (ho : PE X o to) (hi : PE X i ti) (hs : PSet X t)
    (ha : ∀ v, assign (.Subscript o i pos) X.env v = (do
      let ov ← holding [v] (eval o X.env)
      let iv ← holding [v, ov] (eval i X.env)
      standAt pos
      holding [v, ov, iv] (setItem ov iv v)
      release [v, ov, iv] []) := by intro _; rfl) : PG X (.Subscript o i pos) (gSub to ti t) := by
  intro pins s σ H v u Q I r h
  rw [ha]
  refine wpAny_bind (wpAny_holding (thn (ho pins s σ H _ I h) fun ov s1 ⟨x, H1, I1, r1, q1⟩ => ?_))
  refine wpAny_bind (wpAny_holding (thn (hi pins s1 σ H1 _ I1 q1) fun iv s2 ⟨y, H2, I2, r2, q2⟩ => ?_))
  refine wpAny_bind (wpAny_standAt (wpAny_bind (wpAny_holding (thn (hs pins s2 σ H2 x y v ov iv u _ I2 r1 r2 r q2) fun _ s3 ⟨H3, I3, q3⟩ => ?_))))
  exact wpAny_release ⟨σ, H3, I3, q3⟩
def tAsg (te : TE) (g : TG) : TS := fun D σ H => te σ H fun x H1 => g x σ H1 D.nx
theorem Yp {tg e : Expr} {te : TE} {g : TG} (he : PE X e te) (hg : PG X tg g) (hs : swapsWithSole [tg] e pos.line X.env = pure false := by rfl) (hw : swappedStores [tg] e X.env = pure none := by rfl)
  (h1 : (assignEach [tg] X.env).map (·.2) = [assign tg X.env] := by rfl) : PS X (.Assign [tg] e pos) (tAsg te g) := by
 intro pins s σ H D I h
 refine wpAny_Assign_stores (thn (he pins s σ H _ I h) fun v s1 ⟨x, H1, I1, r1, q1⟩ => ?_) hs hw
 rw [h1]
 exact thn (hg pins s1 σ H1 x v _ I1 r1 q1) fun _ s2 q => q
theorem Zv {i : Nat} {x : Str} {e : Expr} {te : TE} {pos' : Pos} (hN : X.N.Nodup) (hi : X.N[i]? = some x) (hx : Loc X.env.scope x) (he : PE X e te) (hs : swapsWith e (some (.Name x pos')) pos.line X.env = pure false := by rfl) (hf : X.fn x = true ∨ X.env.scope.names.lookup x = some .local := by first | exact .inl rfl | exact .inr rfl | assumption) :
  PS X (.Assign [.Name x pos'] e pos) (tAsg te (gName i)) := by
 intro pins s σ H D I h
 refine wpAny_Assign_Name (thn (he pins s σ H _ I h) fun v s1 ⟨y, H1, I1, r1, q1⟩ => ?_) hs
 exact Ys I1 hN hi hx r1 (fun s2 I2 => ⟨_, H1, I2, q1⟩) hf
def tPar (i j : Nat) (ta : TA) : TS := fun D σ H => ta σ H fun vs H1 => ∃ v w, vs = [v, w] ∧ D.nx ((σ.set i (some v)).set j (some w)) H1
theorem UK {i j : Nat} {x y : Str} {a b : Expr} {ta : TA} {px py pt : Pos} {kt k2 pt2} (hc : X.calm = true) (hN : X.N.Nodup) (hi : X.N[i]? = some x) (hj : X.N[j]? = some y) (hij : i ≠ j)
  (hx : X.env.scope.names.lookup x = some .local) (hy : X.env.scope.names.lookup y = some .local) (ha : PA X [a, b] ta)
  (hw : swappedStores [.Tuple [.Name x px, .Name y py] kt pt] (.Tuple [a, b] k2 pt2) X.env = pure (some [x, y]))
  (hs : swapsWithSole [.Tuple [.Name x px, .Name y py] kt pt] (.Tuple [a, b] k2 pt2) pos.line X.env = pure false := by rfl) :
  PS X (.Assign [.Tuple [.Name x px, .Name y py] kt pt] (.Tuple [a, b] k2 pt2) pos) (tPar i j ta) := by
 intro pins s σ H D I h
 rw [exec_Assign_arm]
 refine wpAny_bind (wpAny_standAt ?_)
 rw [hs]
 refine wpAny_bind (wpAny_pure ?_)
 rw [if_neg (by decide)]
 refine wpAny_bind (Tuple_ (thn (ha _ pins s σ H _ I h) fun us s1 ⟨vs, H1, I1, r1, q1⟩ => ?_))
 obtain ⟨v, w, e1, q1⟩ := q1
 subst e1
 obtain ⟨u1, u2, rfl, rv, rw'⟩ : ∃ u1 u2, us = [u1, u2] ∧ RelV v u1 ∧ RelV w u2 := by
  cases r1 with
  | cons p q =>
   cases q with
   | cons p' q' =>
    cases q'
    exact ⟨_, _, rfl, p, p'⟩
 refine wpAny_newObj_type ?_ (by show 2 ≤ sizeLine; decide)
 have I2 : Inv X pins σ H1 { s1 with heap := s1.heap.push { cls := .type "tuple", data := .seq [u1, u2].toArray } } := I1.kept (t' := s1.toks) fun b o e => Heap.get?_push_of_some _ e
 rw [hw]
 refine wpAny_bind (wpAny_pure ?_)
 show wpAny (model X.prog X.w) X.A (do rule "assign.swapped-stores"; let items ← unpackItems (.ref s1.heap.objs.size) 2 none; assignInOrder [fun v => bindName X.env y v, fun v => bindName X.env x v] items.reverse; pure Flow.next) _ _ _
 refine wpAny_bind (wpAny_rule (wpAny_bind (unpackItems_tuple (items := #[u1, u2]) (I.ok.hd hc) (IsTup.new s1.heap _) fun h' hx' => ?_)))
 have I3 := I2.kept (h' := h') (t' := s1.toks) fun b o e => hx' b o (Nat.ne_of_lt (Heap.lt_size e)) e
 show wpAny _ _ (assignInOrder [fun v => bindName X.env y v, fun v => bindName X.env x v] [u2, u1] >>= fun _ => pure Flow.next) _ _ _
 refine wpAny_bind (assignInOrder_cons (wpAny_bindName (Ys I3 hN hj (.inl hy) rw' (fun s2 I4 => ?_) (.inr hy))))
 refine assignInOrder_cons (wpAny_bindName (Ys I4 hN hi (.inl hx) rv (fun s3 I5 => assignInOrder_nil (wpAny_pure ?_)) (.inr hx)))
 rw [List.set_comm _ _ (Ne.symm hij)] at I5
 exact ⟨_, H1, I5, q1⟩
end
structure It where
 go : Nat → Hp → Prop
 yld : Nat → Hp → V → Hp → Prop
 stop : Nat → Hp → Prop
def FpOk (X : Cx) (pins : List (Addr × Obj)) (H : Hp) (b : Addr) : Prop :=
 H b = none ∧ b ≠ X.env.locals ∧ b ∉ X.fs ∧ (b ∈ X.ex ∨ X.s₀.heap.objs.size ≤ b) ∧ (∀ x c, X.env.cells.lookup x = some c → c ≠ b) ∧ ∀ p ∈ X.pn ++ pins, p.1 ≠ b
theorem Inv.fpOk {X : Cx} {pins : List (Addr × Obj)} {σ : St} {H H' : Hp} {s : Shared} {b : Addr} (I : Inv X pins σ H s) (hb : s.heap.objs.size ≤ b) (hn : H' b = none) : FpOk X pins H' b := by
 refine ⟨hn, Nat.ne_of_gt (Nat.lt_of_lt_of_le I.lt hb), I.nofs hb, .inr (Nat.le_trans I.sz hb), fun x c e z => ?_, fun p hp z => ?_⟩
 ·obtain ⟨v, q⟩ := I.cell x c e
  exact absurd (Nat.lt_of_lt_of_le q.lt (by rw [z]; exact hb)) (Nat.lt_irrefl _)
 ·exact absurd (Nat.lt_of_lt_of_le (Heap.lt_size (I.pin p hp).1) (by rw [z]; exact hb)) (Nat.lt_irrefl _)
structure Turn (P : Program) (w : World) (K : PySem.W.Frag) (tg : Expr) (J : It) (fp : List Addr) (it : Addr) (tn : Nat → Heap → Prop) : Prop where
 mem : it ∈ fp
 obj : ∀ i h, tn i h → ∀ b ∈ fp, ∃ o, h.get? b = some o ∧ ∀ v, o.data ≠ .cell v
 keep : ∀ i h h', tn i h → (∀ b ∈ fp, ∀ o, h.get? b = some o → h'.get? b = some o) → tn i h'
 item : ∀ (X : Cx), X.prog = P → X.w = w → X.K = K → X.calm = true → ∀ (i : Nat) (pins : List (Addr × Obj)) (s : Shared) (σ : St) (H : Hp) (E : Value → Shared → Prop), Inv X pins σ H s → (∀ b ∈ fp, FpOk X pins H b) → tn i s.heap → J.go i H →
  wpAny (model P w) X.A (pyNext (.ref it)) (fun r s1 => ∃ u, r = some u ∧
   wpAny (model P w) X.A (letOwnedTupleGo tg (.ref it) u) (fun _ s2 => ∃ x H', Inv X pins σ H' s2 ∧ RelV x u ∧ J.yld i H x H' ∧ tn (i + 1) s2.heap ∧ ∀ b ∈ fp, H' b = none) E s1) E s
 done : ∀ (X : Cx), X.prog = P → X.w = w → X.K = K → X.calm = true → ∀ (i : Nat) (pins : List (Addr × Obj)) (s : Shared) (σ : St) (H : Hp) (E : Value → Shared → Prop), Inv X pins σ H s → (∀ b ∈ fp, FpOk X pins H b) → tn i s.heap → J.stop i H →
  wpAny (model P w) X.A (pyNext (.ref it)) (fun r s1 => r = none ∧ Inv X pins σ H s1) E s
 self : ∀ (A : Around) (i : Nat) (s : Shared) (Q : Value → Shared → Prop) (E : Value → Shared → Prop), tn i s.heap → Q (.ref it) s → wpAny (model P w) A (pyIter (.ref it)) Q E s
abbrev TI := St → Hp → (It → Hp → Prop) → Prop
def PIE (X : Cx) (pins : List (Addr × Obj)) (σ : St) (tg : Expr) (R : It → Hp → Prop) (itv : Value) (s2 : Shared) : Prop :=
 ∃ (it : Addr) (fp : List Addr) (tn : Nat → Heap → Prop) (J : It) (H' : Hp), itv = .ref it ∧ Inv X pins σ H' s2 ∧ Turn X.prog X.w X.K tg J fp it tn ∧ tn 0 s2.heap ∧ (∀ b ∈ fp, FpOk X pins H' b) ∧ R J H'
def PI (X : Cx) (tg iter : Expr) (wi : TI) : Prop :=
 ∀ (pins : List (Addr × Obj)) (s : Shared) (σ : St) (H : Hp) (R : It → Hp → Prop), Inv X pins σ H s → wi σ H R →
  wpAny (model X.prog X.w) X.A (eval iter X.env) (fun v s1 => wpAny (model X.prog X.w) X.A (pyIter v) (PIE X pins σ tg R) X.xe s1) X.xe s
theorem Zb1 {M : Model} {A : Around} {E : Value → Shared → Prop} {s : Shared} {tg : Expr} {it : Addr} {u : Value} {o : Obj} {n : String} {vs : Array Value} {Q : Unit → Shared → Prop} (ho : s.heap.get? it = some o) (hc : o.cls = .type n) (hd : o.data = .fields vs)
    (hn : ["enumerate", "zip", "dict_itemiterator", "dict_reverseitemiterator", "odict_iterator", "itertools.zip_longest", "itertools.pairwise"].contains n = false) (hQ : Q () s) : wpAny M A (letOwnedTupleGo tg (.ref it) u) Q E s := by
  unfold letOwnedTupleGo
  cases tg <;> first
    | exact wpAny_pure hQ
    | (cases u <;> first
        | exact wpAny_pure hQ
        | (refine wpAny_bind (wpAny_load ho ?_)
           rw [hc, hd]
           show wpAny M A (if (["enumerate", "zip", "dict_itemiterator", "dict_reverseitemiterator", "odict_iterator", "itertools.zip_longest", "itertools.pairwise"].contains n && vs[0]? == some (rawInt _)) = true then _ else _) Q E s
           rw [if_neg (by intro h; rw [hn, Bool.false_and] at h; cases h)]
           exact wpAny_pure hQ))
def Itl (K : PySem.W.Frag) (a : Addr) : It :=
 ⟨fun i H => ∃ xs x, SqL K H a xs ∧ xs[i]? = some x, fun i H x H' => H' = H ∧ ∀ xs, SqL K H a xs → xs[i]? = some x, fun i H => ∃ xs, SqL K H a xs ∧ xs.length ≤ i⟩
def Itt (K : PySem.W.Frag) (a : Addr) : It :=
 ⟨fun i H => ∃ xs x, SqT K H a xs ∧ xs[i]? = some x, fun i H x H' => H' = H ∧ ∀ xs, SqT K H a xs → xs[i]? = some x, fun i H => ∃ xs, SqT K H a xs ∧ xs.length ≤ i⟩
def Itr (lo : Int) (n : Nat) : It := ⟨fun i _ => i < n, fun i H x H' => H' = H ∧ x = .int (lo + i), fun i _ => n ≤ i⟩
theorem ZaA {P : Program} {w : World} {K : PySem.W.Frag} {tg : Expr} (a it : Addr) : Turn P w K tg (Itl K a) [it] it (fun i h => h.IsListIter it a i) where
 mem := by simp
 obj := fun i h st b hb => by
  have e : b = it := by simpa using hb
  subst e
  obtain ⟨o, e, c, d⟩ := st
  exact ⟨o, e, fun v z => by rw [d] at z; cases z⟩
 keep := fun i h h' st k => st.at fun o e => k it (by simp) o e
 item := by
  intro X hP hw hK hc i pins s σ H E I hf st hg
  subst hP hw hK
  obtain ⟨xs, x, hq, hx⟩ := hg
  obtain ⟨its, rv, p, hz⟩ := I.list hq
  obtain ⟨u, hu, ru⟩ := rv.get hx
  obtain ⟨f0, f1, f2, f3, f4, f5⟩ := hf it (by simp)
  refine wpAny_pyNext_list_item st p.isList (x := u) (by simpa using hu) fun h' st' sb => ?_
  have I1 : Inv X pins σ H { s with heap := h' } := I.turned (t' := s.toks) (fun b o hb e => (sb.2 b hb).trans e) f0 f1 f3 f4 f5
  obtain ⟨o, e, c, d⟩ := id st'
  exact ⟨u, rfl, Zb1 (s := { s with heap := h' }) e c d (by decide) ⟨x, H, I1, ru, ⟨rfl, fun ys hy => by rw [I.list_inj hy hq]; exact hx⟩, st', fun b hb => (hf b hb).1⟩⟩
 done := by
  intro X hP hw hK hc i pins s σ H E I hf st hg
  subst hP hw hK
  obtain ⟨xs, hq, hx⟩ := hg
  obtain ⟨its, rv, p, hz⟩ := I.list hq
  obtain ⟨f0, f1, f2, f3, f4, f5⟩ := hf it (by simp)
  have hl := rv.length
  exact wpAny_pyNext_list_end (I.ok.hd hc) st p.isList (by simp; omega) fun h' eb => ⟨rfl, I.turned (t' := s.toks) (fun b o hb e => eb b o hb e) f0 f1 f3 f4 f5⟩
 self := fun _ _ _ _ _ st h => wpAny_pyIter_listiter st h
theorem UD {P : Program} {w : World} {K : PySem.W.Frag} {tg : Expr} (a it : Addr) : Turn P w K tg (Itt K a) [it] it (fun i h => h.IsTupleIter it a i) where
 mem := by simp
 obj := fun i h st b hb => by
  have e : b = it := by simpa using hb
  subst e
  obtain ⟨o, e, c, d⟩ := st
  exact ⟨o, e, fun v z => by rw [d] at z; cases z⟩
 keep := fun i h h' st k => st.at fun o e => k it (by simp) o e
 item := by
  intro X hP hw hK hc i pins s σ H E I hf st hg
  subst hP hw hK
  obtain ⟨xs, x, hq, hx⟩ := hg
  obtain ⟨its, rv, p, hz⟩ := I.tuple hq
  obtain ⟨u, hu, ru⟩ := rv.get hx
  obtain ⟨f0, f1, f2, f3, f4, f5⟩ := hf it (by simp)
  refine wpAny_pyNext_tuple_item st (show s.heap.IsTuple a its.toArray from p) (x := u) (by simpa using hu) fun h' st' sb => ?_
  have I1 : Inv X pins σ H { s with heap := h' } := I.turned (t' := s.toks) (fun b o hb e => (sb.2 b hb).trans e) f0 f1 f3 f4 f5
  obtain ⟨o, e, c, d⟩ := id st'
  exact ⟨u, rfl, Zb1 (s := { s with heap := h' }) e c d (by decide) ⟨x, H, I1, ru, ⟨rfl, fun ys hy => by rw [I.tuple_inj hy hq]; exact hx⟩, st', fun b hb => (hf b hb).1⟩⟩
 done := by
  intro X hP hw hK hc i pins s σ H E I hf st hg
  subst hP hw hK
  obtain ⟨xs, hq, hx⟩ := hg
  obtain ⟨its, rv, p, hz⟩ := I.tuple hq
  obtain ⟨f0, f1, f2, f3, f4, f5⟩ := hf it (by simp)
  have hl := rv.length
  exact wpAny_pyNext_tuple_end (I.ok.hd hc) st (show s.heap.IsTuple a its.toArray from p) (by simp; omega) fun h' eb => ⟨rfl, I.turned (t' := s.toks) (fun b o hb e => eb b o hb e) f0 f1 f3 f4 f5⟩
 self := fun _ _ _ _ _ st h => wpAny_pyIter_tupleiter st h
theorem UE {P : Program} {w : World} {K : PySem.W.Frag} {tg : Expr} (it : Addr) (lo : Int) (n : Nat) : Turn P w K tg (Itr lo n) [it] it (fun i h => IsRangeIter h it (lo + (i : Nat) * 1) ((n : Int) - (i : Nat)) 1) where
 mem := by simp
 obj := fun i h st b hb => by
  have e : b = it := by simpa using hb
  subst e
  exact ⟨_, st, fun v z => by
   have z' : Data.fields _ = Data.cell v := z
   cases z'⟩
 keep := fun i h h' st k => k it (by simp) _ st
 item := by
  intro X hP hw hK hc i pins s σ H E I hf st hg
  subst hP hw hK
  obtain ⟨f0, f1, f2, f3, f4, f5⟩ := hf it (by simp)
  have W := Walks.range (prog := X.prog) (w := X.w) (I.ok.hd hc) it lo 1 n
  refine W.item i s _ _ hg st fun v h' tk hv st' kk => ?_
  obtain ⟨t, rfl⟩ := hv
  have I1 : Inv X pins σ H { s with heap := h', toks := tk } := I.turned (fun b o hb e => kk b o (by simpa using hb) e) f0 f1 f3 f4 f5
  refine ⟨_, rfl, Zb1 (s := { s with heap := h', toks := tk }) (n := "range_iterator") st' rfl rfl (by decide) ⟨.int (lo + i), H, I1, ⟨t, ?_⟩, ⟨rfl, rfl⟩, st', fun b hb => (hf b hb).1⟩⟩
  rw [Int.mul_one]
 done := by
  intro X hP hw hK hc i pins s σ H E I hf st hg
  subst hP hw hK
  obtain ⟨f0, f1, f2, f3, f4, f5⟩ := hf it (by simp)
  exact wpAny_pyNext_range_end (I.ok.hd hc) st (by have : n ≤ i := hg; omega) fun h' eb => ⟨rfl, I.turned (t' := s.toks) (fun b o hb e => eb b o hb e) f0 f1 f3 f4 f5⟩
 self := fun _ _ _ _ _ st h => wpAny_pyIter_rangeiter st h
end L2
namespace L2
open PySem PySem.Spec PyProof.Rows
section
variable {X : Cx} {tg : Expr}
def iList (K : PySem.W.Frag) (tl : TE) : TI := fun σ H R => tl σ H fun x H1 => ∃ a, x = .ref a ∧ (∃ xs, SqL K H1 a xs) ∧ R (Itl K a) H1
def iTup (K : PySem.W.Frag) (tl : TE) : TI := fun σ H R => tl σ H fun x H1 => ∃ a, x = .ref a ∧ (∃ xs, SqT K H1 a xs) ∧ R (Itt K a) H1
theorem Yg {l : Expr} {tl : TE} (hl : PE X l tl) : PI X tg l (iList X.K tl) := by
 intro pins s σ H R I h
 refine thn (hl pins s σ H _ I h) fun v s1 ⟨x, H1, I1, r1, q1⟩ => ?_
 obtain ⟨a, e, ⟨xs, hq⟩, q⟩ := q1
 subst e
 cases r1
 obtain ⟨its, rv, p, hz⟩ := I1.list hq
 refine wpAny_pyIter_list p.isList ?_
 refine ⟨s1.heap.objs.size, [s1.heap.objs.size], _, _, H1, rfl, I1.kept (t' := s1.toks) fun b o e => Heap.get?_push_of_some _ e, ZaA a _, ⟨_, Heap.get?_push_size _ rfl, rfl, rfl⟩, fun b hb => ?_, q⟩
 have e : b = s1.heap.objs.size := by simpa using hb
 subst e
 exact I1.fpOk (Nat.le_refl _) (I1.hok.fresh (Nat.le_refl _))
theorem YJ {l : Expr} {tl : TE} (hl : PE X l tl) : PI X tg l (iTup X.K tl) := by
 intro pins s σ H R I h
 refine thn (hl pins s σ H _ I h) fun v s1 ⟨x, H1, I1, r1, q1⟩ => ?_
 obtain ⟨a, e, ⟨xs, hq⟩, q⟩ := q1
 subst e
 cases r1
 obtain ⟨its, rv, p, hz⟩ := I1.tuple hq
 refine wpAny_pyIter_tuple (show s1.heap.IsTuple a its.toArray from p) ?_
 refine ⟨s1.heap.objs.size, [s1.heap.objs.size], _, _, H1, rfl, I1.kept (t' := s1.toks) fun b o e => Heap.get?_push_of_some _ e, UD a _, ⟨_, Heap.get?_push_size _ rfl, rfl, rfl⟩, fun b hb => ?_, q⟩
 have e : b = s1.heap.objs.size := by simpa using hb
 subst e
 exact I1.fpOk (Nat.le_refl _) (I1.hok.fresh (Nat.le_refl _))
theorem Zbl {pins : List (Addr × Obj)} {σ : St} {H : Hp} {s : Shared} {R : It → Hp → Prop} {E : Value → Shared → Prop} {lo hi : Int} {t u v : Tok} {tk : Nat} (I : Inv X pins σ H s) (h1 : -(2 ^ 62) ≤ lo) (h2 : lo < 2 ^ 62) (h3 : -(2 ^ 62) ≤ hi) (h4 : hi < 2 ^ 62)
  (q : R (Itr lo (hi - lo).toNat) H) : wpAny (model X.prog X.w) X.A (pyIter (.ref s.heap.objs.size)) (PIE X pins σ tg R) E { s with heap := s.heap.push { cls := .type "range", data := .fields #[.int lo t, .int hi u, .int 1 v] }, toks := tk } := by
 refine wpAny_pyIter_range (IsRange.new ..) (small_one h1 h2 h3 h4) ?_
 have I1 : Inv X pins σ H { s with heap := s.heap.push { cls := .type "range", data := .fields #[.int lo t, .int hi u, .int 1 v] }, toks := tk } := I.kept fun b o e => Heap.get?_push_of_some _ e
 refine ⟨(s.heap.push { cls := .type "range", data := .fields #[.int lo t, .int hi u, .int 1 v] }).objs.size, [(s.heap.push { cls := .type "range", data := .fields #[.int lo t, .int hi u, .int 1 v] }).objs.size], _, _, H, rfl,
  I1.kept (t' := tk) fun b o e => Heap.get?_push_of_some _ e, UE _ lo (hi - lo).toNat, ?_, fun b hb => ?_, q⟩
 ·have e1 : lo + ((0 : Nat) : Int) * 1 = lo := by simp
  have e2 : (((hi - lo).toNat : Nat) : Int) - ((0 : Nat) : Int) = Builtin.Range.rangeSize lo hi 1 := by rw [rangeSize_one]; split <;> omega
  show IsRangeIter _ _ (lo + ((0 : Nat) : Int) * 1) ((((hi - lo).toNat : Nat) : Int) - ((0 : Nat) : Int)) 1
  rw [e1, e2]
  exact Heap.get?_push_size _ rfl
 ·have e : b = (s.heap.push { cls := .type "range", data := .fields #[.int lo t, .int hi u, .int 1 v] }).objs.size := by simpa using hb
  subst e
  exact I1.fpOk (Nat.le_refl _) (I1.hok.fresh (Nat.le_refl _))
def iRng1 (ta : TA) : TI := fun σ H R => ta σ H fun vs H1 => ∃ j : Int, vs = [.int j] ∧ -(2 ^ 62) ≤ j ∧ j < 2 ^ 62 ∧ R (Itr 0 j.toNat) H1
theorem Z9 {a : Expr} {ta : TA} {p pos : Pos} (hg : Gl X "range") (hm : X.mg "range" = none) (ha : PA X [a] ta) (hs : starEach [a] X.env = [(false, eval a X.env)] := by rfl) : PI X tg (.Call (.Name "range" p) [a] [] pos) (iRng1 ta) := by
 intro pins s σ H R I h
 refine Call_ (YE I hg hm boot_range (PyProof.Rows.callWith_type1 (thn (ha pos pins s σ H _ I h) fun us s1 ⟨vs, H1, I1, r1, q1⟩ => ?_) hs rfl))
 obtain ⟨j, e, q1, q2, q⟩ := q1
 subst e
 cases r1 with
 | cons r rr =>
  cases rr
  obtain ⟨t, rfl⟩ := r
  exact call_range_1 (Zbl I1 (by omega) (by omega) q1 q2 (by simpa using q))
def tFor (wi : TI) (g : TG) (tb : TS) : TS := fun D σ H => wi σ H fun J H1 => ∃ W : Nat → Nat → St → Hp → Prop, (∃ m, W 0 m σ H1) ∧ ∀ i m σ H, W i m σ H →
 (J.stop i H ∧ D.nx σ H) ∨ (J.go i H ∧ ∃ N : St → Hp → Prop, (∀ σ' H', N σ' H' → ∃ m', m' < m ∧ W (i + 1) m' σ' H') ∧ ∀ x H', J.yld i H x H' → g x σ H' fun σ2 H2 => tb { D with nx := N, ct := N, bk := D.nx } σ2 H2)
def pinsAt (fp : List Addr) (h : Heap) : List (Addr × Obj) := fp.filterMap fun b => (h.get? b).map fun o => (b, o)
theorem ZR {fp : List Addr} {h : Heap} {b : Addr} {o : Obj} (hb : b ∈ fp) (e : h.get? b = some o) : (b, o) ∈ pinsAt fp h := List.mem_filterMap.mpr ⟨b, hb, by rw [e]; rfl⟩
theorem Jp {fp : List Addr} {h : Heap} {p : Addr × Obj} (hp : p ∈ pinsAt fp h) : p.1 ∈ fp ∧ h.get? p.1 = some p.2 := by
 obtain ⟨b, hb, e⟩ := List.mem_filterMap.mp hp
 cases q : h.get? b with
 | none => rw [q] at e; cases e
 | some o =>
  rw [q] at e
  have e' : (b, o) = p := Option.some.inj e
  subst e'
  exact ⟨hb, q⟩
theorem Inv.pinned {pins : List (Addr × Obj)} {σ : St} {H : Hp} {s : Shared} {fp : List Addr} (I : Inv X pins σ H s) (hf : ∀ b ∈ fp, FpOk X pins H b) (ho : ∀ b ∈ fp, ∃ o, s.heap.get? b = some o ∧ ∀ v, o.data ≠ .cell v) : Inv X (pins ++ pinsAt fp s.heap) σ H s :=
 I.pins_of fun p hp => (List.mem_append.mp hp).elim (fun z => I.pin p (List.mem_append_right _ z)) fun z => by
  obtain ⟨hb, e⟩ := Jp z
  obtain ⟨f0, f1, f2, _⟩ := hf p.1 hb
  obtain ⟨o, e', d⟩ := ho p.1 hb
  rw [e] at e'; cases e'
  exact ⟨e, f0, f1, f2, d⟩
theorem Inv.unpinned {pins pl : List (Addr × Obj)} {σ : St} {H : Hp} {s : Shared} (I : Inv X (pins ++ pl) σ H s) : Inv X pins σ H s := I.pins_of fun p hp => I.pin p (List.mem_append_right _ (List.mem_append_left _ hp))
theorem Yo {iter : Expr} {body : List Stmt} {wi : TI} {g : TG} {tb : TS} {pos : Pos} (hp : PassesOwn (model X.prog X.w) X.A X.env X.xe) (hc : X.calm = true) (hi : PI X tg iter wi) (hg : PG X tg g) (hb : PSs X body tb)
  (hs : ∀ x, foldedSetIterable iter X.env x = pure x := by intro _; rfl) : PS X (.For tg iter body [] pos) (tFor wi g tb) := by
 intro pins s σ H D I h
 refine wpAny_For (thn (hi pins s σ H _ I h) fun v s1 h1 => thn h1 fun itv s2 h2 => ?_) hs
 obtain ⟨it, fp, tn, J, H2, e, I2, T, st2, f2, W, ⟨m0, w0⟩, turn⟩ := h2
 subst e
 have stat : ∀ {H' : Hp}, (∀ b ∈ fp, H' b = none) → ∀ b ∈ fp, FpOk X pins H' b := fun hn b hb => ⟨hn b hb, (f2 b hb).2⟩
 refine codeAny_forLoop_any (fun n s' => ∃ i σ' H', Inv X pins σ' H' s' ∧ tn i s'.heap ∧ (∀ b ∈ fp, H' b = none) ∧ W i n σ' H') ?_ m0 ⟨0, σ, H2, I2, st2, fun b hb => (f2 b hb).1, w0⟩
 rintro n s3 ⟨i, σ3, H3, I3, st3, fr3, w3⟩
 rcases turn i n σ3 H3 w3 with ⟨stop, qn⟩ | ⟨go, N, hN, step⟩
 ·refine wpAny_passesOwn hp (thn (T.done X rfl rfl rfl hc i pins s3 σ3 H3 X.xe I3 (stat fr3) st3 stop) fun r s4 ⟨hr, I4⟩ => ?_)
  subst hr
  exact wpAny_execs_nil ⟨σ3, H3, I4, qn⟩
 ·refine wpAny_passesOwn hp (thn (T.item X rfl rfl rfl hc i pins s3 σ3 H3 X.xe I3 (stat fr3) st3 go) fun r s4 ⟨u, hr, h4⟩ => ?_)
  subst hr
  refine wpAny_passesOwn hp (thn h4 fun _ s5 ⟨x, H5, I5, r5, y5, st5, fr5⟩ => ?_)
  have I5' := I5.pinned (stat fr5) (T.obj _ _ st5)
  refine wpAny_passesOwn hp (thn (hg _ s5 σ3 H5 x u _ I5' r5 (step x H5 y5)) fun _ s6 ⟨σ6, H6, I6, q6⟩ => ?_)
  refine wpAny_passesOwn hp (thn (hb _ s6 σ6 H6 _ I6 q6) fun f s7 q7 => ?_)
  have again : ∀ {σ7 : St} {H7 : Hp}, Inv X (pins ++ pinsAt fp s5.heap) σ7 H7 s7 → N σ7 H7 → ∃ m, m < n ∧ ∃ i σ' H', Inv X pins σ' H' s7 ∧ tn i s7.heap ∧ (∀ b ∈ fp, H' b = none) ∧ W i m σ' H' := fun {σ7 H7} I7 n7 => by
   obtain ⟨m', hm, w7⟩ := hN σ7 H7 n7
   refine ⟨m', hm, i + 1, σ7, H7, I7.unpinned, T.keep _ _ _ st5 fun b hb o e => (I7.pin (b, o) (List.mem_append_right _ (List.mem_append_right _ (ZR hb e)))).1, fun b hb => ?_, w7⟩
   obtain ⟨o, e, d⟩ := T.obj _ _ st5 b hb
   exact (I7.pin (b, o) (List.mem_append_right _ (List.mem_append_right _ (ZR hb e)))).2.1
  cases f with
  | next => obtain ⟨σ7, H7, I7, n7⟩ := q7; exact again I7 n7
  | cont => obtain ⟨σ7, H7, I7, n7⟩ := q7; exact again I7 n7
  | brk => obtain ⟨σ7, H7, I7, q7⟩ := q7; exact ⟨σ7, H7, I7.unpinned, q7⟩
  | ret v => obtain ⟨x7, σ7, H7, I7, r7, q7⟩ := q7; exact ⟨x7, σ7, H7, I7.unpinned, r7, q7⟩
end
theorem YQ {K : PySem.W.Frag} {a : Addr} {xs : List V} {g : TG} {tb : TS} {D : Ends} {σ : St} {H : Hp} (Pv : Nat → St → Hp → Prop) (h0 : Pv 0 σ H) (hl : ∀ i σ H, i ≤ xs.length → Pv i σ H → SqL K H a xs)
  (hs : ∀ i x σ H, xs[i]? = some x → Pv i σ H → g x σ H fun σ2 H2 => tb { D with nx := Pv (i + 1), ct := Pv (i + 1), bk := D.nx } σ2 H2) (hd : ∀ σ H, Pv xs.length σ H → D.nx σ H) :
  ∃ W : Nat → Nat → St → Hp → Prop, (∃ m, W 0 m σ H) ∧ ∀ i m σ H, W i m σ H →
   ((Itl K a).stop i H ∧ D.nx σ H) ∨ ((Itl K a).go i H ∧ ∃ N : St → Hp → Prop, (∀ σ' H', N σ' H' → ∃ m', m' < m ∧ W (i + 1) m' σ' H') ∧ ∀ x H', (Itl K a).yld i H x H' → g x σ H' fun σ2 H2 => tb { D with nx := N, ct := N, bk := D.nx } σ2 H2) := by
 refine ⟨fun i m σ H => m = xs.length - i ∧ i ≤ xs.length ∧ Pv i σ H, ⟨xs.length, by simp, Nat.zero_le _, h0⟩, ?_⟩
 rintro i m σ H ⟨rfl, hi, p⟩
 have q := hl i σ H hi p
 by_cases hlt : i < xs.length
 ·refine .inr ⟨⟨xs, xs[i], q, by simp [hlt]⟩, Pv (i + 1), fun σ' H' p' => ⟨xs.length - (i + 1), by omega, rfl, hlt, p'⟩, fun x H' y => ?_⟩
  obtain ⟨e, y⟩ := y
  subst e
  exact hs i x σ _ (y xs q) p
 ·have e : i = xs.length := by omega
  subst e
  exact .inl ⟨⟨xs, q, Nat.le_refl _⟩, hd σ H p⟩
theorem Yx {lo : Int} {n : Nat} {g : TG} {tb : TS} {D : Ends} {σ : St} {H : Hp} (Pv : Nat → St → Hp → Prop) (h0 : Pv 0 σ H)
  (hs : ∀ i σ H, i < n → Pv i σ H → g (.int (lo + i)) σ H fun σ2 H2 => tb { D with nx := Pv (i + 1), ct := Pv (i + 1), bk := D.nx } σ2 H2) (hd : ∀ σ H, Pv n σ H → D.nx σ H) :
  ∃ W : Nat → Nat → St → Hp → Prop, (∃ m, W 0 m σ H) ∧ ∀ i m σ H, W i m σ H →
   ((Itr lo n).stop i H ∧ D.nx σ H) ∨ ((Itr lo n).go i H ∧ ∃ N : St → Hp → Prop, (∀ σ' H', N σ' H' → ∃ m', m' < m ∧ W (i + 1) m' σ' H') ∧ ∀ x H', (Itr lo n).yld i H x H' → g x σ H' fun σ2 H2 => tb { D with nx := N, ct := N, bk := D.nx } σ2 H2) := by
 refine ⟨fun i m σ H => m = n - i ∧ i ≤ n ∧ Pv i σ H, ⟨n, by simp, Nat.zero_le _, h0⟩, ?_⟩
 rintro i m σ H ⟨rfl, hi, p⟩
 by_cases hlt : i < n
 ·refine .inr ⟨hlt, Pv (i + 1), fun σ' H' p' => ⟨n - (i + 1), by omega, rfl, hlt, p'⟩, fun x H' y => ?_⟩
  obtain ⟨e, y⟩ := y
  subst e y
  exact hs i σ _ hlt p
 ·have e : i = n := by omega
  subst e
  exact .inl ⟨Nat.le_refl _, hd σ H p⟩
end L2
namespace L2
open PySem PySem.Spec PyProof.Rows
abbrev R2 := V → V → Hp → VK → Prop
def OpR (X : Cx) (f : Value → Value → Sem Value) (r : R2) : Prop :=
 ∀ (pins : List (Addr × Obj)) (s : Shared) (σ : St) (H : Hp) (x y : V) (v u : Value) (Q : VK), Inv X pins σ H s → RelV x v → RelV y u → r x y H Q →
  wpAny (model X.prog X.w) X.A (f v u) (EP X pins σ Q) X.xe s
def UnR (X : Cx) (f : Value → Sem Value) (r : V → Hp → VK → Prop) : Prop :=
 ∀ (pins : List (Addr × Obj)) (s : Shared) (σ : St) (H : Hp) (x : V) (v : Value) (Q : VK), Inv X pins σ H s → RelV x v → r x H Q →
  wpAny (model X.prog X.w) X.A (f v) (EP X pins σ Q) X.xe s
def CallR (X : Cx) (f : Value) (r : List V → Hp → VK → Prop) : Prop :=
 ∀ (pins : List (Addr × Obj)) (s : Shared) (σ : St) (H : Hp) (xs : List V) (us : List Value) (Q : VK), Inv X pins σ H s → Vals xs us → r xs H Q →
  wpAny (model X.prog X.w) X.A (call f us) (EP X pins σ Q) X.xe s
def tOp (r : R2) (ta tb : TE) : TE := fun σ H Q => ta σ H fun x H1 => tb σ H1 fun y H2 => r x y H2 Q
def tUn (r : V → Hp → VK → Prop) (ta : TE) : TE := fun σ H Q => ta σ H fun x H1 => r x H1 Q
def rI (C : Int → Int → Prop) (g : Int → Int → V) : R2 := fun x y H Q => ∃ i j, x = .int i ∧ y = .int j ∧ C i j ∧ Q (g i j) H
def rI0 (g : Int → Int → V) : R2 := fun x y H Q => ∃ i j, x = .int i ∧ y = .int j ∧ Q (g i j) H
def rU (g : Int → V) : V → Hp → VK → Prop := fun x H Q => ∃ i, x = .int i ∧ Q (g i) H
section
variable {X : Cx} {a b c : Expr} {ta tb tc : TE} {pos : Pos}
theorem binT (ha : PE X a ta) (hb : PE X b tb) {pins : List (Addr × Obj)} {s : Shared} {σ : St} {H : Hp} {R : V → V → Hp → Prop} (I : Inv X pins σ H s)
  (h : ta σ H fun x H1 => tb σ H1 fun y H2 => R x y H2) {Q : Value → Shared → Prop} {f : Value → Value → Sem Value}
  (hf : ∀ v u s2 x y H2, Inv X pins σ H2 s2 → RelV x v → RelV y u → R x y H2 → wpAny (model X.prog X.w) X.A (f v u) Q X.xe s2) :
  wpAny (model X.prog X.w) X.A (eval a X.env) (fun v s₁ => wpAny (model X.prog X.w) X.A (eval b X.env) (fun u s₂ => wpAny (model X.prog X.w) X.A (f v u) Q X.xe s₂) X.xe s₁) X.xe s := by
 refine thn (ha pins s σ H _ I h) fun v s1 ⟨x, H1, I1, r1, q1⟩ => ?_
 refine thn (hb pins s1 σ H1 _ I1 q1) fun u s2 ⟨y, H2, I2, r2, q2⟩ => ?_
 exact hf v u s2 x y H2 I2 r1 r2 q2
theorem Zu {op : Operator} {r : R2} (ho : OpR X (binaryOp op) r) (ha : PE X a ta) (hb : PE X b tb) : PE X (.BinOp a op b pos) (tOp r ta tb) := by
 intro pins s σ H Q I h
 exact wpAny_BinOp (binT ha hb I h fun v u s2 x y H2 I2 rx ry q => ho pins s2 σ H2 x y v u Q I2 rx ry q)
theorem Zae {op : UnaryOp} {r : V → Hp → VK → Prop} (ho : UnR X (unaryOp op) r) (ha : PE X a ta) : PE X (.UnaryOp op a pos) (tUn r ta) := by
 intro pins s σ H Q I h
 exact UnaryOp_ (thn (ha pins s σ H _ I h) fun v s1 ⟨x, H1, I1, r1, q1⟩ => ho pins s1 σ H1 x v Q I1 r1 q1)
theorem opI {f : Value → Value → Sem Value} {C : Int → Int → Prop} {g : Int → Int → Int}
  (rule : ∀ (i j : Int) (t u : Tok) (s : Shared) (Q : Value → Shared → Prop) (E : Value → Shared → Prop), C i j → Q (.int (g i j) s.toks) { s with toks := s.toks + 1 } → wpAny (model X.prog X.w) X.A (f (.int i t) (.int j u)) Q E s) :
  OpR X f (rI C fun i j => .int (g i j)) := by
 intro pins s σ H x y v u Q I rx ry h
 obtain ⟨i, j, rfl, rfl, hc, q⟩ := h
 obtain ⟨t, rfl⟩ := rx
 obtain ⟨t', rfl⟩ := ry
 exact rule i j t t' s _ _ hc ⟨.int (g i j), H, I.tok _, ⟨_, rfl⟩, q⟩
theorem opI0 {f : Value → Value → Sem Value} {g : Int → Int → Int}
  (rule : ∀ (i j : Int) (t u : Tok) (s : Shared) (Q : Value → Shared → Prop) (E : Value → Shared → Prop), Q (.int (g i j) s.toks) { s with toks := s.toks + 1 } → wpAny (model X.prog X.w) X.A (f (.int i t) (.int j u)) Q E s) :
  OpR X f (rI0 fun i j => .int (g i j)) := by
 intro pins s σ H x y v u Q I rx ry h
 obtain ⟨i, j, rfl, rfl, q⟩ := h
 obtain ⟨t, rfl⟩ := rx
 obtain ⟨t', rfl⟩ := ry
 exact rule i j t t' s _ _ ⟨.int (g i j), H, I.tok _, ⟨_, rfl⟩, q⟩
theorem opB0 {f : Value → Value → Sem Value} {g : Int → Int → Bool}
  (rule : ∀ (i j : Int) (t u : Tok) (s : Shared) (Q : Value → Shared → Prop) (E : Value → Shared → Prop), Q (.bool (g i j)) s → wpAny (model X.prog X.w) X.A (f (.int i t) (.int j u)) Q E s) :
  OpR X f (rI0 fun i j => .bl (g i j)) := by
 intro pins s σ H x y v u Q I rx ry h
 obtain ⟨i, j, rfl, rfl, q⟩ := h
 obtain ⟨t, rfl⟩ := rx
 obtain ⟨t', rfl⟩ := ry
 exact rule i j t t' s _ _ ⟨.bl (g i j), H, I, rfl, q⟩
def CDiv (i j : Int) : Prop := 0 < j ∧ j < 1073741824
def CPow (i j : Int) : Prop := 0 ≤ j ∧ j ≤ 1000000 ∧ i.natAbs < 2 ^ 64
def CMul (i j : Int) : Prop := (-(2 ^ 64) < i ∧ i < 2 ^ 64) ∨ (-(2 ^ 64) < j ∧ j < 2 ^ 64)
theorem CMul.ok {i j : Int} (h : CMul i j) : IntMulOk i j := by
 rcases h with ⟨h1, h2⟩ | ⟨h1, h2⟩
 ·exact .of_left (intBits_le_64 h1 h2)
 ·exact .of_right (intBits_le_64 h1 h2)
theorem YL : OpR X (binaryOp .Add) (rI0 fun i j => .int (i + j)) := opI0 fun _ _ _ _ _ _ _ q => add_int q
theorem ZZ : OpR X (binaryOp .Sub) (rI0 fun i j => .int (i - j)) := opI0 fun _ _ _ _ _ _ _ q => sub_int q
theorem JY : OpR X (binaryOp .Mult) (rI CMul fun i j => .int (i * j)) := opI fun _ _ _ _ _ _ _ hc q => mul_int q hc.ok
theorem JJ : OpR X (binaryOp .FloorDiv) (rI CDiv fun i j => .int (i / j)) := opI fun i j _ _ _ _ _ hc q => by
 have h1 : (0 : Int) < j := hc.1
 have h2 : j < 1073741824 := hc.2
 exact floordiv_int (by omega) (by rw [Int.fdiv_eq_ediv_of_nonneg i (by omega)]; exact q) (.inl (PyProof.noPylong_small (by omega)))
theorem Y5 : OpR X (binaryOp .Mod) (rI (fun _ j => 0 < j) fun i j => .int (i % j)) := opI fun i j _ _ _ _ _ hc q => by
 have h1 : (0 : Int) < j := hc
 exact mod_int' (by omega) (by rw [Int.fmod_eq_emod_of_nonneg i (by omega)]; exact q)
theorem UN : OpR X (binaryOp .Pow) (rI CPow fun i j => .int (i ^ j.toNat)) := opI fun _ _ _ _ _ _ _ hc q => pow_int_small hc.1 hc.2.1 hc.2.2 q
theorem unI {f : Value → Sem Value} {g : Int → Int}
  (rule : ∀ (i : Int) (t : Tok) (s : Shared) (Q : Value → Shared → Prop) (E : Value → Shared → Prop), Q (.int (g i) s.toks) { s with toks := s.toks + 1 } → wpAny (model X.prog X.w) X.A (f (.int i t)) Q E s) :
  UnR X f (rU fun i => .int (g i)) := by
 intro pins s σ H x v Q I rx h
 obtain ⟨i, rfl, q⟩ := h
 obtain ⟨t, rfl⟩ := rx
 exact rule i t s _ _ ⟨.int (g i), H, I.tok _, ⟨_, rfl⟩, q⟩
theorem WK : UnR X (unaryOp .USub) (rU fun i => .int (-i)) := unI fun _ _ _ _ _ q => neg_int q
end
def scal : V → V → Bool
 | .non, .non => true | .non, .int _ => true | .int _, .non => true | .non, .bl _ => true | .bl _, .non => true | .non, .str _ => true | .str _, .non => true
 | .int _, .int _ => true | .bl _, .bl _ => true | .str _, .str _ => true | .byt _, .byt _ => true
 | .int _, .str _ => true | .str _, .int _ => true | .bl _, .str _ => true | .str _, .bl _ => true
 | _, _ => false
def rEq : R2 := fun x y H Q => scal x y = true ∧ Q (.bl (decide (x = y))) H
def rNe : R2 := fun x y H Q => scal x y = true ∧ Q (.bl (!decide (x = y))) H
theorem W3 {i j : Int} : decide (V.int i = V.int j) = (i == j) := by
 rw [Bool.eq_iff_iff]
 simp
theorem Zb8 {i j : Bool} : decide (V.bl i = V.bl j) = (i == j) := by
 rw [Bool.eq_iff_iff]
 simp
theorem Zas {i j : Str} : decide (V.str i = V.str j) = (i == j) := by
 rw [Bool.eq_iff_iff]
 simp
theorem Zat {i j : Array UInt8} : decide (V.byt i = V.byt j) = (i.toList == j.toList) := by
 rw [Bool.eq_iff_iff]
 cases i
 cases j
 simp
section
variable {X : Cx} {a b c : Expr} {ta tb tc : TE} {pos : Pos}
theorem ZH {pins : List (Addr × Obj)} {σ : St} {H : Hp} {s : Shared} {Q : VK} {k k' : Bool} (I : Inv X pins σ H s) (q : Q (.bl k) H) (e : k = k') : EP X pins σ Q (.bool k') s := by
 subst e
 exact ⟨.bl k, H, I, rfl, q⟩
theorem Z8 : OpR X (compareOp .Eq) rEq := by
 intro pins s σ H x y v u Q I rx ry h
 obtain ⟨hs, q⟩ := h
 cases x with
 | non =>
  cases rx
  cases y with
  | non => cases ry; exact PySem.EqNone.eq_none_none (ZH I q (by simp))
  | bl j => cases ry; exact PySem.EqNone.eq_none_bool (ZH I q (by simp))
  | int j => obtain ⟨t', rfl⟩ := ry; exact PySem.EqNone.eq_none_int (ZH I q (by simp))
  | str j => obtain ⟨t', rfl⟩ := ry; exact PySem.EqNone.eq_none_str (ZH I q (by simp))
  | _ => exact absurd (show false = true from hs) Bool.false_ne_true
 | bl i =>
  cases rx
  cases y with
  | non => cases ry; exact PySem.EqNone.eq_bool_none (ZH I q (by simp))
  | bl j => cases ry; exact eq_bool (ZH I q Zb8)
  | str j => obtain ⟨t', rfl⟩ := ry; exact PySem.EqMixed.eq_bool_str (ZH I q (by simp))
  | _ => exact absurd (show false = true from hs) Bool.false_ne_true
 | int i =>
  obtain ⟨t, rfl⟩ := rx
  cases y with
  | non => cases ry; exact PySem.EqNone.eq_int_none (ZH I q (by simp))
  | int j => obtain ⟨t', rfl⟩ := ry; exact eq_int (ZH I q W3)
  | str j => obtain ⟨t', rfl⟩ := ry; exact PySem.EqMixed.eq_int_str (ZH I q (by simp))
  | _ => exact absurd (show false = true from hs) Bool.false_ne_true
 | str i =>
  obtain ⟨t, rfl⟩ := rx
  cases y with
  | non => cases ry; exact PySem.EqNone.eq_str_none (ZH I q (by simp))
  | bl j => cases ry; exact PySem.EqMixed.eq_str_bool (ZH I q (by simp))
  | int j => obtain ⟨t', rfl⟩ := ry; exact PySem.EqMixed.eq_str_int (ZH I q (by simp))
  | str j => obtain ⟨t', rfl⟩ := ry; exact eq_str (ZH I q Zas)
  | _ => exact absurd (show false = true from hs) Bool.false_ne_true
 | byt i =>
  obtain ⟨t, rfl⟩ := rx
  cases y with
  | byt j => obtain ⟨t', rfl⟩ := ry; exact PySem.W.eq_bytes (ZH I q Zat)
  | _ => exact absurd (show false = true from hs) Bool.false_ne_true
 | _ => cases y <;> exact absurd (show false = true from hs) Bool.false_ne_true
theorem Jd : OpR X (compareOp .NotEq) rNe := by
 intro pins s σ H x y v u Q I rx ry h
 obtain ⟨hs, q⟩ := h
 cases x with
 | non =>
  cases rx
  cases y with
  | non => cases ry; exact PySem.EqNone.ne_none_none (ZH I q (by simp))
  | bl j => cases ry; exact PySem.EqNone.ne_none_bool (ZH I q (by simp))
  | int j => obtain ⟨t', rfl⟩ := ry; exact PySem.EqNone.ne_none_int (ZH I q (by simp))
  | str j => obtain ⟨t', rfl⟩ := ry; exact PySem.EqNone.ne_none_str (ZH I q (by simp))
  | _ => exact absurd (show false = true from hs) Bool.false_ne_true
 | bl i =>
  cases rx
  cases y with
  | non => cases ry; exact PySem.EqNone.ne_bool_none (ZH I q (by simp))
  | bl j => cases ry; exact ne_bool (ZH I q (congrArg not Zb8))
  | str j => obtain ⟨t', rfl⟩ := ry; exact PySem.EqMixed.ne_bool_str (ZH I q (by simp))
  | _ => exact absurd (show false = true from hs) Bool.false_ne_true
 | int i =>
  obtain ⟨t, rfl⟩ := rx
  cases y with
  | non => cases ry; exact PySem.EqNone.ne_int_none (ZH I q (by simp))
  | int j => obtain ⟨t', rfl⟩ := ry; exact ne_int (ZH I q (congrArg not W3))
  | str j => obtain ⟨t', rfl⟩ := ry; exact PySem.EqMixed.ne_int_str (ZH I q (by simp))
  | _ => exact absurd (show false = true from hs) Bool.false_ne_true
 | str i =>
  obtain ⟨t, rfl⟩ := rx
  cases y with
  | non => cases ry; exact PySem.EqNone.ne_str_none (ZH I q (by simp))
  | bl j => cases ry; exact PySem.EqMixed.ne_str_bool (ZH I q (by simp))
  | int j => obtain ⟨t', rfl⟩ := ry; exact PySem.EqMixed.ne_str_int (ZH I q (by simp))
  | str j => obtain ⟨t', rfl⟩ := ry; exact ne_str (ZH I q (congrArg not Zas))
  | _ => exact absurd (show false = true from hs) Bool.false_ne_true
 | byt i =>
  obtain ⟨t, rfl⟩ := rx
  cases y with
  | byt j => obtain ⟨t', rfl⟩ := ry; exact PySem.W.ne_bytes (ZH I q (congrArg not Zat))
  | _ => exact absurd (show false = true from hs) Bool.false_ne_true
 | _ => cases y <;> exact absurd (show false = true from hs) Bool.false_ne_true
theorem ZdB : OpR X (compareOp .Lt) (rI0 fun i j => .bl (decide (i < j))) := opB0 fun _ _ _ _ _ _ _ q => lt_int q
theorem ZcJ : OpR X (compareOp .LtE) (rI0 fun i j => .bl (decide (i ≤ j))) := opB0 fun _ _ _ _ _ _ _ q => le_int q
theorem ZcK : OpR X (compareOp .Gt) (rI0 fun i j => .bl (decide (j < i))) := opB0 fun _ _ _ _ _ _ _ q => gt_int q
theorem ZdC : OpR X (compareOp .GtE) (rI0 fun i j => .bl (decide (j ≤ i))) := opB0 fun _ _ _ _ _ _ _ q => ge_int q
theorem OpR.or {f : Value → Value → Sem Value} {r r' : R2} (h : OpR X f r) (h' : OpR X f r') : OpR X f (fun x y H Q => r x y H Q ∨ r' x y H Q) := by
 intro pins s σ H x y v u Q I rx ry q
 rcases q with q | q
 ·exact h pins s σ H x y v u Q I rx ry q
 ·exact h' pins s σ H x y v u Q I rx ry q
theorem nomark (b : Expr) {op : CmpOp} (h : op ≠ .In := by decide) (h2 : op ≠ .NotIn := by decide) : behindInMarks op b = false := by
 have e1 : (op == CmpOp.In) = false := by cases op <;> first | rfl | exact absurd rfl h
 have e2 : (op == CmpOp.NotIn) = false := by cases op <;> first | rfl | exact absurd rfl h2
 cases b <;> simp [behindInMarks, e1, e2]
theorem Z6 {op : CmpOp} {r : R2} (ho : OpR X (compareOp op) r) (ha : PE X a ta) (hb : PE X b tb) (hm : behindInMarks op b = false) : PE X (.Compare a [op] [b] pos) (tOp r ta tb) := by
 intro pins s σ H Q I h
 exact wpAny_Compare1 (binT ha hb I h fun v u s2 x y H2 I2 rx ry q => ho pins s2 σ H2 x y v u Q I2 rx ry q) hm
def tTest (t : TE) : TT := fun σ H Q => t σ H fun x H' => ∃ k, x = .bl k ∧ Q k H'
theorem ZA {op : CmpOp} {r : R2} (ho : OpR X (compareOp op) r) (ha : PE X a ta) (hb : PE X b tb) (hm : behindInMarks op b = false) : PT X (.Compare a [op] [b] pos) (tTest (tOp r ta tb)) := by
 intro pins s σ H Q I h
 refine wpAny_isTrue_Compare1 (thn (ha pins s σ H _ I h) fun v s1 ⟨x, H1, I1, r1, q1⟩ => thn (hb pins s1 σ H1 _ I1 q1) fun u s2 ⟨y, H2, I2, r2, q2⟩ =>
  thn (ho pins s2 σ H2 x y v u _ I2 r1 r2 q2) fun c s3 ⟨z, H3, I3, r3, k, e, q3⟩ => ?_) hm
 subst e
 cases r3
 exact wpAny_truthy_bool ⟨H3, I3, q3⟩
def tChain (r r' : R2) (ta tb tc : TE) : TE := fun σ H Q => ta σ H fun x H1 => tb σ H1 fun y H2 => r x y H2 fun z H3 => ∃ k, z = .bl k ∧
 (if k = true then tc σ H3 fun w' H4 => r' y w' H4 Q else Q (.bl false) H3)
theorem Zbv {op op' : CmpOp} {r r' : R2} (ho : OpR X (compareOp op) r) (ho' : OpR X (compareOp op') r') (ha : PE X a ta) (hb : PE X b tb) (hc : PE X c tc)
  (hm : lastMarks [op, op'] [b, c] = false := by with_unfolding_all rfl) : PE X (.Compare a [op, op'] [b, c] pos) (tChain r r' ta tb tc) := by
 intro pins s σ H Q I h
 refine Compare_chain (thn (ha pins s σ H _ I h) fun v s1 ⟨x, H1, I1, r1, q1⟩ => chain_link (thn (hb pins s1 σ H1 _ I1 q1) fun u s2 ⟨y, H2, I2, r2, q2⟩ =>
  thn (ho pins s2 σ H2 x y v u _ I2 r1 r2 q2) fun d s3 ⟨z, H3, I3, r3, k, e, q3⟩ => ?_)) hm
 subst e
 cases r3
 refine wpAny_truthy_bool ?_
 cases k with
 | false => exact ite_ff ⟨.bl false, H3, I3, rfl, q3⟩
 | true => exact ite_tt (chain_last (thn (hc pins s3 σ H3 _ I3 q3) fun w' s4 ⟨z', H4, I4, r4, q4⟩ => ho' pins s4 σ H4 y z' u w' Q I4 r2 r4 q4))
theorem line63 : (sizeLine : Nat) < 2 ^ 63 := by rw [sizeLine_eq]; decide
theorem vals1 {x : V} {us : List Value} (r : Vals [x] us) : ∃ u, us = [u] ∧ RelV x u := by
 cases r with
 | cons r1 r2 => cases r2; exact ⟨_, rfl, r1⟩
theorem vals2 {x y : V} {us : List Value} (r : Vals [x, y] us) : ∃ u w', us = [u, w'] ∧ RelV x u ∧ RelV y w' := by
 cases r with
 | cons r1 r2 =>
  cases r2 with
  | cons r3 r4 => cases r4; exact ⟨_, _, rfl, r1, r3⟩
theorem WE (hc : X.calm = true) : CallR X (.builtin "max") (fun xs H Q => ∃ i j, xs = [.int i, .int j] ∧ Q (.int (if j > i then j else i)) H) := by
 intro pins s σ H xs us Q I r h
 obtain ⟨i, j, rfl, q⟩ := h
 obtain ⟨u, w', rfl, ⟨t, rfl⟩, ⟨t', rfl⟩⟩ := vals2 r
 refine max_two_ints (I.ok.hd hc) fun h' tk k => ⟨_, H, I.kept k, ?_, q⟩
 by_cases hj : j > i
 ·rw [if_pos hj, if_pos hj]; exact ⟨_, rfl⟩
 ·rw [if_neg hj, if_neg hj]; exact ⟨_, rfl⟩
theorem Zba (hc : X.calm = true) : CallR X (.builtin "min") (fun xs H Q => ∃ i j, xs = [.int i, .int j] ∧ Q (.int (if j < i then j else i)) H) := by
 intro pins s σ H xs us Q I r h
 obtain ⟨i, j, rfl, q⟩ := h
 obtain ⟨u, w', rfl, ⟨t, rfl⟩, ⟨t', rfl⟩⟩ := vals2 r
 refine min_two_ints (I.ok.hd hc) fun h' tk k => ⟨_, H, I.kept k, ?_, q⟩
 by_cases hj : j < i
 ·rw [if_pos hj, if_pos hj]; exact ⟨_, rfl⟩
 ·rw [if_neg hj, if_neg hj]; exact ⟨_, rfl⟩
end
end L2
namespace L2
open PySem PySem.Spec PyProof.Rows
structure ObjM (h : Heap) (x dx C : Addr) (mA : Str → Option Value) : Prop where
 obj : h.get? x = some (PySem.W.instObj C dx)
 ns : h.Ns1 dx mA
 ne : dx ≠ x
theorem ZaV {h : Heap} {dx : Addr} {mA : Str → Option Value} (n : h.Ns1 dx mA) : ∃ od, h.get? dx = some od ∧ ∀ name, PySem.W.lookIn name od = some (mA name) := by
 obtain ⟨o, es, ep, ho, hd, hk, _, hm⟩ := n
 refine ⟨o, ho, fun name => ?_⟩
 have e := hm name
 unfold nsFind findBy at e
 rw [← Array.find?_toList] at e
 unfold PySem.W.lookIn
 rw [hd]
 dsimp only
 split
 ·rename_i y q
  rw [q] at e
  exact congrArg some e
 ·rename_i q
  rw [q] at e
  have a : es.toList.any (·.refKey) = false := by
   rw [List.any_eq_false]
   intro y hy
   obtain ⟨z, t, hkey⟩ := hk y (Array.mem_toList_iff.mp hy)
   simp [DictEntry.refKey, hkey]
  have a' : ¬ es.toList.any (·.refKey) = true := by rw [a]; exact Bool.false_ne_true
  rw [if_neg a']
  exact congrArg some e
theorem ObjM.look {h : Heap} {x dx C : Addr} {mA : Str → Option Value} (I : ObjM h x dx C mA) : ∃ od, PySem.W.InstAt h x (PySem.W.instObj C dx) C (some od) ∧ ∀ name, PySem.W.lookIn name od = some (mA name) :=
 let ⟨od, ho, hl⟩ := ZaV I.ns
 ⟨od, ⟨I.obj, rfl, rfl, ho⟩, hl⟩
section
variable {P : Program} {w : World} {H H' : Hp} {h h' : Heap} {a C dx : Addr} {fs fs' : List (Str × V)}
theorem Zcy (hok : HOk P w H h) (e : H a = some (.ins C dx fs)) : ∃ mA, ObjM h a dx C mA ∧ (∀ f, RelO (fs.lookup f) (mA f)) ∧ PySem.Within mA (fs.map (·.1)) ∧ fs.length ≤ 1000 ∧ H dx = some (.own a) := by
 obtain ⟨d, z, ne, ob, mA, n, r, q⟩ := (show ObjOk P w H h a (.ins C dx fs) from hok a _ e)
 exact ⟨mA, ⟨ob, n, ne⟩, r, q, z, d⟩
end
structure Cls (K : PySem.W.Frag) (C : Addr) : Prop where
 pg : PySem.W.plainGet K C Str.empty = true
 hd : PySem.W.hasDictIn K C = true
 po : PySem.W.plainOver K C = true
 sa : PySem.W.findIn K (.ref C) "__setattr__" = some (some (.builtin "object.__setattr__"))
theorem Cls.get {K : PySem.W.Frag} {C : Addr} (c : Cls K C) (f : Str) : PySem.W.plainGet K C f = true := c.pg
structure Con (K : PySem.W.Frag) (C : Addr) (f : Str) (v : V) (u : Value) : Prop where
 at_ : PySem.W.findIn K (.ref C) f = some (some u)
 rel : RelV v u
 get : PySem.W.specialIn K u "__get__" = some none
 cp : PySem.W.copiedNames.contains f = false
structure Meth (K : PySem.W.Frag) (C : Addr) (m : Str) (f : Addr) : Prop where
 at_ : PySem.W.findIn K (.ref C) m = some (some (.ref f))
 fn : PySem.W.isFn K (.ref f) = true
 kp : PySem.W.keepIn K (.ref f) = true
section
variable {X : Cx} {pins : List (Addr × Obj)} {σ : St} {H : Hp} {s : Shared} {A : Around} {E : Value → Shared → Prop} {Q : Value → Shared → Prop} {c : Value} {b : Bool}
inductive TyOf (K : PySem.W.Frag) (H : Hp) : V → Value → Prop where
 | non : TyOf K H .non (.type "NoneType")
 | bl (x : Bool) : TyOf K H (.bl x) (.type "bool")
 | int (i : Int) : TyOf K H (.int i) (.type "int")
 | str (x : Str) : TyOf K H (.str x) (.type "str")
 | flt (x : UInt64) : TyOf K H (.flt x) (.type "float")
 | lst {a : Addr} {xs : List V} (e : H a = some (.lst xs)) : TyOf K H (.ref a) (.type "list")
 | frz {a : Addr} {o : Obj} {xs : List V} (e : H a = some (.frz o (.lst xs))) : TyOf K H (.ref a) (.type "list")
 | tup {a : Addr} {xs : List V} (e : H a = some (.tup xs)) : TyOf K H (.ref a) (.type "tuple")
 | dK {a : Addr} {kvs : List (Key × V)} (e : H a = some (.dK kvs)) : TyOf K H (.ref a) (.type "dict")
 | dT {a : Addr} {kvs : List (List Key × V)} (e : H a = some (.dT kvs)) : TyOf K H (.ref a) (.type "dict")
 | ins {a C dx : Addr} {fs : List (Str × V)} (e : H a = some (.ins C dx fs)) (cl : Cls K C) (ha : PySem.W.findIn K (.ref C) "__class__" = some (some (.builtin "object.__class__")))
   (hn : PySem.W.specialIn K (.builtin "object.__class__") "__get__" = some (some (.builtin "getset_descriptor.__get__"))) (htk : PySem.W.takesIn K (.builtin "object.__class__") = some true)
   (hm : PySem.W.mroIn K C (.type "object") = some true) : TyOf K H (.ref a) (.ref C)
theorem Za3 {x : V} {u t : Value} (I : Inv X pins σ H s) (rx : RelV x u) (ty : TyOf X.K H x t) (e : PySem.W.kitOne X.K t c = some b) (h : ∀ tk, Q (.bool b) { s with toks := tk }) :
  wpAny (model X.prog X.w) A (call (.builtin "isinstance") [u, c]) Q E s := by
 cases ty with
 | non => cases (show u = Value.none from rx); exact PySem.W.kia_one PySem.W.kitx_none I.kIn True.intro e (fun z => nomatch z) h
 | bl y => cases (show u = Value.bool y from rx); exact PySem.W.kia_one PySem.W.kitx_bool I.kIn True.intro e (fun z => nomatch z) h
 | int i => obtain ⟨t, q⟩ := (show ∃ t, u = Value.int i t from rx); cases q; exact PySem.W.kia_one PySem.W.kitx_int I.kIn True.intro e (fun z => nomatch z) h
 | str y => obtain ⟨t, q⟩ := (show ∃ t, u = Value.str y t from rx); cases q; exact PySem.W.kia_one PySem.W.kitx_str I.kIn True.intro e (fun z => nomatch z) h
 | flt y => obtain ⟨t, q⟩ := (show ∃ t, u = Value.float y t from rx); cases q; exact PySem.W.kia_one PySem.W.kitx_float I.kIn True.intro e (fun z => nomatch z) h
 | @lst a xs ea =>
  cases (show u = Value.ref a from rx)
  obtain ⟨_, _, n, _, h1⟩ := (show ObjOk X.prog X.w H s.heap a (.lst xs) from I.hok a _ ea)
  exact PySem.W.kia_one PySem.W.kitx_list I.kIn ⟨_, h1, rfl⟩ e (fun z => nomatch z) h
 | @frz a ob xs ea =>
  cases (show u = Value.ref a from rx)
  obtain ⟨_, _, _, n, _, h1⟩ := (show ObjOk X.prog X.w H s.heap a (.frz ob (.lst xs)) from I.hok a _ ea)
  exact PySem.W.kia_one PySem.W.kitx_list I.kIn ⟨_, h1, rfl⟩ e (fun z => nomatch z) h
 | @tup a xs ea =>
  cases (show u = Value.ref a from rx)
  obtain ⟨_, _, _, p, _⟩ := (show ObjOk X.prog X.w H s.heap a (.tup xs) from I.hok a _ ea)
  obtain ⟨o, h1, h2, _⟩ := p
  exact PySem.W.kia_one PySem.W.kitx_tuple I.kIn ⟨o, h1, h2⟩ e (fun z => nomatch z) h
 | @dK a kvs ea =>
  cases (show u = Value.ref a from rx)
  obtain ⟨_, _, vs, _, p⟩ := (show ObjOk X.prog X.w H s.heap a (.dK kvs) from I.hok a _ ea)
  obtain ⟨o, es, ep, h1, h2, _⟩ := p
  exact PySem.W.kia_one PySem.W.kitx_dict I.kIn ⟨o, h1, h2.1⟩ e (fun z => nomatch z) h
 | @dT a kvs ea =>
  cases (show u = Value.ref a from rx)
  obtain ⟨_, _, xs, _, o, es, ep, h1, h2, _⟩ := (show ObjOk X.prog X.w H s.heap a (.dT kvs) from I.hok a _ ea)
  exact PySem.W.kia_one PySem.W.kitx_dict I.kIn ⟨o, h1, h2.1⟩ e (fun z => nomatch z) h
 | @ins a C dx fs ea cl ha hn htk hm =>
  cases (show u = Value.ref a from rx)
  obtain ⟨mA, O, _⟩ := Zcy I.hok ea
  obtain ⟨od, J, _⟩ := O.look
  exact PySem.W.kia_one (PySem.W.kitx_own (cl.get _) cl.hd ha hn htk hm) I.kIn J e (fun z => nomatch z) h
end
end L2
namespace L2
open PySem PySem.Spec PyProof.Rows
structure Room (k : Nat) (A : Around) : Prop where
 hd : A.handled = none
 dp : A.depth + 3 * k + 5 < recursionLimit
 un : A.units + 16 * k + 200 < cLine
 gd : A.guards = some []
theorem Room.mono {j k : Nat} {A : Around} (r : Room k A) (h : j ≤ k) : Room j A := ⟨r.hd, by have := r.dp; omega, by have := r.un; omega, r.gd⟩
theorem Room.deeper {k : Nat} {A : Around} (r : Room (k + 1) A) (env : Env) : Room k (A.deeper env) :=
 ⟨r.hd, by have := r.dp; show A.depth + 1 + 3 * k + 5 < _; omega, by have := r.un; show A.units + 3 + 16 * k + 200 < _; omega, r.gd⟩
theorem Room.in1 {k : Nat} {A : Around} (r : Room (k + 1) A) : Room k A.in1 :=
 ⟨r.hd, by have := r.dp; show A.depth + 3 * k + 5 < _; omega, by have := r.un; show A.units + 1 + 16 * k + 200 < _; omega, r.gd⟩
theorem Room.depth {k : Nat} {A : Around} (r : Room k A) : A.depth < recursionLimit := by have := r.dp; omega
theorem Room.units {k : Nat} {A : Around} (r : Room k A) : A.units + 64 < cLine := by have := r.un; omega
theorem Room.units0 {k : Nat} {A : Around} (r : Room k A) : A.units < cLine := by have := r.un; omega
def tNil : TA := fun _ H Q => Q [] H
def tCons (ta : TE) (tr : TA) : TA := fun σ H Q => ta σ H fun x H1 => tr σ H1 fun xs H2 => Q (x :: xs) H2
section
variable {X : Cx} {e : Expr} {es : List Expr} {te : TE} {t : TA} {pos : Pos}
theorem Zb : PA X [] tNil := fun _ _ _ _ H Q I h => Calls.spliced_nil ⟨[], H, I, .nil, h⟩
theorem Za (ha : PE X e te) (hr : PA X es t) (hs : starEach (e :: es) X.env = (false, eval e X.env) :: starEach es X.env := by rfl) : PA X (e :: es) (tCons te t) := by
 intro pos pins s σ H Q I h
 rw [hs]
 show wpAny _ _ (spliced ((false, eval e X.env) :: backTo pos (starEach es X.env))) _ _ s
 refine Calls.spliced_cons (thn (ha pins s σ H _ I h) fun u s1 ⟨x, H1, I1, r1, q1⟩ => ?_)
 exact thn (hr pos pins s1 σ H1 _ I1 q1) fun us s2 ⟨xs, H2, I2, r2, q2⟩ => ⟨x :: xs, H2, I2, .cons r1 r2, q2⟩
def tTup (t : TA) : TE := fun σ H Q => t σ H fun xs H1 => xs.length ≤ sizeLine ∧ ∀ p, H1 p = none → Q (.ref p) (upd H1 p (.tup xs))
def tLst (t : TA) : TE := fun σ H Q => t σ H fun xs H1 => xs.length ≤ sizeLine ∧ ∀ p, H1 p = none → Q (.ref p) (upd H1 p (.lst xs))
theorem Zs {x1} (h : PA X es t) : PE X (.Tuple es x1 pos) (tTup t) := by
 intro pins s σ H Q I hq
 refine wpAny_Tuple_spliced (thn (h pos pins s σ H _ I hq) fun us s1 ⟨xs, H1, I1, r, z, q⟩ => ⟨by rw [← r.length]; exact z, ?_⟩)
 have hf : H1 s1.heap.objs.size = none := I1.hok.fresh (Nat.le_refl _)
 refine ⟨.ref s1.heap.objs.size, upd H1 s1.heap.objs.size (.tup xs), I1.laid (t' := s1.toks) (fun b u e => Heap.get?_push_of_some _ e) (Nat.le_refl _) ?_, rfl, q _ hf⟩
 exact ⟨z, us, r, ⟨_, Heap.get?_push_size _ rfl, rfl, _, rfl⟩, _, Heap.get?_push_size _ rfl, rfl⟩
theorem ZG (h : PA X es t) : PE X (.List es pos) (tLst t) := by
 intro pins s σ H Q I hq
 refine wpAny_List_spliced (thn (h pos pins s σ H _ I hq) fun us s1 ⟨xs, H1, I1, r, z, q⟩ => ⟨by rw [← r.length]; exact z, ?_⟩)
 have hf : H1 s1.heap.objs.size = none := I1.hok.fresh (Nat.le_refl _)
 refine ⟨.ref s1.heap.objs.size, upd H1 s1.heap.objs.size (.lst xs), I1.laid (t' := s1.toks) (fun b u e => Heap.get?_push_of_some _ e) (Nat.le_refl _) ?_, rfl, q _ hf⟩
 exact ⟨z, us, 0, r, Heap.get?_push_size _ rfl⟩
end
abbrev Sp := List V → Hp → VK → XK → Prop
abbrev CXT := List Env → Hp → Shared → XK → Value → Shared → Prop
structure Env0 (P : Program) (w : World) (K : PySem.W.Frag) (mg : Str → Option Value) (base : Heap) (A : Around) (outer : List Env) (s : Shared) (H : Hp) : Prop where
 frames : A.frames = some outer
 mod : Mod K mg base
 bs : ∀ b o, base.get? b = some o → s.heap.get? b = some o ∧ H b = none
 bsz : base.objs.size ≤ s.heap.objs.size
 funs : s.heap.FunFrames base outer
 frf : ∀ b ∈ frs outer, H b = none
 hok : HOk P w H s.heap
 bare : AllBare s.gens
def CE (outer : List Env) (P : Program) (w : World) (H : Hp) (s : Shared) (Q : VK) (u : Value) (s' : Shared) : Prop :=
 ∃ v H', s'.os = s.os ∧ AllBare s'.gens ∧ Un (frs outer) [] H H' s.heap s'.heap ∧ HOk P w H' s'.heap ∧ RelV v u ∧ Q v H'
def CR (CX : CXT) (outer : List Env) (P : Program) (w : World) (H : Hp) (s : Shared) (Q : VK) (E : XK) (r : Result) (s' : Shared) : Prop :=
 match r with
 | .ok (.ret u) => CE outer P w H s Q u s'
 | .ok _ => False
 | .error e => CX outer H s E e s'
structure FnOk (P : Program) (w : World) (K : PySem.W.Frag) (mg : Str → Option Value) (base : Heap) (CX : CXT) (k : Nat) (f : Addr) (fd : FuncData) (ps : List Str) (sp : Sp) : Prop where
 len : ∀ vs H Q E, sp vs H Q E → vs.length = ps.length
 run : ∀ (A : Around) (outer : List Env) (s : Shared) (H : Hp) (args : Args) (us : List Value) (vs : List V) (Q : VK) (E : XK), Room k A → Env0 P w K mg base A outer s H → BindsTo s fd args (ps.zip us) → Vals vs us → sp vs H Q E →
  codeAny (model P w) A (.call (.ref f) args) (CR CX outer P w H s Q E) s
section
variable {X : Cx} {pins : List (Addr × Obj)} {σ : St} {H : Hp} {s s' : Shared}
theorem Inv.env0 (I : Inv X pins σ H s) : Env0 X.prog X.w X.K X.mg X.base X.A X.stack s H :=
 ⟨I.ok.frames, I.ok.mod, I.bs, Nat.le_trans I.ok.bsz I.sz, I.stack, I.stkFree, I.hok, I.bare⟩
theorem Inv.after {Q : VK} {u : Value} (I : Inv X pins σ H s) (h : CE X.stack X.prog X.w H s Q u s') : EP X pins σ Q u s' := by
 obtain ⟨v, H', os, bare, un, hok, r, q⟩ := h
 obtain ⟨hh, g, d, t, os'⟩ := s'
 obtain rfl : os' = s.os := os
 exact ⟨v, H', I.call (h' := hh) (g' := g) (d' := d) (t' := t) (ch := []) un hok bare (fun b z => absurd z (by simp)), r, q⟩
end
def tCall (sp : Sp) (dvs : List V) (E : XK) (t : TA) : TE := fun σ H Q => t σ H fun vs H1 => sp (vs ++ dvs) H1 Q E
def Binds (K : PySem.W.Frag) (fd : FuncData) (ps : List Str) (ds : List Value) : Prop :=
 ∀ (s : Shared) (us : List Value), K.In s.heap → (us ++ ds).length = ps.length → BindsTo s fd ⟨us, []⟩ (ps.zip (us ++ ds))
theorem Binds.all {K : PySem.W.Frag} {fd : FuncData} {ps : List Str} (h : ∀ us : List Value, us.length = ps.length → bindArgs fd ⟨us, []⟩ = pure (ps.zip us)) : Binds K fd ps [] := fun s us _ hl => by
 rw [List.append_nil] at hl ⊢
 exact .of_eq (h us hl)
def Passes (CX : CXT) (X : Cx) (E : XK) : Prop := ∀ (pins : List (Addr × Obj)) (σ : St) (H : Hp) (s : Shared) (e : Value) (s' : Shared), Inv X pins σ H s → CX X.stack H s E e s' → X.xe e s'
section
variable {X : Cx} {CX : CXT} {k : Nat} {f C : Addr} {fd : FuncData} {ps : List Str} {sp : Sp} {dvs : List V} {ds : List Value} {E : XK} {x m : Str} {p pos apos : Pos} {e o : Expr} {es : List Expr} {ta : TE} {t : TA}
theorem WM {pins : List (Addr × Obj)} {σ : St} {H : Hp} {s : Shared} {Q : VK} {us : List Value} {vs : List V} (F : FnOk X.prog X.w X.K X.mg X.base CX k f fd ps sp) (hr : Room k X.A) (hb : Binds X.K fd ps ds) (hd : Vals dvs ds) (hx : Passes CX X E)
  (I : Inv X pins σ H s) (r : Vals vs us) (h : sp (vs ++ dvs) H Q E) : wpAny (model X.prog X.w) X.A (call (.ref f) us) (EP X pins σ Q) X.xe s := by
 have r2 : Vals (vs ++ dvs) (us ++ ds) := r.append hd
 have hl : (us ++ ds).length = ps.length := by rw [← r2.length]; exact F.len _ _ _ _ h
 refine wpAny_call (codeAny_mono (F.run X.A X.stack s H ⟨us, []⟩ (us ++ ds) (vs ++ dvs) Q E hr I.env0 (hb s us I.kIn hl) r2 h) fun r s' hq => ?_)
 cases r with
 | error e => exact hx pins σ H s e s' I hq
 | ok fl =>
  cases fl with
  | ret u => exact I.after hq
  | next => exact False.elim hq
  | brk => exact False.elim hq
  | cont => exact False.elim hq
theorem WU (F : FnOk X.prog X.w X.K X.mg X.base CX k f fd ps sp) (hr : Room k X.A) (hg : Gl X x) (hm : X.mg x = some (.ref f)) (hk : PySem.W.keepIn X.K (.ref f) = true) (hb : Binds X.K fd ps ds) (hd : Vals dvs ds) (hx : Passes CX X E)
  (ha : PA X (e :: es) t) (hdb : (x == ("__debug__" : Str)) = false := by decide) (he : starEach (e :: es) X.env = (false, eval e X.env) :: starEach es X.env := by rfl) (hpl : (backTo pos (starEach es X.env)).any (·.1) = false := by rfl) :
  PE X (.Call (.Name x p) (e :: es) [] pos) (tCall sp dvs E t) := by
 intro pins s σ H Q I h
 refine wpAny_Call_Name_kw (YY I hg hm ?_ hdb)
 refine PySem.W.callWith_K (h₀ := X.base) I.ok.mod.kin hk (thn (ha pos pins s σ H _ I h) fun us s1 ⟨vs, H1, I1, r, q⟩ => ⟨I1.kIn, ?_⟩) he hpl
 exact WM F hr hb hd hx I1 r q
theorem Zbw (F : FnOk X.prog X.w X.K X.mg X.base CX k f fd ps sp) (hr : Room k X.A) (hg : Gl X x) (hm : X.mg x = some (.ref f)) (hk : PySem.W.keepIn X.K (.ref f) = true) (hb : Binds X.K fd ps ds) (hd : Vals dvs ds) (hx : Passes CX X E)
  (hdb : (x == ("__debug__" : Str)) = false := by decide) : PE X (.Call (.Name x p) [] [] pos) (tCall sp dvs E tNil) := by
 intro pins s σ H Q I h
 refine wpAny_Call_Name_kw (YY I hg hm ?_ hdb)
 exact PySem.W.callWith_K0 I.kIn hk (WM (us := []) F hr hb hd hx I .nil h)
structure Mk (K : PySem.W.Frag) (C f : Addr) : Prop where
 makes : PySem.W.makesIn K C = true
 init : PySem.W.findIn K (.ref C) "__init__" = some (some (.ref f))
 fn : PySem.W.isFn K (.ref f) = true
 kp : PySem.W.keepIn K (.ref C) = true
end
def PK (X : Cx) (kws : List Keyword) (t : TA) : Prop :=
 ∀ (pos : Pos) (pins : List (Addr × Obj)) (s : Shared) (σ : St) (H : Hp) (Q : List V → Hp → Prop), Inv X pins σ H s → t σ H Q → wpAny (model X.prog X.w) X.A (evalAll ((backToKw pos (keywordEach kws X.env)).map (·.2))) (AP X pins σ Q) X.xe s
section
variable {X : Cx} {CX : CXT} {k : Nat} {f C : Addr} {fd : FuncData} {ps ks : List Str} {sp : Sp} {E : XK} {x m : Str} {p pos apos kpos : Pos} {e o : Expr} {es : List Expr} {kws : List Keyword} {te ta : TE} {t tk : TA} {nm : Option Str}
theorem ZcW : PK X [] tNil := fun _ _ _ _ H Q I h => wpAny_evalAll_nil ⟨[], H, I, .nil, h⟩
theorem Zci (ha : PE X e te) (hr : PK X kws t) : PK X (⟨nm, e, kpos⟩ :: kws) (tCons te t) := by
 intro pos pins s σ H Q I h
 show wpAny _ _ (evalAll ((do let v ← eval e X.env; standAt pos; pure v) :: (backToKw pos (keywordEach kws X.env)).map (·.2))) _ _ s
 refine wpAny_evalAll_cons (wpAny_bind (thn (ha pins s σ H _ I h) fun u s1 ⟨x, H1, I1, r1, q1⟩ => wpAny_bind (wpAny_standAt (wpAny_pure ?_))))
 exact thn (hr pos pins s1 σ H1 _ I1 q1) fun us s2 ⟨xs, H2, I2, r2, q2⟩ => ⟨x :: xs, H2, I2, .cons r1 r2, q2⟩
structure KBinds (K : PySem.W.Frag) (fd : FuncData) (ps ks : List Str) (g : List Value → List Value → List Value) (gV : List V → List V → List V) : Prop where
 to : ∀ (s : Shared) (us ws : List Value), K.In s.heap → (g us ws).length = ps.length → BindsTo s fd ⟨us, ks.zip ws⟩ (ps.zip (g us ws))
 rel : ∀ {vs : List V} {us : List Value} {zs : List V} {ws : List Value}, Vals vs us → Vals zs ws → Vals (gV vs zs) (g us ws)
variable {g : List Value → List Value → List Value} {gV : List V → List V → List V}
end
structure FnScope (N P : List Str) (sc : Scope) : Prop where
 kind : sc.kind = .function
 co : sc.isCoroutine = false
 gen : sc.isGenerator = false
 nd : N.Nodup
 pre : N.take P.length = P
 par : ∀ x ∈ P, sc.names.lookup x = some .local ∨ sc.names.lookup x = some .cell
 nofree : ∀ y ∈ sc.names, y.2 ≠ .free
theorem WF {kindOf : Str → Option NameKind} {x : Str} : ∀ {binds : List (Str × Value)} {m : Str → Option Value}, (∀ v, (x, v) ∉ binds) → bindL kindOf binds m x = m x
 | [], _, _ => rfl
 | (n, v) :: r, m, h => by
  unfold bindL
  rw [WF fun w hw => h w (List.mem_cons_of_mem _ hw)]
  split
  ·have : x ≠ n := by rintro rfl; exact h v List.mem_cons_self
   simp [this]
  ·rfl
theorem WH {kindOf : Str → Option NameKind} {x : Str} : ∀ {binds : List (Str × Value)} {m : Str → Option Value}, (∀ v, (x, v) ∉ binds) → bindC kindOf binds m x = m x
 | [], _, _ => rfl
 | (n, v) :: r, m, h => by
  unfold bindC
  rw [WH fun w hw => h w (List.mem_cons_of_mem _ hw)]
  split
  ·rfl
  ·have : x ≠ n := by rintro rfl; exact h v List.mem_cons_self
   simp [this]
theorem WG {kindOf : Str → Option NameKind} {x : Str} {v : Value} : ∀ {P : List Str} {vs : List Value} {i : Nat} {m : Str → Option Value}, P.Nodup → P[i]? = some x → vs[i]? = some v → kindOf x = some .local →
  bindL kindOf (P.zip vs) m x = some v
 | [], _, _, _, _, h, _, _ => by simp at h
 | _ :: _, [], _, _, _, _, h, _ => by simp at h
 | p :: P, w :: vs, 0, m, nd, h1, h2, hk => by
  simp at h1 h2; subst h1; subst h2
  show bindL kindOf ((p, w) :: P.zip vs) m p = _
  unfold bindL
  rw [WF fun v hv => (List.nodup_cons.mp nd).1 (List.of_mem_zip hv).1, if_pos hk]
  simp
 | p :: P, w :: vs, i + 1, m, nd, h1, h2, hk => by
  show bindL kindOf ((p, w) :: P.zip vs) m x = _
  unfold bindL
  exact WG (i := i) (List.nodup_cons.mp nd).2 (by simpa using h1) (by simpa using h2) hk
theorem WI {kindOf : Str → Option NameKind} {x : Str} {v : Value} : ∀ {P : List Str} {vs : List Value} {i : Nat} {m : Str → Option Value}, P.Nodup → P[i]? = some x → vs[i]? = some v → kindOf x ≠ some .local →
  bindC kindOf (P.zip vs) m x = some v
 | [], _, _, _, _, h, _, _ => by simp at h
 | _ :: _, [], _, _, _, _, h, _ => by simp at h
 | p :: P, w :: vs, 0, m, nd, h1, h2, hk => by
  simp at h1 h2; subst h1; subst h2
  show bindC kindOf ((p, w) :: P.zip vs) m p = _
  unfold bindC
  rw [WH fun v hv => (List.nodup_cons.mp nd).1 (List.of_mem_zip hv).1, if_neg hk]
  simp
 | p :: P, w :: vs, i + 1, m, nd, h1, h2, hk => by
  show bindC kindOf ((p, w) :: P.zip vs) m x = _
  unfold bindC
  exact WI (i := i) (List.nodup_cons.mp nd).2 (by simpa using h1) (by simpa using h2) hk
def start (N : List Str) (vs : List V) : St := vs.map some ++ List.replicate (N.length - vs.length) none
def cxOf (CX : CXT) (P : Program) (w : World) (K : PySem.W.Frag) (mg : Str → Option Value) (base : Heap) (N : List Str) (qual : Str) (scope : Scope) (f : Addr) (cd : Value) (A : Around) (outer : List Env) (s : Shared) (H : Hp) (E : XK) : Cx where
 prog := P
 w := w
 K := K
 mg := mg
 base := base
 A := A.deeper (envOfC qual scope s.heap.objs.size f cd)
 N := N
 s₀ := s
 H₀ := H
 env := envOfC qual scope s.heap.objs.size f cd
 outer := outer
 stack := envOfC qual scope s.heap.objs.size f cd :: outer
 ex := []
 calm := true
 fn := fun _ => true
 pn := []
 xe := fun e s' => wpAny (model P w) (A.deeper (envOfC qual scope s.heap.objs.size f cd)) (leaving (envOfC qual scope s.heap.objs.size f cd) e) (fun _ s'' => CX outer H s E e s'') (fun e' s'' => CX outer H s E e' s'') s'
theorem UA {sc : Scope} {n : Nat} {x : Str} (h : sc.names.lookup x = some .cell) : ∃ c, (cellsFrom n sc.names []).lookup x = some c := by
 have q := PySem.W.cellsFrom_some sc.names n [] (.inl h)
 exact Option.isSome_iff_exists.mp q
theorem Za4 {CX : CXT} {P : Program} {w : World} {K : PySem.W.Frag} {mg : Str → Option Value} {base : Heap} {N ps : List Str} {qual : Str} {scope : Scope} {f : Addr} {cd : Value} {A : Around} {outer : List Env} {s s1 : Shared} {H : Hp} {E : XK} {us : List Value} {vs : List V}
  (S : FnScope N ps scope) (hd : A.handled = none) (e0 : Env0 P w K mg base A outer s H) (hl : vs.length = ps.length) (r : Vals vs us)
  (x : InCallC s s.heap.objs.size (bindL (envOfC qual scope s.heap.objs.size f cd).kindOf (ps.zip us) fun _ => none) (cellsFrom (s.heap.objs.size + 1) scope.names []) (bindC (envOfC qual scope s.heap.objs.size f cd).kindOf (ps.zip us) fun _ => none) s1) :
  Inv (cxOf CX P w K mg base N qual scope f cd A outer s H E) [] (start N vs) H s1 := by
 have hpl : ps.length ≤ N.length := by have := congrArg List.length S.pre; rw [List.length_take] at this; omega
 obtain ⟨h1, tk, rfl, hk⟩ := x.done
 have noA : ∀ b : Addr, b ∉ (cxOf CX P w K mg base N qual scope f cd A outer s H E).ex := fun b z => absurd (show b ∈ ([] : List Addr) from z) (by simp)
 refine ⟨⟨e0.mod, S.kind, rfl, rfl, Nat.le_refl _, fun y z c h1 h2 => ?_, fun y hy => ?_, fun y c _ h => ?_, fun _ => hd, Around.frames_deeper e0.frames, .inr ⟨rfl, rfl⟩, fun b z => absurd z (noA b), e0.bs, e0.bsz, fun b _ _ => noA b, fun b z => absurd z (noA b), e0.funs, e0.frf⟩,
  rfl, e0.bare, Un.kept hk, ⟨_, x.toInCall.ns, fun i y v h1 h2 h3 => ?_⟩, fun y c h => ⟨_, x.cell y c h⟩, e0.hok.fresh (Nat.le_refl _), fun y c h => ?_, fun p hp => absurd (show p ∈ ([] : List (Addr × Obj)) from hp) (by simp), e0.hok.kept hk, ?_⟩
 ·exact name_of_addr x.apart (PySem.mem_of_lookup h1) (PySem.mem_of_lookup h2)
 ·have hy : scope.names.lookup y = some .cell ∨ scope.names.lookup y = some .free := hy
  rcases hy with hy | hy
  ·exact UA hy
  ·exact absurd rfl (S.nofree _ (PySem.mem_of_lookup hy))
 ·exact Nat.le_of_lt (x.above y c (PySem.mem_of_lookup h))
 ·have hi : i < vs.length := by
   unfold start at h2
   by_cases hi : i < vs.length
   ·exact hi
   ·rw [List.getElem?_append_right (by simpa using hi)] at h2
    rw [List.getElem?_replicate] at h2
    split at h2 <;> cases h2
  have ha : vs[i]? = some v := by
   unfold start at h2
   rw [List.getElem?_append_left (by simpa using hi), List.getElem?_map] at h2
   cases e : vs[i]? with
   | none => rw [e] at h2; cases h2
   | some a => rw [e] at h2; cases h2; rfl
  obtain ⟨u, hu, rv⟩ := r.get ha
  have hp : ps[i]? = some y := by
   rw [← S.pre, List.getElem?_take_of_lt (by omega)]; exact h1
  have ndP : ps.Nodup := by rw [← S.pre]; exact S.nd.sublist (List.take_sublist _ _)
  refine ⟨u, rv, ?_⟩
  rcases S.par y (List.mem_of_getElem? hp) with k | k
  ·exact .inl ⟨k, WG ndP hp hu k⟩
  ·obtain ⟨c, e⟩ := UA (n := s.heap.objs.size + 1) k
   refine .inr ⟨.inl k, c, e, ?_⟩
   have q := x.cell y c e
   rw [WI ndP hp hu (by show scope.names.lookup y ≠ _; rw [k]; decide)] at q
   exact q
 ·exact e0.hok.fresh (Nat.le_of_lt (x.above y c (PySem.mem_of_lookup h)))
 ·unfold start
  show _ = N.length
  rw [List.length_append, List.length_map, List.length_replicate]
  omega
theorem Zb2 {CX : CXT} {P : Program} {w : World} {K : PySem.W.Frag} {mg : Str → Option Value} {base : Heap} {k : Nat} {f : Addr} {name qual : Str} {params : Arguments} {body : List Stmt} {scope : Scope} {dV kV doc pm cdv ct oc : Value} {an od : Option Addr}
    {osl : Array (Option Value)} {N ps : List Str} {sp : Sp} (lk : K.lookup f = some ⟨oc, od, .func (PySem.W.fnOf name qual params body scope dV kV doc pm an cdv ct), osl⟩) (hcd : PySem.W.codeIn K cdv qual = true) (S : FnScope N ps scope)
    (len : ∀ vs H Q E, sp vs H Q E → vs.length = ps.length)
    (hbody : ∀ (A : Around) (outer : List Env) (s : Shared) (H : Hp) (vs : List V) (Q : VK) (E : XK), Room k (A.deeper (envOfC qual scope s.heap.objs.size f cdv)) → sp vs H Q E →
      ∃ t, PSs (cxOf CX P w K mg base N qual scope f cdv A outer s H E) body t ∧ t { nx := fun _ H' => Q .non H', rt := Q } (start N vs) H) :
    FnOk P w K mg base CX (k + 1) f (PySem.W.fnOf name qual params body scope dV kV doc pm an cdv ct) ps sp := by
  refine ⟨len, fun A outer s H args us vs Q E hr e0 hb r hsp => ?_⟩
  have hl := len _ _ _ _ hsp
  have KX : K.In s.heap := e0.mod.kin.keeps fun b o e => (e0.bs b o e).1
  have lim : s.heap.NoLimit := e0.mod.nolimit.keeps fun b o e => (e0.bs b o e).1
  have hkind : ∀ y ∈ ps.zip us, scope.names.lookup y.1 = some .local ∨ (scope.names.lookup y.1 = some .cell ∧ ((cellsFrom (s.heap.objs.size + 1) scope.names []).lookup y.1).isSome = true) := fun ⟨n, v⟩ hy => by
    rcases S.par n (List.of_mem_zip hy).1 with q | q
    · exact .inl q
    · exact .inr ⟨q, PySem.W.cellsFrom_some _ _ _ (.inl q)⟩
  refine codeAny_call_function hr.depth (KX _ _ lk) rfl S.co S.gen rfl (PySem.W.codeRec_of KX hcd) (hb _ _ _ _ ?_)
  refine wpAny_newFunctionEnv_cells S.kind hkind fun env he s1 x => ?_
  subst he
  refine ⟨lim.keeps x.toInCall.keep, codeAny_func ?_⟩
  obtain ⟨t, ht, hq⟩ := hbody A outer s H vs Q E (hr.deeper _) hsp
  have I : Inv (cxOf CX P w K mg base N qual scope f cdv A outer s H E) [] (start N vs) H s1 := Za4 S hr.hd e0 hl r x
  refine wpAny_mono (ht [] s1 (start N vs) H _ I hq) (fun fl s' hs => ?_) fun e s' hs => hs
  have fin : ∀ {σ' : St} {H' : Hp} {v : V} {u : Value}, Inv (cxOf CX P w K mg base N qual scope f cdv A outer s H E) [] σ' H' s' → RelV v u → Q v H' → CE outer P w H s Q u s' :=
    fun {σ' H' v u} J rv q => ⟨v, H', J.os, J.bare, J.base, J.hok, rv, q⟩
  cases fl with
  | ret u =>
    obtain ⟨v, σ', H', J, rv, q⟩ := hs
    exact fin J rv q
  | next =>
    obtain ⟨σ', H', J, q⟩ := hs
    exact fin (v := V.non) (u := Value.none) J rfl q
  | brk =>
    obtain ⟨_, _, _, q⟩ := hs
    exact False.elim q
  | cont =>
    obtain ⟨_, _, _, q⟩ := hs
    exact False.elim q
end L2
namespace L2
open PySem PySem.Spec PyProof.Rows
section
variable {X : Cx} {x : Str} {p pos : Pos} {e : Expr} {es : List Expr} {t : TA} {id T : String} {r : List V → Hp → VK → Prop}
def tCB (r : List V → Hp → VK → Prop) (t : TA) : TE := fun σ H Q => t σ H fun vs H1 => r vs H1 Q
theorem Zk (hc : CallR X (.builtin id) r) (hg : Gl X x) (hm : X.mg x = none) (hv : bootBuiltins x = some (.builtin id)) (ha : PA X (e :: es) t) (hn : x ≠ "__name__" := by decide) (hdb : (x == ("__debug__" : Str)) = false := by decide)
  (he : starEach (e :: es) X.env = (false, eval e X.env) :: starEach es X.env := by rfl) (hpl : (backTo pos (starEach es X.env)).any (·.1) = false := by rfl) : PE X (.Call (.Name x p) (e :: es) [] pos) (tCB r t) := by
 intro pins s σ H Q I h
 refine wpAny_Call_Name_kw (YE I hg hm hv ?_ hn hdb)
 exact PyProof.Rows.callWith_builtin1 (thn (ha pos pins s σ H _ I h) fun us s1 ⟨vs, H1, I1, r1, q1⟩ => hc pins s1 σ H1 vs us Q I1 r1 q1) he hpl
theorem ZL (hc : CallR X (.type T) r) (hg : Gl X x) (hm : X.mg x = none) (hv : bootBuiltins x = some (.type T)) (ha : PA X (e :: es) t) (hn : x ≠ "__name__" := by decide) (hdb : (x == ("__debug__" : Str)) = false := by decide)
  (he : starEach (e :: es) X.env = (false, eval e X.env) :: starEach es X.env := by rfl) (hpl : (backTo pos (starEach es X.env)).any (·.1) = false := by rfl) : PE X (.Call (.Name x p) (e :: es) [] pos) (tCB r t) := by
 intro pins s σ H Q I h
 refine wpAny_Call_Name_kw (YE I hg hm hv ?_ hn hdb)
 exact PyProof.Rows.callWith_type1 (thn (ha pos pins s σ H _ I h) fun us s1 ⟨vs, H1, I1, r1, q1⟩ => hc pins s1 σ H1 vs us Q I1 r1 q1) he hpl
end
end L2
namespace HT
open PySem PyProof.Rows
def lexLt : List Int → List Int → Bool
 | [], [] => false
 | [], _ :: _ => true
 | _ :: _, [] => false
 | x :: xs, y :: ys => if x = y then lexLt xs ys else decide (x < y)
theorem lexLt_cons (x y : Int) (xs ys : List Int) : lexLt (x :: xs) (y :: ys) = if x = y then lexLt xs ys else decide (x < y) := rfl
theorem rcLt_int (A : Around) (s : Shared) (a : Int) (t : Tok) (c : Int) (u : Tok) (prog : Program) (w : World) (E : Value → Shared → Prop) (Q : Value → Shared → Prop) (h : Q (.bool (decide (a < c))) s) :
  wpAny (model prog w) A (richCompare .Lt (.int a t) (.int c u)) Q E s :=
 (PyProof.Rows.lt_int h : wpAny (model prog w) A (compareOp .Lt (.int a t) (.int c u)) Q E s)
section
open PySem.SeqAt
open PySem.AutoSeq1 (wpAny_loadPart')
open PySem.MeetsSeq PySem.MeetsSeq2 PySem.MeetsSeq3
end
section
variable {prog : Program} {w : World} {A : Around} {E : Value → Shared → Prop} {s : Shared}
theorem cat_tup {t b : Addr} {vs ws : List Value} {Q : Value → Shared → Prop} (ht : IsTup s.heap t vs.toArray) (hb : IsTup s.heap b ws.toArray) (hv : vs ≠ [])
  (h1 : ws = [] → Q (.ref t) s) (h2 : ws ≠ [] → Q (.ref s.heap.objs.size) { s with heap := s.heap.push { cls := .type "tuple", data := .seq (vs ++ ws).toArray } })
  (hsz : vs.length + ws.length ≤ sizeLine) : wpAny (model prog w) A (binaryOp .Add (.ref t) (.ref b)) Q E s := by
 obtain ⟨⟨cls, dd, data, sl⟩, ho, hc, n, hd⟩ := id ht
 obtain ⟨⟨cls2, dd2, data2, sl2⟩, ho2, hc2, n2, hd2⟩ := id hb
 simp only at hc hd hc2 hd2
 subst hc hd hc2 hd2
 have e : vs.toArray ++ ws.toArray = (vs ++ ws).toArray := by simp
 by_cases hw : ws = []
 ·exact concat_meets ⟨_, ho, rfl⟩ ⟨_, ho2, rfl⟩ noFill_tuple_add seq_tuple_add PySem.F.slot_tuple_add PySem.F.entry_tuple_add (PySem.F.args_tuple_add_2 _ _)
   (tuple_addW1 t b vs.toArray ws.toArray n n2 dd dd2 sl sl2 (by simpa using hv) (by simp [hw])) ⟨ho, ho2, h1 hw⟩
 ·refine concat_meets ⟨_, ho, rfl⟩ ⟨_, ho2, rfl⟩ noFill_tuple_add seq_tuple_add PySem.F.slot_tuple_add PySem.F.entry_tuple_add (PySem.F.args_tuple_add_2 _ _)
   (tuple_addW2 t b vs.toArray ws.toArray n n2 dd dd2 sl sl2 (by simpa using hv) (by simpa using hw) (by rw [List.size_toArray, List.size_toArray]; exact hsz)) ⟨ho, ho2, ?_⟩
  rw [e]
  exact h2 hw
def sIx (n d : Nat) : Option Int → Nat
 | none => d
 | some v => if v < 0 then (v + (n : Int)).toNat else min v.toNat n
theorem sIx_none (n d : Nat) : sIx n d none = d := rfl
theorem sIx_nat (n d k : Nat) : sIx n d (some (k : Int)) = min k n := by
 show (if (k : Int) < 0 then ((k : Int) + (n : Int)).toNat else min (k : Int).toNat n) = min k n
 rw [if_neg (by omega), Int.toNat_natCast]
theorem ZcU (n d : Nat) (hd : d ≤ n) (o : Option Int) : sIx n d o ≤ n := by
 cases o with
 | none => exact hd
 | some v =>
  show (if v < 0 then (v + (n : Int)).toNat else min v.toNat n) ≤ n
  by_cases hv : v < 0
  ·rw [if_pos hv]; omega
  ·rw [if_neg hv]; exact Nat.min_le_right _ _
theorem Zav (v : Int) (n d : Nat) : (if v < 0 then max (v + (n : Int)) 0 else min v (n : Int)) = ((sIx n d (some v) : Nat) : Int) := by
 show (if v < 0 then max (v + (n : Int)) 0 else min v (n : Int)) = (((if v < 0 then (v + (n : Int)).toNat else min v.toNat n) : Nat) : Int)
 by_cases hv : v < 0
 ·simp only [if_pos hv]; omega
 ·simp only [if_neg hv]; omega
theorem U5 (lo hi : Option Int) (n : Nat) : Builtin.Slice.sliceAdjust lo hi 1 (n : Int) = (((sIx n 0 lo : Nat) : Int), ((sIx n n hi : Nat) : Int)) := by
 have h1 : ¬ ((1 : Int) < 0) := by omega
 unfold Builtin.Slice.sliceAdjust
 simp only [h1, if_false]
 refine Prod.ext ?_ ?_
 ·cases lo with
  | none => rfl
  | some v => exact Zav v n 0
 ·cases hi with
  | none => rfl
  | some v => exact Zav v n n
theorem UL (i j : Nat) : Builtin.Slice.slicePlaces (i : Int) (j : Int) 1 = j - i := by
 unfold Builtin.Slice.slicePlaces
 have h1 : (1 : Int) > 0 := by omega
 simp only [h1, if_true, Int.ediv_one]
 split <;> omega
theorem JN {v : Value} {o : Option Int} {Q : Option Int → Shared → Prop} (p : IsPart v o) (h : Q o s) : wpAny (model prog w) A (Builtin.Slice.slicePartIndex v) Q E s := by
 cases p with
 | none => exact slicePart_none h
 | int i t => exact slicePart_int h
theorem sliceApplied_gen {sl : Addr} {vl vu : Value} {lo hi : Option Int} {n : Nat} {Q : Int × Int × Nat → Shared → Prop} (hs : s.heap.IsSliceOf sl vl vu .none) (pl : IsPart vl lo) (pu : IsPart vu hi)
  (h : Q (((sIx n 0 lo : Nat) : Int), 1, sIx n n hi - sIx n 0 lo) s) : wpAny (model prog w) A (Builtin.Slice.sliceApplied (.ref sl) (pure (n : Int))) Q E s := by
 obtain ⟨os, hos, hcs, hds⟩ := id hs
 unfold Builtin.Slice.sliceApplied Builtin.Slice.sliceFields
 refine wpAny_bind (wpAny_bind (wpAny_field hos hds (x := vl) rfl (wpAny_bind (wpAny_field hos hds (x := vu) rfl (wpAny_bind (wpAny_field hos hds (x := .none) rfl (wpAny_pure ?_)))))))
 refine wpAny_bind (slicePart_none ?_)
 show wpAny _ _ (if ((1 : Int) == 0) = true then _ else _) _ _ s
 rw [if_neg (by decide)]
 refine wpAny_bind (JN pl (wpAny_bind (JN pu (wpAny_bind (wpAny_pure ?_)))))
 show wpAny _ _ (match Builtin.Slice.sliceAdjust lo hi 1 (n : Int) with | (lo, hi) => pure (lo, (1 : Int), Builtin.Slice.slicePlaces lo hi 1)) _ _ s
 rw [U5 lo hi n]
 show wpAny _ _ (pure (((sIx n 0 lo : Nat) : Int), (1 : Int), Builtin.Slice.slicePlaces ((sIx n 0 lo : Nat) : Int) ((sIx n n hi : Nat) : Int) 1)) _ _ s
 rw [UL]
 exact wpAny_pure h
theorem Zbr (xs : Array Value) (i k : Nat) : ((List.range k).filterMap fun (m : Nat) => xs[((i : Int) + (m : Int) * 1).toNat]?).toArray = ((xs.toList.drop i).take k).toArray := by
 have e : (fun (m : Nat) => xs[((i : Int) + (m : Int) * 1).toNat]?) = fun m => xs[i + m]? := by
  funext m
  have : ((i : Int) + (m : Int) * 1).toNat = i + m := by omega
  rw [this]
 rw [e]
 have := pick_run xs i k
 rw [List.filterMap_map] at this
 have e2 : ((fun x => xs[x]?) ∘ fun x => i + x) = fun m => xs[i + m]? := rfl
 rw [e2] at this
 rw [this]
theorem getItem_tuple_cut {t sl : Addr} {items : Array Value} {vl vu : Value} {lo hi : Option Int} {Q : Value → Shared → Prop} (ht : IsTup s.heap t items) (hs : s.heap.IsSliceOf sl vl vu .none) (pl : IsPart vl lo) (pu : IsPart vu hi)
  (hw : ¬ (sIx items.size 0 lo = 0 ∧ sIx items.size items.size hi = items.size))
  (h : Q (.ref s.heap.objs.size) { s with heap := s.heap.push { cls := .type "tuple", data := .seq ((items.toList.drop (sIx items.size 0 lo)).take (sIx items.size items.size hi - sIx items.size 0 lo)).toArray } })
  (hsz : items.size ≤ sizeLine) : wpAny (model prog w) A (getItem (.ref t) (.ref sl)) Q E s := by
 have htake : sizeOk (.seq ((items.toList.drop (sIx items.size 0 lo)).take (sIx items.size items.size hi - sIx items.size 0 lo)).toArray) := by
  show ((items.toList.drop (sIx items.size 0 lo)).take (sIx items.size items.size hi - sIx items.size 0 lo)).toArray.size ≤ sizeLine
  rw [List.size_toArray, List.length_take, List.length_drop, Array.length_toList]
  omega
 have hj : sIx items.size items.size hi ≤ items.size := ZcU _ _ (Nat.le_refl _) hi
 obtain ⟨os, hos, hcs, hds⟩ := id hs
 have hTs : s.TypeIs (.ref sl) "slice" := ⟨os, hos, hcs⟩
 unfold getItem
 try with_reducible refine wpAny_holding ?_
 first | refine wpAny_bind (wpAny_pure ?_) | skip
 refine wpAny_bind (wpAny_sequenceKey ht.typeIs (by decide) ?_)
 refine wpAny_bind (wpAny_callSpecial?_slot (name := Str.ofString "__getitem__") ht.typeIs PyProof.Rows.slot_tuple_getitem
  (wpAny_call_entry PyProof.Rows.slot_tuple_getitem ht.typeIs entry_tuple_getitem ?_ (args_tuple_getitem _ _)))
 show wpAny _ _ (Builtin.Tuple.tupleItemsOf (.ref t) >>= _) _ _ s
 refine wpAny_bind (tupleItemsOf_ ht ?_)
 refine wpAny_bind (wpAny_typeOf hTs ?_)
 rw [if_pos (by decide)]
 refine wpAny_bind (sliceApplied_gen hs pl pu ?_)
 have hno : ¬ ((((sIx items.size 0 lo : Nat) : Int) == 0 && (1 : Int) == 1 && (sIx items.size items.size hi - sIx items.size 0 lo) == items.size) = true) := by
  intro q
  rw [Bool.and_eq_true, Bool.and_eq_true] at q
  have q1 : ((sIx items.size 0 lo : Nat) : Int) = 0 := eq_of_beq q.1.1
  have q2 : sIx items.size items.size hi - sIx items.size 0 lo = items.size := eq_of_beq q.2
  exact hw ⟨by omega, by omega⟩
 show wpAny _ _ (if (((sIx items.size 0 lo : Nat) : Int) == 0 && (1 : Int) == 1 && (sIx items.size items.size hi - sIx items.size 0 lo) == items.size) = true then _ else _) _ _ s
 rw [if_neg hno, Zbr]
 first
  | exact wpAny_bind (m := Builtin.Tuple.tupleExact _) (wpAny_newObj_type (wpAny_pure ⟨_, rfl, wpAny_pure h⟩) htake)
  | exact wpAny_bind (m := Builtin.Tuple.tupleExact _) (wpAny_newObj_type (wpAny_bind (wpAny_pure (wpAny_pure ⟨_, rfl, wpAny_pure h⟩))) htake)
  | exact wpAny_bind (wpAny_bind (m := Builtin.Tuple.tupleExact _) (wpAny_newObj_type (wpAny_pure (wpAny_pure ⟨_, rfl, wpAny_pure h⟩)) htake))
  | exact wpAny_bind (wpAny_bind (m := Builtin.Tuple.tupleExact _) (wpAny_newObj_type (wpAny_pure ⟨_, rfl, wpAny_pure h⟩) htake))
end
end HT
namespace L2
open PySem PySem.Spec PyProof.Rows
abbrev TO := St → Hp → (Option Int → Hp → Prop) → Prop
def PO (X : Cx) (e : Option Expr) (t : TO) : Prop :=
 ∀ (pins : List (Addr × Obj)) (s : Shared) (σ : St) (H : Hp) (Q : Option Int → Hp → Prop), Inv X pins σ H s → t σ H Q →
  wpAny (model X.prog X.w) X.A (evalPart e X.env) (fun u s' => ∃ o H', Inv X pins σ H' s' ∧ IsPart u o ∧ Q o H') X.xe s
def tNoPart : TO := fun _ H Q => Q none H
def tPart (t : TE) : TO := fun σ H Q => t σ H fun x H1 => ∃ i, x = .int i ∧ Q (some i) H1
theorem ZS {ns : List Int} : ∀ {us : List Value}, Vals (ns.map V.int) us → IntsAre us ns := by
 induction ns with
 | nil => intro us r; rw [List.map_nil] at r; cases r; exact .nil
 | cons n ns ih =>
  intro us r
  rw [List.map_cons] at r
  cases r with
  | cons r1 r2 =>
   obtain ⟨t, e⟩ := r1
   subst e
   exact .cons n t (ih r2)
section
variable {X : Cx} {e : Expr} {te : TE} {lo hi : Option Expr} {tl th : TO} {pos p2 : Pos}
theorem WR : PO X none tNoPart := by
 intro pins s σ H Q I h
 rw [evalPart_none]
 exact wpAny_pure ⟨none, H, I, .none, h⟩
theorem WQ (h : PE X e te) : PO X (some e) (tPart te) := by
 intro pins s σ H Q I hw
 rw [evalPart_some]
 refine thn (h pins s σ H _ I hw) fun u s1 ⟨x, H1, I1, r1, q1⟩ => ?_
 obtain ⟨i, rfl, q⟩ := q1
 obtain ⟨t, rfl⟩ := r1
 exact ⟨some i, H1, I1, .int i t, q⟩
def SlR (X : Cx) (r : V → Option Int → Option Int → Hp → VK → Prop) : Prop :=
 ∀ (pins : List (Addr × Obj)) (s : Shared) (σ : St) (H : Hp) (x : V) (v vl vu : Value) (lo hi : Option Int) (sl : Addr) (Q : VK), Inv X pins σ H s → RelV x v → s.heap.IsSliceOf sl vl vu .none → IsPart vl lo → IsPart vu hi → r x lo hi H Q →
  ∃ T id, typeLookup (.type T) "__getitem__" = pure (some (.builtin id)) ∧ s.TypeIs v T ∧ wpAny (model X.prog X.w) X.A (getItem v (.ref sl)) (EP X pins σ Q) X.xe s
def tSl (r : V → Option Int → Option Int → Hp → VK → Prop) (te : TE) (tl th : TO) : TE := fun σ H Q => te σ H fun x H1 => tl σ H1 fun l H2 => th σ H2 fun u H3 => r x l u H3 Q
theorem JS {r : V → Option Int → Option Int → Hp → VK → Prop} (hr : SlR X r) (he : PE X e te) (hl : PO X lo tl) (hu : PO X hi th) : PE X (.Subscript e (.Slice lo hi none p2) pos) (tSl r te tl th) := by
 intro pins s σ H Q I h
 refine Subscript_ (thn (he pins s σ H _ I h) fun v s1 ⟨x, H1, I1, r1, q1⟩ => ?_)
 refine wpAny_Slice (thn (hl pins s1 σ H1 _ I1 q1) fun vl s2 ⟨l, H2, I2, pl, q2⟩ => thn (hu pins s2 σ H2 _ I2 q2) fun vu s3 ⟨u, H3, I3, pu, q3⟩ => ?_)
 rw [evalPart_none]
 refine wpAny_pure ?_
 have I4 : Inv X pins σ H3 { s3 with heap := s3.heap.push { cls := .type "slice", data := .fields #[vl, vu, .none] } } := I3.kept (t' := s3.toks) fun b ob q => Heap.get?_push_of_some _ q
 obtain ⟨T, id, hT, ht, hg⟩ := hr pins { s3 with heap := s3.heap.push { cls := .type "slice", data := .fields #[vl, vu, .none] } } σ H3 x v vl vu l u s3.heap.objs.size Q I4 r1 (Heap.IsSliceOf.new ..) pl pu q3
 show wpAny (model X.prog X.w) X.A (subscriptTail e (.Slice lo hi none p2) v (.ref s3.heap.objs.size)) (EP X pins σ Q) X.xe { s3 with heap := s3.heap.push { cls := .type "slice", data := .fields #[vl, vu, .none] } }
 exact tail_any (ops := [.ref s3.heap.objs.size, v]) ht hT hg (by with_unfolding_all rfl)
def cutV (xs : List V) (lo hi : Option Int) : List V := (xs.drop (HT.sIx xs.length 0 lo)).take (HT.sIx xs.length xs.length hi - HT.sIx xs.length 0 lo)
theorem YT (xs : List V) (lo hi : Option Int) : (cutV xs lo hi).length ≤ xs.length := by
 unfold cutV
 rw [List.length_take, List.length_drop]
 omega
def rSlT (K : PySem.W.Frag) : V → Option Int → Option Int → Hp → VK → Prop := fun x lo hi H Q => ∃ a xs, x = .ref a ∧ SqT K H a xs ∧
 ¬ (HT.sIx xs.length 0 lo = 0 ∧ HT.sIx xs.length xs.length hi = xs.length) ∧ ∀ p, H p = none → Q (.ref p) (upd H p (.tup (cutV xs lo hi)))
theorem ZcT : SlR X (rSlT X.K) := by
 intro pins s σ H x v vl vu lo hi sl Q I rx hs pl pu h
 obtain ⟨a, xs, rfl, hx, hw, q⟩ := h
 cases rx
 obtain ⟨its, r, ht, hz⟩ := I.tuple hx
 have hlen : its.toArray.size = xs.length := by rw [List.size_toArray]; exact r.length.symm
 refine ⟨"tuple", _, PyProof.Rows.slot_tuple_getitem.lookup, ht.typeIs, ?_⟩
 refine HT.getItem_tuple_cut ht hs pl pu (by rw [hlen]; exact hw) ?_ (by rw [hlen]; exact hz)
 rw [hlen]
 refine ⟨.ref s.heap.objs.size, _, I.laid (t' := s.toks) (o := .tup (cutV xs lo hi)) (fun b ob q => Heap.get?_push_of_some _ q) (Nat.le_refl _) ?_, rfl, q _ (I.hok.fresh (Nat.le_refl _))⟩
 exact ⟨Nat.le_trans (YT xs lo hi) hz, _, (r.drop (HT.sIx xs.length 0 lo)).take (HT.sIx xs.length xs.length hi - HT.sIx xs.length 0 lo), IsTup.new _ _, _, Heap.get?_push_size _ rfl, rfl⟩
def rCatT (K : PySem.W.Frag) : R2 := fun x y H Q => ∃ a b xs ys, x = .ref a ∧ y = .ref b ∧ SqT K H a xs ∧ SqT K H b ys ∧ xs ≠ [] ∧ xs.length + ys.length ≤ sizeLine ∧
 (ys = [] → Q (.ref a) H) ∧ (ys ≠ [] → ∀ p, H p = none → Q (.ref p) (upd H p (.tup (xs ++ ys))))
theorem Vals.nil_iff {xs : List V} {us : List Value} (r : Vals xs us) : us = [] ↔ xs = [] := by
 cases r with
 | nil => simp
 | cons _ _ => simp
theorem Zck : OpR X (binaryOp .Add) (rCatT X.K) := by
 intro pins s σ H x y v u Q I rx ry h
 obtain ⟨a, b, xs, ys, rfl, rfl, ha, hb, hx, hz, q1, q2⟩ := h
 cases rx
 cases ry
 obtain ⟨its, r1, p1, _⟩ := I.tuple ha
 obtain ⟨its2, r2, p2, _⟩ := I.tuple hb
 refine HT.cat_tup p1 p2 (fun z => hx (r1.nil_iff.mp z)) (fun z => ⟨.ref a, H, I, rfl, q1 (r2.nil_iff.mp z)⟩) (fun z => ?_) (by rw [← r1.length, ← r2.length]; exact hz)
 refine ⟨.ref s.heap.objs.size, _, I.laid (t' := s.toks) (o := .tup (xs ++ ys)) (fun b ob q => Heap.get?_push_of_some _ q) (Nat.le_refl _) ?_, rfl, q2 (fun w => z (r2.nil_iff.mpr w)) _ (I.hok.fresh (Nat.le_refl _))⟩
 exact ⟨by rw [List.length_append]; exact hz, _, r1.append r2, IsTup.new _ _, _, Heap.get?_push_size _ rfl, rfl⟩
end
end L2
namespace L2
open PySem PySem.Spec PyProof.Rows
def ixN (n : Nat) (i : Int) : Option Nat := if 0 ≤ i then (if i < n then some i.toNat else none) else if -(n : Int) ≤ i then some (i + n).toNat else none
def atI {α : Type} (xs : List α) (i : Int) : Option α := (ixN xs.length i).bind fun j => xs[j]?
theorem Zaq {n : Nat} {i : Int} {j : Nat} (h : ixN n i = some j) : seqIndex? i n = some j ∧ j < n ∧ -(n : Int) ≤ i ∧ i < n := by
 unfold ixN at h
 by_cases h0 : 0 ≤ i
 ·rw [if_pos h0] at h
  by_cases h1 : i < n
  ·rw [if_pos h1] at h
   have e : i.toNat = j := Option.some.inj h
   exact ⟨by rw [seqIndex_of h0 h1, e], by omega, by omega, h1⟩
  ·rw [if_neg h1] at h; cases h
 ·rw [if_neg h0] at h
  by_cases h1 : -(n : Int) ≤ i
  ·rw [if_pos h1] at h
   have e : (i + n).toNat = j := Option.some.inj h
   exact ⟨by rw [seqIndex_neg (by omega) h1, e], by omega, h1, by omega⟩
  ·rw [if_neg h1] at h; cases h
theorem Zaw {α : Type} {xs : List α} {i : Int} {v : α} (h : atI xs i = some v) : ∃ j, seqIndex? i xs.length = some j ∧ xs[j]? = some v ∧ j < xs.length ∧ -(xs.length : Int) ≤ i ∧ i < xs.length := by
 unfold atI at h
 cases e : ixN xs.length i with
 | none => rw [e] at h; cases h
 | some j =>
  rw [e] at h
  obtain ⟨h1, h2, h3, h4⟩ := Zaq e
  exact ⟨j, h1, h, h2, h3, h4⟩
theorem YZ {α : Type} {xs : List α} {j : Nat} {v : α} (h : xs[j]? = some v) : atI xs (j : Int) = some v := by
 have hj : j < xs.length := (List.getElem?_eq_some_iff.mp h).1
 have e : ixN xs.length (j : Int) = some j := by
  unfold ixN
  rw [if_pos (by omega), if_pos (by omega)]; simp
 unfold atI; rw [e]; exact h
def PlainIx (b : Expr) : Prop := ∀ o i, subscripted b false o i = operate [o, i] (getItem o i)
def IxR (X : Cx) (r : R2) : Prop :=
 ∀ (value slice : Expr) (pins : List (Addr × Obj)) (s : Shared) (σ : St) (H : Hp) (x y : V) (v u : Value) (Q : VK), Inv X pins σ H s → RelV x v → RelV y u → r x y H Q →
  subscripted slice false v u = operate [v, u] (getItem v u) → wpAny (model X.prog X.w) X.A (subscriptTail value slice v u) (EP X pins σ Q) X.xe s
def MtR (X : Cx) (id : String) (r : V → List V → Hp → VK → Prop) : Prop :=
 ∀ (pins : List (Addr × Obj)) (s : Shared) (σ : St) (H : Hp) (x : V) (xs : List V) (v : Value) (us : List Value) (Q : VK), Inv X pins σ H s → RelV x v → Vals xs us → r x xs H Q →
  wpAny (model X.prog X.w) X.A (call (.builtin id) (v :: us)) (EP X pins σ Q) X.xe s
section
variable {X : Cx} {a b : Expr} {ta tb : TE} {pos : Pos}
theorem ZB {r : R2} (hr : IxR X r) (ha : PE X a ta) (hb : PE X b tb) (hs : PlainIx b) : PE X (.Subscript a b pos) (tOp r ta tb) := by
 intro pins s σ H Q I h
 exact Subscript_ (binT ha hb I h fun v u s2 x y H2 I2 rx ry q => hr a b pins s2 σ H2 x y v u Q I2 rx ry q (hs _ _))
def rIxL (K : PySem.W.Frag) : R2 := fun x y H Q => ∃ p xs i v, x = .ref p ∧ y = .int i ∧ SqL K H p xs ∧ atI xs i = some v ∧ Q v H
def rIxT (K : PySem.W.Frag) : R2 := fun x y H Q => ∃ p xs i v, x = .ref p ∧ y = .int i ∧ SqT K H p xs ∧ atI xs i = some v ∧ Q v H
theorem ZJ : IxR X (rIxL X.K) := by
 intro value slice pins s σ H x y v u Q I rx ry h hs
 obtain ⟨p, xs, i, z, rfl, rfl, hq, he, q⟩ := h
 cases rx
 obtain ⟨t, rfl⟩ := ry
 obtain ⟨its, r, pl, hz⟩ := I.list hq
 obtain ⟨j, h1, h2, h3, h4, h5⟩ := Zaw he
 obtain ⟨w, ew, rw'⟩ := r.get h2
 have hl := r.length
 have hn := line63
 have fin : EP X pins σ Q w s := ⟨z, H, I, rw', q⟩
 by_cases h0 : 0 ≤ i
 ·have hj : i.toNat = j := by
   rw [seqIndex_of h0 h5] at h1
   exact Option.some.inj h1
  exact item_listR pl.isList h0 (by omega) (by rw [hj]; simpa using ew) fin hs
 ·have hj : (i + (its.toArray.size : Int)).toNat = j := by
   rw [seqIndex_neg (by omega) h4] at h1
   rw [List.size_toArray, ← hl]
   exact Option.some.inj h1
  exact subscriptTail_builtinR (x := w) pl.isList.typeIs slot_list_getitem.lookup
   (wpAny_getItem_list_neg (Q := fun r s' => r = w ∧ EP X pins σ Q r s') pl.isList (by omega) (by rw [List.size_toArray] <;> omega) (by omega) (by rw [hj]; simpa using ew) ⟨rfl, fin⟩) hs
theorem ZK : IxR X (rIxT X.K) := by
 intro value slice pins s σ H x y v u Q I rx ry h hs
 obtain ⟨p, xs, i, z, rfl, rfl, hq, he, q⟩ := h
 cases rx
 obtain ⟨t, rfl⟩ := ry
 obtain ⟨its, r, pl, hz⟩ := I.tuple hq
 obtain ⟨j, h1, h2, h3, h4, h5⟩ := Zaw he
 obtain ⟨w, ew, rw'⟩ := r.get h2
 have hl := r.length
 have hn := line63
 have fin : EP X pins σ Q w s := ⟨z, H, I, rw', q⟩
 exact subscriptTail_builtinR (x := w) pl.typeIs slot_tuple_getitem.lookup
  (getItem_tuple (j := j) (Q := fun r s' => r = w ∧ EP X pins σ Q r s') pl (by omega) (by omega) (by rw [List.size_toArray, ← hl]; exact h1) (by simpa using ew) ⟨rfl, fin⟩) hs
theorem UU (its : List Value) (n j : Nat) (u : Value) : Obj.mapSeq (·.setIfInBounds j u) { cls := .type "list", data := .seq its.toArray n } = { cls := .type "list", data := .seq (its.set j u).toArray n } := by
 simp [Obj.mapSeq]
theorem Inv.lst {pins : List (Addr × Obj)} {σ : St} {H : Hp} {s : Shared} {p : Addr} {xs : List V} (I : Inv X pins σ H s) (h : H p = some (.lst xs)) :
  ∃ (its : List Value) (n : Nat), Vals xs its ∧ s.heap.get? p = some { cls := .type "list", data := .seq its.toArray n } ∧ xs.length ≤ sizeLine := by
 obtain ⟨z, its, n, r, e⟩ := I.hok p _ h
 exact ⟨its, n, r, e, z⟩
theorem Inv.lstUpd {pins : List (Addr × Obj)} {σ : St} {H : Hp} {s : Shared} {p : Addr} {xs ys : List V} {its its' : List Value} {n n' : Nat} {f : Obj → Obj} (I : Inv X pins σ H s) (h : H p = some (.lst xs))
  (ho : s.heap.get? p = some { cls := .type "list", data := .seq its.toArray n }) (hf : f { cls := .type "list", data := .seq its.toArray n } = { cls := .type "list", data := .seq its'.toArray n' }) (r : Vals ys its') (hz : ys.length ≤ sizeLine) (t : Nat) :
  Inv X pins σ (upd H p (.lst ys)) { s with heap := s.heap.update p f, toks := t } := by
 have e : (s.heap.update p f).get? p = some { cls := .type "list", data := .seq its'.toArray n' } := by
  rw [Heap.get?_update_self f ho (by rw [hf] <;> rfl), hf]
 refine I.write (x := p) (e := p) (by rw [h]; trivial) (.inl rfl) (fun b u hb q => (Heap.get?_update_other _ _ (Ne.symm hb)).trans q) ⟨_, e⟩ ?_
 exact ⟨hz, its', n', r, e⟩
def rSetL : V → V → V → Hp → (Hp → Prop) → Prop := fun o i v H Q => ∃ p xs k j, o = .ref p ∧ i = .int k ∧ H p = some (.lst xs) ∧ ixN xs.length k = some j ∧ Q (upd H p (.lst (xs.set j v)))
theorem YH : PSet X rSetL := by
 intro pins s σ H o i v ov iv u Q I ro ri rv h
 obtain ⟨p, xs, k, j, rfl, rfl, hp, hj, q⟩ := h
 cases ro
 obtain ⟨t, rfl⟩ := ri
 obtain ⟨its, n, r, ho, hz⟩ := I.lst hp
 obtain ⟨h1, h2, h3, h4⟩ := Zaq hj
 have hl := r.length
 have hn := line63
 have I' : Inv X pins σ (upd H p (.lst (xs.set j v))) { s with heap := s.heap.update p (Obj.mapSeq (·.setIfInBounds j u)) } :=
  I.lstUpd hp ho (UU its n j u) (r.set rv j) (by rw [List.length_set]; exact hz) s.toks
 by_cases h0 : 0 ≤ k
 ·have hk : k.toNat = j := by
   rw [seqIndex_of h0 h4] at h1
   exact Option.some.inj h1
  exact PySem.W.ki_setAt ho h0 (by omega) (by rw [List.size_toArray, ← hl]; exact h4) (by rw [hk]; exact ⟨_, I', q⟩)
 ·have hk : (k + (its.toArray.size : Int)).toNat = j := by
   rw [seqIndex_neg (by omega) h3] at h1
   rw [List.size_toArray, ← hl]
   exact Option.some.inj h1
  exact PySem.W.ki_setBack ho (by omega) (by rw [List.size_toArray, ← hl]; exact h3) (by omega) (by rw [hk]; exact ⟨_, I', q⟩)
def flatV : V → Bool
 | .non => true
 | .bl _ => true
 | .int _ => true
 | .str _ => true
 | _ => false
def eqV : V → V → Bool
 | .non, .non => true
 | .bl a, .bl b => a == b
 | .bl a, .int b => (if a then 1 else 0) == b
 | .int a, .bl b => a == (if b then 1 else 0)
 | .int a, .int b => a == b
 | .str a, .str b => a == b
 | _, _ => false
theorem Zdt {A : Around} {s : Shared} {y x : V} {u v : Value} (ry : RelV y u) (rx : RelV x v) (fy : flatV y = true) (fx : flatV x = true) : SeqAt.EqAt A s u v (eqV y x) := by
 cases y with
 | non =>
  cases ry
  cases x with
  | non => cases rx; exact SeqAt.EqAt.same _
  | bl b => cases rx; exact SeqAt.EqAt.none_bool b
  | int b => obtain ⟨t, rfl⟩ := rx; exact SeqAt.EqAt.none_int b t
  | str b => obtain ⟨t, rfl⟩ := rx; exact SeqAt.EqAt.none_str b t
  | _ => exact absurd (show false = true from fx) Bool.false_ne_true
 | bl a =>
  cases ry
  cases x with
  | non => cases rx; exact SeqAt.EqAt.bool_none a
  | bl b => cases rx; exact SeqAt.EqAt.bool_bool a b
  | int b => obtain ⟨t, rfl⟩ := rx; exact SeqAt.EqAt.bool_int a b t
  | str b => obtain ⟨t, rfl⟩ := rx; exact SeqAt.EqAt.bool_str a b t
  | _ => exact absurd (show false = true from fx) Bool.false_ne_true
 | int a =>
  obtain ⟨t', rfl⟩ := ry
  cases x with
  | non => cases rx; exact SeqAt.EqAt.int_none a t'
  | bl b => cases rx; exact SeqAt.EqAt.int_bool a t' b
  | int b => obtain ⟨t, rfl⟩ := rx; exact SeqAt.EqAt.int_int a t' b t
  | str b => obtain ⟨t, rfl⟩ := rx; exact SeqAt.EqAt.int_str a t' b t
  | _ => exact absurd (show false = true from fx) Bool.false_ne_true
 | str a =>
  obtain ⟨t', rfl⟩ := ry
  cases x with
  | non => cases rx; exact SeqAt.EqAt.str_none a t'
  | bl b => cases rx; exact SeqAt.EqAt.str_bool a t' b
  | int b => obtain ⟨t, rfl⟩ := rx; exact SeqAt.EqAt.str_int a t' b t
  | str b => obtain ⟨t, rfl⟩ := rx; exact SeqAt.EqAt.str_str a t' b t
  | _ => exact absurd (show false = true from fx) Bool.false_ne_true
 | _ => exact absurd (show false = true from fy) Bool.false_ne_true
def eqU (x : V) (u : Value) : Bool := match u with
 | .none => eqV .non x
 | .bool b => eqV (.bl b) x
 | .int i _ => eqV (.int i) x
 | .str z _ => eqV (.str z) x
 | _ => false
theorem W2 {x y : V} {u : Value} (r : RelV y u) (f : flatV y = true) : eqU x u = eqV y x := by
 cases y with
 | non => cases r; rfl
 | bl b => cases r; rfl
 | int i => obtain ⟨t, rfl⟩ := r; rfl
 | str z => obtain ⟨t, rfl⟩ := r; rfl
 | _ => exact absurd (show false = true from f) Bool.false_ne_true
theorem W7 {x : V} : ∀ {xs : List V} {us : List Value}, Vals xs us → xs.all flatV = true → us.any (eqU x) = xs.any fun y => eqV y x
 | _, _, .nil, _ => rfl
 | y :: xs, u :: us, .cons r t, f => by
  rw [List.all_cons, Bool.and_eq_true] at f
  rw [List.any_cons, List.any_cons, W2 r f.1, W7 t f.2]
theorem YM {A : Around} {s : Shared} {x : V} {v : Value} (rx : RelV x v) (fx : flatV x = true) : ∀ {xs : List V} {us : List Value}, Vals xs us → xs.all flatV = true → ∀ u ∈ us, SeqAt.EqAt A s u v (eqU x u)
 | _, _, .nil, _ => fun u hu => by cases hu
 | y :: xs, u :: us, .cons r t, f => fun u' hu => by
  rw [List.all_cons, Bool.and_eq_true] at f
  rcases List.mem_cons.mp hu with rfl | hu
  ·rw [W2 r f.1]; exact Zdt r rx f.1 fx
  ·exact YM rx fx t f.2 u' hu
def inV (x : V) (xs : List V) : Bool := xs.any fun y => eqV y x
def rIn (K : PySem.W.Frag) (neg : Bool) : R2 := fun x y H Q => ∃ p xs, y = .ref p ∧ (SqL K H p xs ∨ SqT K H p xs) ∧ flatV x = true ∧ xs.all flatV = true ∧ Q (.bl (if neg then !inV x xs else inV x xs)) H
theorem ZaI : OpR X (compareOp .In) (rIn X.K false) := by
 intro pins s σ H x y v u Q I rx ry h
 obtain ⟨p, xs, rfl, hq, fx, fs, q⟩ := h
 cases ry
 rcases hq with hq | hq
 ·obtain ⟨its, r, pl, hz⟩ := I.list hq
  refine SeqAt.in_listAt (eqU x) pl.isList (fun w hw => YM rx fx r fs w (by simpa using hw)) ⟨.bl _, H, I, rfl, ?_⟩
  rw [show its.toArray.any (eqU x) = its.any (eqU x) by simp, W7 r fs]
  exact q
 ·obtain ⟨its, r, pl, hz⟩ := I.tuple hq
  refine SeqAt.in_tupleAt (eqU x) pl (fun w hw => YM rx fx r fs w (by simpa using hw)) ⟨.bl _, H, I, rfl, ?_⟩
  rw [show its.toArray.any (eqU x) = its.any (eqU x) by simp, W7 r fs]
  exact q
theorem ZD : CallR X (.builtin "len") (fun xs H Q => ∃ p ys, xs = [.ref p] ∧ (SqL X.K H p ys ∨ SqT X.K H p ys) ∧ Q (.int ys.length) H) := by
 intro pins s σ H xs us Q I r h
 obtain ⟨p, ys, rfl, hq, q⟩ := h
 obtain ⟨u, rfl, rx⟩ := vals1 r
 cases rx
 have hn := line63
 rcases hq with hq | hq
 ·obtain ⟨its, r', pl, hz⟩ := I.list hq
  have hlen := r'.length
  exact Calls.call_len_list pl.isList (by simp only [List.size_toArray] <;> omega) ⟨.int ys.length, H, I.tok _, ⟨s.toks + 1, by rw [List.size_toArray, hlen]⟩, q⟩
 ·obtain ⟨its, r', pl, hz⟩ := I.tuple hq
  have hlen := r'.length
  exact len_tuple pl (by simp only [List.size_toArray] <;> omega) ⟨.int ys.length, H, I.tok _, ⟨s.toks + 1, by rw [List.size_toArray, hlen]⟩, q⟩
theorem W4 : CallR X (.type "list") (fun xs H Q => ∃ p ys, xs = [.ref p] ∧ (SqL X.K H p ys ∨ SqT X.K H p ys) ∧ ∀ l, H l = none → Q (.ref l) (upd H l (.lst ys))) := by
 intro pins s σ H xs us Q I r h
 obtain ⟨p, ys, rfl, hq, q⟩ := h
 obtain ⟨u, rfl, rx⟩ := vals1 r
 cases rx
 have fin : ∀ (its : List Value), Vals ys its → ys.length ≤ sizeLine → ∀ (h' : Heap) (c' : Nat), (∀ b o', s.heap.get? b = some o' → h'.get? b = some o') →
   h'.get? s.heap.objs.size = some { cls := .type "list", dict := none, data := .seq its.toArray c', slots := #[] } → EP X pins σ Q (.ref s.heap.objs.size) { s with heap := h' } := fun its r' hz h' c' kp e =>
  ⟨.ref s.heap.objs.size, _, I.laid (t' := s.toks) kp (Nat.le_refl _) (show ObjOk X.prog X.w _ h' _ (.lst ys) from ⟨hz, its, c', r', e⟩), rfl, q _ (I.hok.fresh (Nat.le_refl _))⟩
 rcases hq with hq | hq
 ·obtain ⟨its, r', pl, hz⟩ := I.list hq
  have hlen := r'.length
  obtain ⟨o, ho, hc, n, hd⟩ := pl.isList
  exact call_list_seq p (.inl rfl) ho hc hd (fun h' c' kp e => fin its r' hz h' c' kp e) (by simp only [List.size_toArray] <;> omega)
 ·obtain ⟨its, r', pl, hz⟩ := I.tuple hq
  have hlen := r'.length
  obtain ⟨o, ho, hc, n, hd⟩ := pl
  exact call_list_seq p (.inr rfl) ho hc hd (fun h' c' kp e => fin its r' hz h' c' kp e) (by simp only [List.size_toArray] <;> omega)
theorem ZT : CallR X (.type "tuple") (fun xs H Q => ∃ p ys, xs = [.ref p] ∧ ((SqL X.K H p ys ∧ ∀ l, H l = none → Q (.ref l) (upd H l (.tup ys))) ∨ (SqT X.K H p ys ∧ Q (.ref p) H))) := by
 intro pins s σ H xs us Q I r h
 obtain ⟨p, ys, rfl, h⟩ := h
 obtain ⟨u, rfl, rx⟩ := vals1 r
 cases rx
 rcases h with ⟨hq, q⟩ | ⟨hq, q⟩
 ·obtain ⟨its, r', pl, hz⟩ := I.list hq
  have hlen := r'.length
  refine call_tuple_list pl.isList (fun h' kp => ?_) (by simp only [List.size_toArray] <;> omega)
  have I1 : Inv X pins σ H { s with heap := h' } := I.kept (t' := s.toks) kp
  have I2 : Inv X pins σ (upd H h'.objs.size (.tup ys)) { s with heap := h'.push { cls := .type "tuple", data := .seq its.toArray } } :=
   I1.laid (t' := s.toks) (fun b o e => Heap.get?_push_of_some _ e) (Nat.le_refl _) (show ObjOk X.prog X.w _ _ _ (.tup ys) from ⟨hz, its, r', IsTup.new _ _, _, Heap.get?_push_size _ rfl, rfl⟩)
  exact ⟨.ref h'.objs.size, _, I2, rfl, q _ (I1.hok.fresh (Nat.le_refl _))⟩
 ·obtain ⟨its, r', pl, hz⟩ := I.tuple hq
  exact call_tuple_same pl ⟨.ref p, H, I, rfl, q⟩
def tyV (K : PySem.W.Frag) (T : String) (x : V) (H : Hp) : Prop := match x with
 | .str _ => T = "str"
 | .int _ => T = "int"
 | .ref p => (T = "list" ∧ ∃ xs, SqL K H p xs) ∨ (T = "tuple" ∧ ((∃ o, K.lookup p = some o ∧ o.cls = .type "tuple" ∧ o.dict = none) ∨ ∃ xs, H p = some (.tup xs))) ∨
   (T = "dict" ∧ ((∃ kvs, H p = some (.dK kvs)) ∨ ∃ kvs, H p = some (.dT kvs))) ∨ (T = "set" ∧ ∃ S n, H p = some (.set S n))
 | _ => False
theorem Zbd {pins : List (Addr × Obj)} {σ : St} {H : Hp} {s : Shared} {T : String} {x : V} {v : Value} (I : Inv X pins σ H s) (r : RelV x v) (ty : tyV X.K T x H) :
  s.TypeIs v T ∧ ∀ a, v = .ref a → ∃ ob, s.heap.get? a = some ob ∧ ob.dict = none := by
 cases x with
 | str z =>
  obtain ⟨t, rfl⟩ := r
  cases (show T = "str" from ty)
  exact ⟨typeIs_str s z t, fun _ e => nomatch e⟩
 | int i =>
  obtain ⟨t, rfl⟩ := r
  cases (show T = "int" from ty)
  exact ⟨typeIs_int s i t, fun _ e => nomatch e⟩
 | ref p =>
  cases r
  rcases ty with ⟨rfl, xs, hq⟩ | ⟨rfl, ⟨o, hk, hc, hd⟩ | ⟨xs, hx⟩⟩ | ⟨rfl, hk⟩ | ⟨rfl, S, n, hk⟩
  ·obtain ⟨its, _, pl, _⟩ := I.list hq
   refine ⟨pl.isList.typeIs, fun a e => ?_⟩
   cases e
   obtain ⟨o, n, e, c, hd, _⟩ := pl
   exact ⟨o, e, hd⟩
  ·refine ⟨⟨o, I.kIn p o hk, hc⟩, fun a e => ?_⟩
   cases e
   exact ⟨o, I.kIn _ o hk, hd⟩
  ·obtain ⟨_, _, _, ⟨o, e, c, _⟩, o2, e2, hd⟩ := (show ObjOk X.prog X.w H s.heap p (.tup xs) from I.hok p _ hx)
   refine ⟨⟨o, e, c⟩, fun a e3 => ?_⟩
   cases e3
   exact ⟨o2, e2, hd⟩
  ·have z : ∃ o, s.heap.get? p = some o ∧ o.ExactDict := by
    rcases hk with ⟨kvs, hk⟩ | ⟨kvs, hk⟩
    ·obtain ⟨_, _, _, _, o, _, _, e, ex, _⟩ := I.hok p _ hk
     exact ⟨o, e, ex⟩
    ·obtain ⟨_, _, _, _, o, _, _, e, ex, _⟩ := I.hok p _ hk
     exact ⟨o, e, ex⟩
   obtain ⟨o, e, ex⟩ := z
   refine ⟨⟨o, e, ex.1⟩, fun a e2 => ?_⟩
   cases e2
   exact ⟨o, e, ex.2.1⟩
  ·obtain ⟨o, _, _, _, e, ex, _⟩ := I.hok p _ hk
   refine ⟨⟨o, e, ex.1⟩, fun a e2 => ?_⟩
   cases e2
   exact ⟨o, e, ex.2.1⟩
 | _ => exact False.elim ty
def tBM0 (K : PySem.W.Frag) (T : String) (r : V → List V → Hp → VK → Prop) (to : TE) : TE := fun σ H Q => to σ H fun x H1 => tyV K T x H1 ∧ r x [] H1 Q
def tBM (K : PySem.W.Frag) (T : String) (r : V → List V → Hp → VK → Prop) (to : TE) (t : TA) : TE := fun σ H Q => to σ H fun x H1 => tyV K T x H1 ∧ t σ H1 fun xs H2 => r x xs H2 Q
variable {o e : Expr} {es : List Expr} {to : TE} {t : TA} {name : Str} {apos cpos : Pos} {T id : String} {r : V → List V → Hp → VK → Prop}
theorem Zc1 (pa : PlainAttrs T) (slot : Slot T name id) (hty : typeOf (.builtin id) = pure (.type "method_descriptor")) (hm : MtR X id r) (ho : PE X o to)
  (hbase : attributeBase o name X.env (eval o X.env) = eval o X.env := by rfl) (hline : (apos.endLine == cpos.line) = true := by rfl) : PE X (.Call (.Attribute o name apos) [] [] cpos) (tBM0 X.K T r to) := by
 intro pins s σ H Q I h
 refine wpAny_Call_method0_late hbase hline (thn (ho pins s σ H _ I h) fun v s1 ⟨x, H1, I1, r1, ty, q1⟩ => ?_)
 obtain ⟨h1, h2⟩ := Zbd I1 r1 ty
 exact ⟨T, id, pa, slot, hty, h1, h2, Calls.callWith_builtin rfl (PySem.evalArgs_none (hm pins s1 σ H1 x [] v [] Q I1 r1 .nil q1))⟩
theorem Jy (pa : PlainAttrs T) (slot : Slot T name id) (hty : typeOf (.builtin id) = pure (.type "method_descriptor")) (hm : MtR X id r) (ho : PE X o to) (ha : PA X (e :: es) t)
    (hbase : attributeBase o name X.env (eval o X.env) = eval o X.env := by rfl)
    (hfew : ((backTo cpos (starEach (e :: es) X.env)).all (fun x => !x.1) && (backToKw cpos (keywordEach [] X.env)).all (fun x => x.1.isSome)
      && decide ((e :: es).length + ([] : List Keyword).length + (if ([] : List Keyword).isEmpty then 0 else 1) < 30)) = true := by rfl)
    (hline : (apos.endLine == cpos.line) = true := by rfl) (hs : starEach (e :: es) X.env = (false, eval e X.env) :: starEach es X.env := by rfl) (hplain : (backTo cpos (starEach es X.env)).any (·.1) = false := by rfl) :
    PE X (.Call (.Attribute o name apos) (e :: es) [] cpos) (tBM X.K T r to t) := by
  intro pins s σ H Q I h
  refine wpAny_Call_method_late hbase hfew hline rfl (thn (ho pins s σ H _ I h) fun v s1 ⟨x, H1, I1, r1, ty, q1⟩ => ?_)
  obtain ⟨h1, h2⟩ := Zbd I1 r1 ty
  refine ⟨T, id, pa, slot, hty, h1, h2, ?_⟩
  have hA := ha cpos pins s1 σ H1 _ I1 q1
  rw [hs] at hA ⊢
  refine Calls.callWith_builtin (by show (false || (backTo cpos (starEach es X.env)).any (·.1)) = false; rw [hplain] <;> rfl) (Calls.evalArgs_plain ?_)
  exact thn hA fun us s2 ⟨vs, H2, I2, r2, q2⟩ => hm pins s2 σ H2 x vs v us Q I2 r1 r2 q2
end
end L2
namespace L2
open PySem PySem.Spec PyProof.Rows
def MtM (X : Cx) (id : String) (r : V → List V → Hp → VK → Prop) : Prop :=
 ∀ (pins : List (Addr × Obj)) (s : Shared) (σ : St) (H : Hp) (x : V) (xs : List V) (v : Value) (us : List Value) (Q : VK), Inv X pins σ H s → RelV x v → Vals xs us → r x xs H Q →
  wpAny (model X.prog X.w) X.A (call (.builtin id) (v :: us)) (EP X pins σ Q) X.xe s
theorem Vals.one : ∀ {x : V} {us : List Value}, Vals [x] us → ∃ u, us = [u] ∧ RelV x u
 | _, _, .cons r .nil => ⟨_, rfl, r⟩
theorem Vals.zero : ∀ {us : List Value}, Vals [] us → us = []
 | _, .nil => rfl
theorem Vals.eraseIdx : ∀ {xs : List V} {us : List Value} (i : Nat), Vals xs us → Vals (xs.eraseIdx i) (us.eraseIdx i)
 | _, _, _, .nil => .nil
 | _, _, 0, .cons _ t => t
 | _, _, i + 1, .cons r t => .cons r (Vals.eraseIdx i t)
theorem Vals.reverse {xs : List V} {us : List Value} (h : Vals xs us) : Vals xs.reverse us.reverse := by
 induction h with
 | nil => exact .nil
 | cons r t ih => rw [List.reverse_cons, List.reverse_cons]; exact Vals.append ih (.cons r .nil)
theorem Vals.rep {xs : List V} {us : List Value} (h : Vals xs us) : ∀ k : Nat, Vals (List.replicate k xs).flatten (List.replicate k us).flatten
 | 0 => .nil
 | k + 1 => by
  rw [List.replicate_succ, List.replicate_succ, List.flatten_cons, List.flatten_cons]
  exact Vals.append h (Vals.rep h k)
theorem Wx {α : Type} : ∀ (l : List α) (i : Nat), (l.eraseIdx i).length ≤ l.length
 | [], _ => Nat.le_refl _
 | _ :: _, 0 => Nat.le_succ _
 | _ :: r, i + 1 => Nat.succ_le_succ (Wx r i)
theorem Ju (its : List Value) : ∀ (k : Nat) (acc : List Value),
  List.foldl (fun x1 x2 => x1 ++ x2) acc.toArray (List.replicate k its.toArray) = (acc ++ (List.replicate k its).flatten).toArray
 | 0, acc => by simp
 | k + 1, acc => by
  have e : acc.toArray ++ its.toArray = (acc ++ its).toArray := by simp
  have e2 : (acc ++ its) ++ (List.replicate k its).flatten = acc ++ (List.replicate (k + 1) its).flatten := by
   rw [List.replicate_succ, List.flatten_cons, List.append_assoc]
  rw [← e2, ← Ju its k (acc ++ its), ← e, List.replicate_succ, List.foldl_cons]
section
variable {X : Cx} {pins : List (Addr × Obj)} {σ : St} {H : Hp} {s : Shared} {l b : Addr} {xs ys zs : List V}
theorem Inv.lset {its its' : List Value} {n : Nat} {f : Array Value → Array Value} {t' : Nat} (I : Inv X pins σ H s) (hH : H l = some (.lst xs))
  (e : s.heap.get? l = some { cls := .type "list", data := .seq its.toArray n }) (hf : f its.toArray = its'.toArray) (hv : Vals ys its') (hz : ys.length ≤ sizeLine) :
  Inv X pins σ (upd H l (.lst ys)) { s with heap := s.heap.update l (Obj.mapSeq f), toks := t' } := by
 have q := PySem.IsL.update e f
 rw [hf] at q
 refine I.write (x := l) (e := l) (by rw [hH]; exact trivial) (.inl rfl) (fun b' u hb hu => (Heap.get?_update_other s.heap (Obj.mapSeq f) (Ne.symm hb)).trans hu) ⟨_, q⟩ ?_
 exact ⟨hz, its', _, hv, q⟩
theorem Inv.lnew {its : List Value} {t' : Nat} (I : Inv X pins σ H s) (hv : Vals ys its) (hz : ys.length ≤ sizeLine) :
  Inv X pins σ (upd H s.heap.objs.size (.lst ys)) { s with heap := s.heap.push { cls := .type "list", data := .seq its.toArray }, toks := t' } :=
 I.laid (fun _ _ q => Heap.get?_push_of_some _ q) (Nat.le_refl _) ⟨hz, its, 0, hv, Heap.get?_push_size _ rfl⟩
theorem Inv.fresh (I : Inv X pins σ H s) : H s.heap.objs.size = none := I.hok.fresh (Nat.le_refl _)
theorem Inv.lstM (I : Inv X pins σ H s) (hH : H l = some (.lst xs)) : xs.length ≤ sizeLine ∧ ∃ (its : List Value) (n : Nat), Vals xs its ∧ xs.length = its.length ∧ s.heap.get? l = some { cls := .type "list", data := .seq its.toArray n } := by
 obtain ⟨z, its, n, r, e⟩ := I.hok l _ hH
 exact ⟨z, its, n, r, r.length, e⟩
theorem notLongL {n : Nat} (h : n ≤ sizeLine) : Builtin.List.listTooLong n = false := by
 unfold Builtin.List.listTooLong
 exact decide_eq_false (by omega)
end
section
variable {X : Cx}
def rAppend : V → List V → Hp → VK → Prop := fun x vs H Q => ∃ l xs y, x = .ref l ∧ vs = [y] ∧ H l = some (.lst xs) ∧ xs.length < sizeLine ∧ Q .non (upd H l (.lst (xs ++ [y])))
theorem YX : MtM X "list.append" rAppend := by
 intro pins s σ H x vs v us Q I rx rv h
 obtain ⟨l, xs, y, rfl, rfl, hH, hz, q⟩ := h
 cases rx
 obtain ⟨u, rfl, ru⟩ := rv.one
 obtain ⟨z, its, n, r, hl, e⟩ := I.lstM hH
 refine call_meets F.slot_list_append ⟨_, e, rfl⟩ F.entry_list_append (F.args_list_append_2 _ _) (PySem.list_append l its.toArray n u (by rw [List.size_toArray]; omega)) ⟨e, ?_⟩
 refine ⟨.non, _, I.lset (its' := its ++ [u]) hH e (by simp) (r.append (.cons ru .nil)) ?_, rfl, q⟩
 rw [List.length_append, List.length_singleton]
 omega
def rExtend : V → List V → Hp → VK → Prop := fun x vs H Q => ∃ l b xs zs, x = .ref l ∧ vs = [.ref b] ∧ H l = some (.lst xs) ∧ H b = some (.lst zs) ∧ xs.length + zs.length ≤ sizeLine ∧ Q .non (upd H l (.lst (xs ++ zs)))
theorem ZaR : MtM X "list.extend" rExtend := by
 intro pins s σ H x vs v us Q I rx rv h
 obtain ⟨l, b, xs, zs, rfl, rfl, hH, hB, hz, q⟩ := h
 cases rx
 obtain ⟨u, rfl, ru⟩ := rv.one
 cases ru
 obtain ⟨z, its, n, r, hl, e⟩ := I.lstM hH
 obtain ⟨z2, its2, n2, r2, hl2, e2⟩ := I.lstM hB
 have hsz : its.toArray.size + its2.toArray.size ≤ sizeLine := by rw [List.size_toArray, List.size_toArray]; omega
 have hlong : ¬ (!its.toArray.isEmpty && Builtin.List.listTooLong (its.toArray.size + its2.toArray.size)) = true := by
  rw [notLongL hsz, Bool.and_false]
  exact Bool.false_ne_true
 refine call_meets F.slot_list_extend ⟨_, e, rfl⟩ F.entry_list_extend (F.args_list_extend_2 _ _)
  (AutoSeq1.list_extend_list_list_0 l its.toArray n b its2.toArray n2 hlong (by rw [List.size_toArray]; omega) (by omega)) ⟨e, e2, ?_⟩
 refine ⟨.non, _, I.lset (its' := its ++ its2) hH e (by simp) (r.append r2) ?_, rfl, q⟩
 rw [List.length_append]
 omega
def rPopAt : V → List V → Hp → VK → Prop := fun x vs H Q => ∃ l xs i k y, x = .ref l ∧ vs = [.int i] ∧ H l = some (.lst xs) ∧ -(2 ^ 63) ≤ i ∧ i < 2 ^ 63 ∧ seqIndex? i xs.length = some k ∧ xs[k]? = some y ∧ Q y (upd H l (.lst (xs.eraseIdx k)))
theorem ZbM : MtM X "list.pop" rPopAt := by
 intro pins s σ H x vs v us Q I rx rv h
 obtain ⟨l, xs, i, k, y, rfl, rfl, hH, h1, h2, hk, hy, q⟩ := h
 cases rx
 obtain ⟨u, rfl, ru⟩ := rv.one
 obtain ⟨t, rfl⟩ := ru
 obtain ⟨z, its, n, r, hl, e⟩ := I.lstM hH
 obtain ⟨w, hw, rw'⟩ := r.get hy
 refine call_meets F.slot_list_pop ⟨_, e, rfl⟩ F.entry_list_pop (F.args_list_pop_2 _ _)
  (MeetsSeq.list_pop_at l its.toArray n i t k w (fitsIndex_both h1 h2) (by rw [List.size_toArray, ← hl]; exact hk) (by rw [← Array.getElem?_toList]; exact hw) (by rw [List.size_toArray]; omega)) ⟨e, ?_⟩
 refine ⟨y, _, I.lset (its' := its.eraseIdx k) hH e ?_ (r.eraseIdx k) ?_, rw', q⟩
 ·show its.toArray.eraseIdxIfInBounds k = (its.eraseIdx k).toArray
  rw [List.eraseIdxIfInBounds_toArray]
 ·have := Wx xs k
  omega
def rReverse : V → List V → Hp → VK → Prop := fun x vs H Q => ∃ l xs, x = .ref l ∧ vs = [] ∧ H l = some (.lst xs) ∧ Q .non (upd H l (.lst xs.reverse))
theorem UT : MtM X "list.reverse" rReverse := by
 intro pins s σ H x vs v us Q I rx rv h
 obtain ⟨l, xs, rfl, rfl, hH, q⟩ := h
 cases rx
 have hus := rv.zero
 subst hus
 obtain ⟨z, its, n, r, hl, e⟩ := I.lstM hH
 refine call_meets F.slot_list_reverse ⟨_, e, rfl⟩ F.entry_list_reverse (F.args_list_reverse_1 _) (AutoSeq1.list_reverse_list_0 l its.toArray n (by rw [List.size_toArray]; omega)) ⟨e, ?_⟩
 refine ⟨.non, _, I.lset (its' := its.reverse) hH e (by simp) r.reverse ?_, rfl, q⟩
 rw [List.length_reverse]
 omega
def rCat : R2 := fun x y H Q => ∃ l b xs zs, x = .ref l ∧ y = .ref b ∧ H l = some (.lst xs) ∧ H b = some (.lst zs) ∧ xs.length + zs.length ≤ sizeLine ∧ ∀ p, H p = none → Q (.ref p) (upd H p (.lst (xs ++ zs)))
theorem YC : OpR X (binaryOp .Add) rCat := by
 intro pins s σ H x y v u Q I rx ry h
 obtain ⟨l, b, xs, zs, rfl, rfl, hH, hB, hz, q⟩ := h
 cases rx
 cases ry
 obtain ⟨z, its, n, r, hl, e⟩ := I.lstM hH
 obtain ⟨z2, its2, n2, r2, hl2, e2⟩ := I.lstM hB
 refine PySem.P.add_list e e2 ?_ (by rw [List.size_toArray, List.size_toArray]; omega)
 have ea : its.toArray ++ its2.toArray = (its ++ its2).toArray := by simp
 rw [ea]
 exact ⟨.ref _, _, I.lnew (t' := s.toks) (r.append r2) (by rw [List.length_append]; omega), rfl, q _ I.fresh⟩
def rRep : R2 := fun x y H Q => ∃ l k xs, x = .ref l ∧ y = .int k ∧ H l = some (.lst xs) ∧ -(2 ^ 63) ≤ k ∧ k < 2 ^ 63 ∧ xs.length * k.toNat ≤ sizeLine ∧
 ∀ p, H p = none → Q (.ref p) (upd H p (.lst (List.replicate k.toNat xs).flatten))
theorem WX {α : Type} (xs : List α) (k : Nat) : (List.replicate k xs).flatten.length = k * xs.length := by
 induction k with
 | zero => simp
 | succ k ih => rw [List.replicate_succ, List.flatten_cons, List.length_append, ih, Nat.succ_mul, Nat.add_comm]
theorem Zbx : OpR X (binaryOp .Mult) rRep := by
  intro pins s σ H x y v u Q I rx ry h
  obtain ⟨l, k, xs, rfl, rfl, hH, h1, h2, hz, q⟩ := h
  cases rx
  obtain ⟨t, rfl⟩ := ry
  obtain ⟨z, its, n, r, hl, e⟩ := I.lstM hH
  have hlen : its.toArray.size * k.toNat ≤ sizeLine := by rw [List.size_toArray, ← hl]; exact hz
  have hcap : ¬ its.toArray.size * k.toNat > (2 ^ 63 - 1) / 8 := by
    have : (sizeLine : Nat) ≤ (2 ^ 63 - 1) / 8 := by decide
    omega
  have hfit : ¬ (!Builtin.List.listFitsIndex k) = true := by
    rw [fitsIndex_both h1 h2]
    exact Bool.false_ne_true
  have hlong : ¬ Builtin.List.listTooLong (its.toArray.size * k.toNat) = true := by
    rw [notLongL hlen]
    exact Bool.false_ne_true
  have hnew : List.foldl (fun x1 x2 => x1 ++ x2) #[] (List.replicate (if its.toArray.isEmpty = true then 0 else k.toNat) its.toArray) = (List.replicate k.toNat its).flatten.toArray := by
    have f0 : ∀ m : Nat, List.foldl (fun x1 x2 => x1 ++ x2) #[] (List.replicate m its.toArray) = (List.replicate m its).flatten.toArray := fun m => by
      have := Ju its m []
      rw [List.nil_append] at this
      exact this
    rw [f0]
    cases its with
    | nil => simp
    | cons a r' => rw [if_neg (by simp)]
  refine wpAny_binaryOp_repeat_ref (T := "list") (U := "int") (by decide) ⟨_, e, rfl⟩ (fun s' => typeIs_int s' k t) noFill_list_mul F.fills_int_mul F.slot_int_rmul repeat_list F.slot_int_index.lookup
    (call_meets F.slot_int_rmul (typeIs_int s k t) F.entry_int_rmul (F.args_int_rmul_2 _ _) (int___rmul___int_list k t l its.toArray n)
      ⟨e, rfl, ⟨_, e, rfl⟩, call_meets F.slot_list_mul ⟨_, e, rfl⟩ F.entry_list_mul (F.args_list_mul_2 _ _) (AutoListH.list___mul___list_int_3 l its.toArray n k t hfit hcap hlong) ⟨e, ?_⟩⟩)
  rw [hnew]
  exact ⟨.ref _, _, I.lnew (t' := s.toks) (r.rep k.toNat) (by rw [WX, Nat.mul_comm]; exact hz), rfl, q _ I.fresh⟩
end
end L2
namespace Att
open PySem PySem.W PySem.Calls PyProof.Rows
theorem JF {P : Params} {h : Heap} : ∀ (ns : List Int) (vs : List Value), WellAll P h vs (ns.map WData.int) → IntsAre vs ns := by
 intro ns
 induction ns with
 | nil =>
  intro vs w
  rw [List.map_nil] at w
  cases w
  exact .nil
 | cons n ns ih =>
  intro vs w
  rw [List.map_cons] at w
  cases w with
  | cons a b =>
   cases a
   exact .cons _ _ (ih _ b)
theorem ZaE {l : OpenLaw} {n : Nat} (hn : l.most = some n) {P : Params} {h : Heap} {args : List WData} {vals : List Value}
  (hpre : l.row.toRowW.claim.pre args = true) (hwl : WellAll P h vals args) :
  ∃ a vs ns, vals = [Value.ref a] ∧ args = [WData.list (ns.map WData.int)] ∧ h.get? a = some { cls := .type "list", data := .seq vs.toArray } ∧ IntsAre vs ns ∧ ns.length ≤ n := by
 have hsh : WShape.hasAll [] args [.list .int] = true := (pre_splitW hpre).1
 have hc : l.pre.holds [] { args := args } = true := (pre_splitW hpre).2
 obtain ⟨d, r, rfl, h1, h2⟩ := hasAllW_cons hsh
 obtain rfl := hasAllW_nil h2
 obtain ⟨xs, rfl, h3⟩ := hasW_list h1
 obtain ⟨ns, rfl⟩ := items_int h3
 have hlen : ns.length ≤ n := by
  unfold OpenLaw.pre at hc
  have h4 : (WTm.not (.lt (.lit (.int (n : Int))) (.len (.arg 0)))).holds [] { args := [.list (ns.map .int)] } = true := by
   have h4 := (holds_andW hc).1
   rw [hn] at h4
   exact h4
  have h5 := condW_of h4 (w_not (w_lt w_lit (w_len_list (w_arg rfl))))
  rw [List.length_map] at h5
  refine Nat.le_of_not_lt fun q => ?_
  have q' : (n : Int) < ((ns.length : Nat) : Int) := by omega
  first
   | (rw [decide_eq_true q'] at h5; exact absurd h5 (by decide))
   | (simp at h5; omega)
 cases hwl with
 | cons w1 w2 =>
  cases w2
  cases w1 with
  | list ho hall => exact ⟨_, _, ns, rfl, rfl, ho, JF ns _ hall, hlen⟩
theorem ZaH (l : OpenLaw) (args : List WData) : l.row.toRowW.claim.post args (.bool true) args = true :=
 postW_of (r := l.row.toRowW) (X := (true == true))
  (show WShape.has [] (.bool true) .bool = true by first | rfl | decide | simp [WShape.has, WShape.arms, WShape.armsAll])
  (show (WTm.eq .res (.lit (.bool true))).value [] { args := args, res := some (.bool true), after := args } = some (.bool (true == true)) from w_eq_bool (w_res rfl) w_lit) rfl
theorem attach_call {l : OpenLaw} {n : Nat} {q : Program} {loose : List Str} {XP : (Str → Option Value) → Heap → Prop} {YP : World → Heap → Prop} {d : DefRec}
    (hn : l.most = some n) (hdf : d.params.defaults = [])
    (call : ∀ (w : World) (s₀ s₁ : Shared) (mg mb : Str → Option Value) (fa : Addr) (o : Obj) (pm cd doc : Value) (a : Addr) (vs : List Value) (ns : List Int),
      Ground q loose [] XP w s₀ mg mb s₁.heap → YP w s₁.heap →
      s₁.heap.get? fa = some o → o.data = .func (docDef d.name d.params d.body d.scope pm cd doc) → s₁.heap.CodeRec cd d.name → mg d.name = some (.ref fa) →
      s₁.heap.get? a = some { cls := .type "list", data := .seq vs.toArray } → IntsAre vs ns → ns.length ≤ n → s₁.gens = #[] →
      codeAny (model l.prog w) callerA (.call (.ref fa) ⟨[.ref a], []⟩) (fun r s' => r = .ok (.ret (.bool true)) ∧ OldK s₁.heap s'.heap ∧ s'.os = s₁.os ∧ AllBare s'.gens) s₁) :
    WalkO q loose XP YP l.row.toRowW d [] (fun f vs => PySem.call f vs) := by
  intro w s₀ s₁ mg mb G Y fa o pm cd doc dV kV ho hd hcd hD hmg hg args vals as hpre hlay hrd hwl hlo
  obtain rfl : dV = .none := Dflts.none hD hdf
  obtain rfl : kV = .none := Dflts.noKw hD
  obtain ⟨a, vs, ns, rfl, rfl, hobj, hints, hlen⟩ := ZaE hn hpre hwl
  refine enter_call (codeAny_mono (call w s₀ s₁ mg mb fa o pm cd doc a vs ns G Y ho (fd_plain hd) hcd hmg hobj hints hlen hg) fun r s' hq => ?_)
  obtain ⟨rfl, h2, h3, h4⟩ := hq
  exact ⟨.inl ⟨.bool true, .bool true, [], rfl, fun _ => rfl, .bool true, ZaH l _, fun _ => ⟨List.Pairwise.nil, fun _ hm => (nomatch hm)⟩⟩, h2, h3, h4⟩
end Att
namespace L2
open PySem PySem.Spec PyProof.Rows
theorem Wl : ∀ {vs : List Value} {ns : List Int}, IntsAre vs ns → Vals (ns.map V.int) vs
 | _, _, .nil => .nil
 | _, _, .cons n t h => .cons ⟨t, rfl⟩ (Wl h)
end L2
namespace L2
open PySem PySem.Spec PyProof.Rows
end L2
namespace L2
open PySem PySem.Spec PyProof.Rows
def defArgs (s : Stmt) : Arguments := match s with
 | .FunctionDef _ a _ _ _ _ _ _ _ _ => a
 | _ => { posonlyargs := [], args := [], vararg := none, kwonlyargs := [], kw_defaults := [], kwarg := none, defaults := [] }
def defBody (s : Stmt) : List Stmt := match s with
 | .FunctionDef _ _ b _ _ _ _ _ _ _ => b
 | _ => []
def defScope (s : Stmt) : Scope := match s with
 | .FunctionDef _ _ _ _ _ _ sc _ _ _ => sc
 | _ => { kind := .function, names := [], isGenerator := false, isCoroutine := false }
abbrev CX0 : CXT := fun _ _ _ _ _ _ => False
abbrev E0 : XK := fun _ _ _ => False
theorem pass0 {X : Cx} : Passes CX0 X E0 := fun _ _ _ _ _ _ _ h => h.elim
structure Fun (K : PySem.W.Frag) (x qual : Str) (st : Stmt) (f : Addr) (fd : FuncData) : Prop where
 ex : ∃ (oc : Value) (od : Option Addr) (kV doc pm : Value) (an : Option Addr) (cdv ct : Value) (osl : Array (Option Value)),
  fd = PySem.W.fnOf x qual (defArgs st) (defBody st) (defScope st) .none kV doc pm an cdv ct ∧ K.lookup f = some ⟨oc, od, .func fd, osl⟩ ∧ PySem.W.codeIn K cdv qual = true
 kp : PySem.W.keepIn K (.ref f) = true
section
variable {P : Program} {w : World} {K : PySem.W.Frag} {mg : Str → Option Value} {base : Heap}
theorem Fun.ok {x qual : Str} {st : Stmt} {f : Addr} {fd : FuncData} {N ps : List Str} {k : Nat} {sp : Sp} (F : Fun K x qual st f fd) (S : FnScope N ps (defScope st)) (len : ∀ vs H Q E, sp vs H Q E → vs.length = ps.length)
    (hbody : ∀ (cdv : Value) (A : Around) (outer : List Env) (s : Shared) (H : Hp) (vs : List V) (Q : VK) (E : XK), Room k (A.deeper (envOfC qual (defScope st) s.heap.objs.size f cdv)) → sp vs H Q E →
      ∃ t, PSs (cxOf CX0 P w K mg base N qual (defScope st) f cdv A outer s H E).nox (defBody st) t ∧ t { nx := fun _ H' => Q .non H', rt := Q } (start N vs) H) : FnOk P w K mg base CX0 (k + 1) f fd ps sp := by
  obtain ⟨oc, od, kV, doc, pm, an, cdv, ct, osl, rfl, lk, hcd⟩ := F.ex
  refine Zb2 lk hcd S len fun A outer s H vs Q E hr hsp => ?_
  obtain ⟨t, h, q⟩ := hbody cdv A outer s H vs Q E hr hsp
  exact ⟨t, h.nox, q⟩
theorem Fun.binds {x qual : Str} {st : Stmt} {f : Addr} {fd : FuncData} {ps : List Str} (F : Fun K x qual st f fd)
  (h : ∀ (kV doc pm : Value) (an : Option Addr) (cdv ct : Value) (us : List Value), us.length = ps.length → bindArgs (PySem.W.fnOf x qual (defArgs st) (defBody st) (defScope st) .none kV doc pm an cdv ct) ⟨us, []⟩ = pure (ps.zip us)) : Binds K fd ps [] := by
 obtain ⟨oc, od, kV, doc, pm, an, cdv, ct, osl, rfl, lk, hcd⟩ := F.ex
 exact .all (h kV doc pm an cdv ct)
theorem Zdp {x qual : Str} {st : Stmt} {f : Addr} {oc : Value} {od an : Option Addr} {osl : Array (Option Value)} {kV doc pm cdv ct : Value} (l : K.lookup f = some ⟨oc, od, .func (PySem.W.fnOf x qual (defArgs st) (defBody st) (defScope st) .none kV doc pm an cdv ct), osl⟩)
  (c : PySem.W.codeIn K cdv qual = true) (k : PySem.W.keepIn K (.ref f) = true) : Fun K x qual st f (PySem.W.fnOf x qual (defArgs st) (defBody st) (defScope st) .none kV doc pm an cdv ct) := ⟨⟨oc, od, kV, doc, pm, an, cdv, ct, osl, rfl, l, c⟩, k⟩
end
theorem ZdR {A : Around} {k : Nat} (hr : Room k A) : A.units + 1 < cLine := Nat.lt_of_le_of_lt (Nat.add_le_add_left (by decide : 1 ≤ 64) _) hr.units
theorem small1000 {n : Nat} (h : n ≤ 1000) : n < sizeLine := Nat.lt_of_le_of_lt h (by decide)
section
variable {X : Cx}
theorem pv (i : Nat) {x : Str} {pos : Pos} (hN : X.N[i]? = some x := by rfl) (hv : Vis X.env.scope x := by first | exact Or.inl rfl | exact Or.inr (Or.inl rfl) | exact Or.inr (Or.inr rfl)) (hd : (x == ("__debug__" : Str)) = false := by decide)
  (hcd : (x == ("__classdict__" : Str)) = false := by decide) : PE X (.Name x pos) (tVar i) := JR hN hv hd hcd
end
theorem iteF {A B : Prop} (h : B) : if false = true then A else B := by
 rw [if_neg Bool.false_ne_true]
 exact h
theorem iteT {A B : Prop} (h : A) : if true = true then A else B := by
 rw [if_pos rfl]
 exact h
def Same (H H' : Hp) : Prop := ∀ b o, H b = some o → H' b = some o
theorem Same.refl (H : Hp) : Same H H := fun _ _ h => h
theorem Same.trans {H H1 H2 : Hp} (a : Same H H1) (b : Same H1 H2) : Same H H2 := fun c o h => b c o (a c o h)
theorem Same.free {H H' : Hp} (e : Same H H') {l : Addr} (h : H' l = Option.none) : H l = Option.none := by
 cases q : H l with
 | none => rfl
 | some o =>
  rw [e l o q] at h
  cases h
end L2
set_option Elab.async false
set_option linter.all false
set_option maxRecDepth 100000
namespace L2
open PySem PySem.Spec PyProof.Rows
section
variable {κ : Type} [DecidableEq κ]
def valV (kvs : List (κ × V)) (k : κ) : Option V := (kvs.find? fun kv => decide (kv.1 = k)).map (·.2)
def putK (kvs : List (κ × V)) (k : κ) (v : V) : List (κ × V) :=
 if (kvs.any fun kv => decide (kv.1 = k)) = true then kvs.map (fun kv => if kv.1 = k then (kv.1, v) else kv) else kvs ++ [(k, v)]
theorem ZV {p : κ × V} {r : List (κ × V)} {k : κ} (e : p.1 = k) : valV (p :: r) k = some p.2 := by simp [valV, List.find?_cons, e]
theorem ZW {p : κ × V} {r : List (κ × V)} {k : κ} (e : ¬ p.1 = k) : valV (p :: r) k = valV r k := by simp [valV, List.find?_cons, e]
theorem JK (k : κ) : ∀ kvs : List (κ × V), (kvs.any fun kv => decide (kv.1 = k)) = (valV kvs k).isSome
 | [] => rfl
 | p :: r => by
  rw [List.any_cons]
  by_cases e : p.1 = k
  ·simp only [ZV e, decide_eq_true e, Bool.true_or, Option.isSome_some]
  ·rw [ZW e, decide_eq_false e, Bool.false_or]; exact JK k r
theorem W9 (k j : κ) (y : V) : ∀ kvs : List (κ × V), valV (kvs.map fun kv => if kv.1 = k then (kv.1, y) else kv) j = (valV kvs j).map fun x => if j = k then y else x
 | [] => rfl
 | p :: r => by
  have ih := W9 k j y r
  rw [List.map_cons]
  by_cases h : p.1 = k
  ·rw [if_pos h]
   by_cases e : p.1 = j
   ·rw [ZV (p := (p.1, y)) e, ZV e, Option.map_some, if_pos (e.symm.trans h)]
   ·rw [ZW (p := (p.1, y)) e, ZW e, ih]
  ·rw [if_neg h]
   by_cases e : p.1 = j
   ·rw [ZV (p := p) e, ZV e, Option.map_some, if_neg (fun z => h (e.trans z))]
   ·rw [ZW (p := p) e, ZW e, ih]
theorem Wm (k j : κ) (y : V) : ∀ kvs : List (κ × V), valV kvs k = none → valV (kvs ++ [(k, y)]) j = if j = k then some y else valV kvs j
 | [], _ => by
  by_cases e : k = j
  ·rw [if_pos e.symm]; exact ZV (p := (k, y)) e
  ·rw [if_neg (fun z => e z.symm)]; exact ZW (p := (k, y)) e
 | p :: r, hn => by
  rw [List.cons_append]
  have hk : ¬ p.1 = k := fun z => by rw [ZV z] at hn; cases hn
  rw [ZW hk] at hn
  have ih := Wm k j y r hn
  by_cases e : p.1 = j
  ·rw [ZV e, ZV e, if_neg (fun z => hk (e.trans z))]
  ·rw [ZW e, ZW e, ih]
theorem Zbc (kvs : List (κ × V)) (k j : κ) (y : V) : valV (putK kvs k y) j = if j = k then some y else valV kvs j := by
 unfold putK
 by_cases a : (kvs.any fun kv => decide (kv.1 = k)) = true
 ·rw [if_pos a, W9]
  rw [JK] at a
  by_cases e : j = k
  ·obtain ⟨x, hx⟩ := Option.isSome_iff_exists.mp a
   rw [if_pos e, e, hx, Option.map_some, if_pos rfl]
  ·rw [if_neg e]
   cases valV kvs j with
   | none => rfl
   | some x => rw [Option.map_some, if_neg e]
 ·rw [if_neg a]
  refine Wm k j y kvs ?_
  rw [JK] at a
  cases q : valV kvs k with
  | none => rfl
  | some x => rw [q] at a; exact (a rfl).elim
theorem Uq (kvs : List (κ × V)) (k : κ) (v : V) : (putK kvs k v).length ≤ kvs.length + 1 := by
 unfold putK
 split
 ·rw [List.length_map]; omega
 ·rw [List.length_append, List.length_cons, List.length_nil]; omega
theorem RelO.getD {o : Option V} {u : Option Value} {d : V} {d' : Value} (r : RelO o u) (rd : RelV d d') : RelV (o.getD d) (u.getD d') := by
 cases o with
 | none => cases u with
  | none => exact rd
  | some _ => exact (show False from r).elim
 | some _ => cases u with
  | none => exact (show False from r).elim
  | some _ => exact r
theorem KV.val {kvs : List (κ × V)} {vs : List (κ × Value)} (r : KV kvs vs) (k : κ) : RelO (valV kvs k) (valueAt vs k) := by
 unfold KV at r
 induction r with
 | nil => exact True.intro
 | @cons p q ps qs h t ih =>
  obtain ⟨h1, h2⟩ := h
  by_cases e : p.1 = k
  ·have e' : q.1 = k := h1.symm.trans e
   have b : valueAt (q :: qs) k = some q.2 := by simp [valueAt, List.find?_cons, e']
   rw [ZV e, b]; exact h2
  ·have e' : ¬ q.1 = k := fun z => e (h1.trans z)
   have b : valueAt (q :: qs) k = valueAt qs k := by simp [valueAt, List.find?_cons, e']
   rw [ZW e, b]; exact ih
theorem KV.any {kvs : List (κ × V)} {vs : List (κ × Value)} (r : KV kvs vs) (k : κ) : (kvs.any fun kv => decide (kv.1 = k)) = vs.any fun kv => decide (kv.1 = k) := by
 unfold KV at r
 induction r with
 | nil => rfl
 | cons h t ih => rw [List.any_cons, List.any_cons, ih, h.1]
theorem KV.repl {kvs : List (κ × V)} {vs : List (κ × Value)} (r : KV kvs vs) (k : κ) {y : V} {u : Value} (ry : RelV y u) :
  KV (kvs.map fun kv => if kv.1 = k then (kv.1, y) else kv) (vs.map fun kv => if kv.1 = k then (kv.1, u) else kv) := by
 unfold KV at r ⊢
 induction r with
 | nil => exact .nil
 | @cons p q ps qs h t ih =>
  rw [List.map_cons, List.map_cons]
  refine .cons ?_ ih
  obtain ⟨h1, h2⟩ := h
  by_cases e : p.1 = k
  ·rw [if_pos e, if_pos (h1.symm.trans e)]; exact ⟨h1, ry⟩
  ·rw [if_neg e, if_neg (fun z => e (h1.trans z))]; exact ⟨h1, h2⟩
theorem KV.put {kvs : List (κ × V)} {vs : List (κ × Value)} (r : KV kvs vs) (k : κ) {y : V} {u : Value} (ry : RelV y u) : KV (putK kvs k y) (stored vs k u) := by
 unfold putK stored
 rw [r.any k]
 by_cases e : (vs.any fun kv => decide (kv.1 = k)) = true
 ·rw [if_pos e, if_pos e]; exact r.repl k ry
 ·rw [if_neg e, if_neg e]; exact Paired.snoc r ⟨rfl, ry⟩
theorem KV.length {kvs : List (κ × V)} {vs : List (κ × Value)} (r : KV kvs vs) : kvs.length = vs.length := Paired.length r
end
theorem ZbY {P : Program} {w : World} {k : Key} {u : Value} (r : RelV (kV k) u) : (mixKind P w).is k u = true := by
 cases k with
 | inl i => obtain ⟨t, e⟩ := (show ∃ t, u = Value.int i t from r); subst e; exact Ui P w i t
 | inr x => obtain ⟨t, e⟩ := (show ∃ t, u = Value.str x t from r); subst e; exact Uh P w x t
theorem Wy {P : Program} {w : World} : ∀ {ks : List Key} {us : List Value}, Vals (ks.map kV) us → ItemsAre (mixKind P w) ks us
 | [], _, r => by rw [List.map_nil] at r; cases r; exact .nil
 | k :: ks, _, r => by
  rw [List.map_cons] at r
  cases r with
  | cons h t => exact .cons (ZbY h) (Wy t)
abbrev KT (H : Hp) : List (List Key × V) → List (List Key × Addr × Value) → Prop := Paired fun p q => p.1 = q.1 ∧ H q.2.1 = some (.tup (p.1.map kV)) ∧ RelV p.2 q.2.2
theorem KT.val {H : Hp} {kvs : List (List Key × V)} {xs : List (List Key × Addr × Value)} (r : KT H kvs xs) (k : List Key) : RelO (valV kvs k) ((atKey xs k).map (·.2)) := by
 induction r with
 | nil => exact True.intro
 | @cons p q ps qs h t ih =>
  obtain ⟨h1, _, h2⟩ := h
  by_cases e : p.1 = k
  ·have e' : q.1 = k := h1.symm.trans e
   have b : atKey (q :: qs) k = some q.2 := by simp [atKey, List.find?_cons, e']
   rw [ZV e, b]; exact h2
  ·have e' : ¬ q.1 = k := fun z => e (h1.trans z)
   have b : atKey (q :: qs) k = atKey qs k := by simp [atKey, List.find?_cons, e']
   rw [ZW e, b]; exact ih
section
variable {P : Program} {w : World} {H : Hp} {h : Heap} {a : Addr}
theorem ZcG {u : HO} (ok : HOk P w H h) (e : Rd H a u) : ObjOk P w H h a u := e.ok ok
theorem ZcN {kvs : List (Key × V)} (ok : HOk P w H h) (e : Rd H a (.dK kvs)) : kvs.length ≤ sizeLine ∧ (a == sysModules) = false ∧ ∃ vs, KV kvs vs ∧ h.DictOf (mixKind P w) a vs :=
 show ObjOk P w H h a (.dK kvs) from ZcG ok e
theorem ZbX {ks : List Key} (ok : HOk P w H h) (e : H a = some (.tup (ks.map kV))) : (tupleKind (mixKind P w)).is h ks a := by
 obtain ⟨_, its, r, ⟨o, h1, h2, n, h3⟩, _⟩ := (show ObjOk P w H h a (.tup (ks.map kV)) from ok a _ e)
 exact ⟨o, its.toArray, n, h1, h2, h3, by simpa using Wy r⟩
theorem ZcM {kvs : List (List Key × V)} (ok : HOk P w H h) (e : Rd H a (.dT kvs)) : kvs.length ≤ sizeLine ∧ (a == sysModules) = false ∧
  ∃ xs, KT H kvs xs ∧ h.DictOfH (tupleKind (mixKind P w)) a xs := by
 obtain ⟨z, y, xs, r, o, es, ep, h1, h2, h3, h4, h5⟩ := (show ObjOk P w H h a (.dT kvs) from ZcG ok e)
 refine ⟨z, y, xs, r, o, es, ep, h1, h2, h3, h4, fun x hx => ?_, h5⟩
 have all : ∀ {l : List (List Key × V)} {m : List (List Key × Addr × Value)}, KT H l m → ∀ x ∈ m, (tupleKind (mixKind P w)).is h x.1 x.2.1 := by
  intro l m q
  induction q with
  | nil => intro x hx; exact nomatch hx
  | @cons p q ps qs hq t ih =>
   intro x hx
   rcases List.mem_cons.mp hx with e | hx
   ·subst e
    exact ZbX ok (by rw [← hq.1]; exact hq.2.1)
   ·exact ih x hx
 exact all r x hx
end
def DGet (H : Hp) (a : Addr) (y : V) (r : Option V) : Prop :=
 (∃ kvs k, Rd H a (.dK kvs) ∧ y = kV k ∧ r = valV kvs k) ∨ ∃ kvs k b, Rd H a (.dT kvs) ∧ y = .ref b ∧ H b = some (.tup (k.map kV)) ∧ r = valV kvs k
theorem DGet.k {H : Hp} {a : Addr} {kvs : List (Key × V)} {k : Key} (e : H a = some (.dK kvs)) : DGet H a (kV k) (valV kvs k) := .inl ⟨kvs, k, .inl e, rfl, rfl⟩
section
variable {X : Cx} {pins : List (Addr × Obj)} {σ : St} {H : Hp} {s : Shared} {a : Addr} {y v : V} {u r : Value} {o : Option V} {A : Around} {E : Value → Shared → Prop}
theorem Inv.big (I : Inv X pins σ H s) : sysModules < s.heap.objs.size := by
 have h : mainGlobals < s.heap.objs.size := (I.mod.glob.keeps I.bk).lt
 exact Nat.lt_trans (by decide) h
theorem Zdu {P : Program} {w : World} {H' : Hp} {h' : Heap} {kvs : List (Key × V)} {vs : List (Key × Value)} (z : kvs.length ≤ sizeLine) (hd : (a == sysModules) = false) (rel : KV kvs vs) (dd : h'.DictOf (mixKind P w) a vs) :
  ObjOk P w H' h' a (.dK kvs) := ⟨z, hd, vs, rel, dd⟩
end
theorem Zb7 {P : Program} {w : World} {H : Hp} (h : Heap) (hb : sysModules < h.objs.size) : ObjOk P w H (h.push { cls := .type "dict", data := .dict #[] }) h.objs.size (.dK []) :=
 ⟨Nat.zero_le _, beq_eq_false_iff_ne.mpr (Ne.symm (Nat.ne_of_lt hb)), [], .nil, Heap.DictOf.new h⟩
def tDNewK : TE := fun _ H Q => ∀ p, H p = none → Q (.ref p) (upd H p (.dK []))
section
variable {X : Cx} {pos : Pos}
theorem Ue : PE X (.Dict [] [] pos) tDNewK := fun pins s σ H Q I h =>
 wpAny_Dict_empty ⟨.ref s.heap.objs.size, _, I.laid (a := s.heap.objs.size) (o := .dK []) (t' := s.toks) (fun _ _ q => Heap.get?_push_of_some _ q) (Nat.le_refl _) (Zb7 s.heap I.big), rfl, h _ (I.hok.fresh (Nat.le_refl _))⟩
end
def mergeK (kvs more : List (Key × V)) : List (Key × V) := more.foldl (fun acc kv => putK acc kv.1 kv.2) kvs
theorem KV.merge : ∀ {more : List (Key × V)} {rs : List (Key × Value)} {kvs : List (Key × V)} {vs : List (Key × Value)}, KV more rs → KV kvs vs → KV (mergeK kvs more) (merged vs rs) := by
 intro more rs kvs vs r
 unfold KV at r
 induction r generalizing kvs vs with
 | nil => intro q; exact q
 | @cons p q ps qs h t ih =>
  intro r0
  have e : KV (putK kvs p.1 p.2) (stored vs q.1 q.2) := by
   have := r0.put p.1 h.2
   rw [← h.1]; exact this
  exact ih e
theorem Y2 : ∀ (more kvs : List (Key × V)), (mergeK kvs more).length ≤ kvs.length + more.length
 | [], kvs => by show kvs.length ≤ kvs.length + 0; omega
 | p :: r, kvs => by
  have h1 := Y2 r (putK kvs p.1 p.2)
  have h2 := Uq kvs p.1 p.2
  show (mergeK (putK kvs p.1 p.2) r).length ≤ _
  rw [List.length_cons]; omega
structure M1 (X : Cx) (o : Expr) (m : Str) (apos : Pos) (e : Expr) (cpos : Pos) : Prop where
 base : attributeBase o m X.env (eval o X.env) = eval o X.env
 few : ((backTo cpos (starEach [e] X.env)).all (fun x => !x.1) && (backToKw cpos (keywordEach [] X.env)).all (fun x => x.1.isSome)
  && decide (([e] : List Expr).length + ([] : List Keyword).length + (if ([] : List Keyword).isEmpty then 0 else 1) < 30)) = true
 line : (apos.endLine == cpos.line) = true
 trees : backTo cpos (starEach [e] X.env) = [(false, eval e X.env)]
structure M2 (X : Cx) (o : Expr) (m : Str) (apos : Pos) (e f : Expr) (cpos : Pos) : Prop where
 base : attributeBase o m X.env (eval o X.env) = eval o X.env
 few : ((backTo cpos (starEach [e, f] X.env)).all (fun x => !x.1) && (backToKw cpos (keywordEach [] X.env)).all (fun x => x.1.isSome)
  && decide (([e, f] : List Expr).length + ([] : List Keyword).length + (if ([] : List Keyword).isEmpty then 0 else 1) < 30)) = true
 line : (apos.endLine == cpos.line) = true
 trees : backTo cpos (starEach [e, f] X.env) = [(false, eval e X.env), (false, eval f X.env)]
def IsD (H : Hp) (a : Addr) : Prop := (∃ kvs, Rd H a (.dK kvs)) ∨ ∃ kvs, Rd H a (.dT kvs)
theorem Zdn {X : Cx} {pins : List (Addr × Obj)} {σ : St} {H : Hp} {s : Shared} {a : Addr} (I : Inv X pins σ H s) (d : IsD H a) :
  s.TypeIs (.ref a) "dict" ∧ (∀ b, Value.ref a = .ref b → ∃ ob, s.heap.get? b = some ob ∧ ob.dict = none) ∧ (a == sysModules) = false := by
 rcases d with ⟨kvs, e⟩ | ⟨kvs, e⟩
 ·obtain ⟨_, hd, vs, _, dd⟩ := ZcN I.hok e
  refine ⟨dd.typeIs, fun b q => ?_, hd⟩
  cases q
  obtain ⟨ob, _, _, h1, h2, _⟩ := dd
  exact ⟨ob, h1, h2.2.1⟩
 ·obtain ⟨_, hd, xs, _, dd⟩ := ZcM I.hok e
  refine ⟨dd.typeIs, fun b q => ?_, hd⟩
  cases q
  obtain ⟨ob, _, _, h1, h2, _⟩ := dd
  exact ⟨ob, h1, h2.2.1⟩
section
variable {X : Cx} {pins : List (Addr × Obj)} {σ : St} {H : Hp} {s : Shared} {a : Addr} {y d : V} {u r : Value} {o : Option V} {A : Around} {E : Value → Shared → Prop}
theorem Zdv {Q : Value → Shared → Prop} (hu : A.units + 1 < cLine) (I : Inv X pins σ H s) (g : DGet H a y o) (ry : RelV y u) (h : ∀ w' s', Inv X pins σ H s' → RelV (o.getD .non) w' → Q w' s') :
  wpAny (model X.prog X.w) A (call (.builtin "dict.get") [.ref a, u]) Q E s := by
 rcases g with ⟨kvs, k, e, ey, l⟩ | ⟨kvs, k, b, e, ey, eb, l⟩
 ·subst ey
  obtain ⟨z, hd, vs, rel, dd⟩ := ZcN I.hok e
  refine call_meetsIn PySem.F.slot_dict_get dd.typeIs PySem.F.entry_dict_get (PySem.F.args_dict_get_2 _ _) (meets_dict_get (mixKind X.prog X.w) a (ZbY ry) hd) ⟨_, dd.mapOf, h _ _ (I.tok _) ?_⟩
  rw [l]
  exact (rel.val k).getD rfl
 ·subst ey
  cases (show u = Value.ref b from ry)
  obtain ⟨z, hd, xs, rel, dd⟩ := ZcM I.hok e
  refine call_meetsIn PySem.F.slot_dict_get dd.typeIs PySem.F.entry_dict_get (PySem.F.args_dict_get_2 _ _) (meetsH_dict_get (tupleKind (mixKind X.prog X.w)) a b hd) ⟨tupleKind_room_in1 hu, k, xs, ZbX I.hok eb, dd, h _ _ (I.tok _) ?_⟩
  rw [l]
  exact (rel.val k).getD rfl
end
def tDGet1 (td ty : TE) : TE := fun σ H Q => td σ H fun x H1 => ∃ a, x = .ref a ∧ IsD H1 a ∧ ty σ H1 fun y H2 => ∃ o, DGet H2 a y o ∧ Q (o.getD .non) H2
section
variable {X : Cx} {o e f : Expr} {apos cpos : Pos} {td ty tx : TE}
theorem Zbt (hu : X.A.units + 1 < cLine) (ho : PE X o td) (he : PE X e ty) (m : M1 X o "get" apos e cpos) : PE X (.Call (.Attribute o "get" apos) [e] [] cpos) (tDGet1 td ty) := by
 intro pins s σ H Q I h
 refine wpAny_Call_method m.base m.few m.line PySem.F.plainAttrs_dict PySem.F.slot_dict_get PySem.F.type_dict_get (thn (ho pins s σ H _ I h) fun u s1 ⟨x, H1, I1, rx, a, ex, d, q1⟩ => ?_)
 subst ex
 obtain rfl : u = Value.ref a := rx
 obtain ⟨t1, t2, _⟩ := Zdn I1 d
 refine ⟨t1, t2, ?_⟩
 rw [m.trees]
 refine Calls.callWith_builtin rfl (Calls.evalArgs_plain (Calls.spliced_cons (thn (he pins s1 σ H1 _ I1 q1) fun iv s2 ⟨y, H2, I2, ry, ov, g, q2⟩ => Calls.spliced_nil ?_)))
 exact Zdv hu I2 g ry fun w' s3 I3 rw' => ⟨_, H2, I3, rw', q2⟩
end
end L2
namespace L2
open PySem PySem.Spec PyProof.Rows
end L2
set_option Elab.async false
set_option linter.all false
set_option maxRecDepth 100000
namespace L2
open PySem PySem.Spec PyProof.Rows
def clOf (scope : Scope) (env : Env) : List (Str × Addr) := scope.names.foldl (fun cs y => if y.2 == .free then (y.1, (env.cells.lookup y.1).getD 0) :: cs else cs) []
theorem Yc {scope : Scope} {env : Env} (h : ∀ y ∈ scope.names, y.2 = .free → ∃ c, env.cells.lookup y.1 = some c) : closureFor scope env = pure (clOf scope env) := by
 unfold closureFor clOf
 have key : ∀ (l : List (Str × NameKind)) (cs : List (Str × Addr)), (∀ y ∈ l, y.2 = .free → ∃ c, env.cells.lookup y.1 = some c) →
   (forIn l cs (fun x r => match x with | (name, kind) => if (kind == NameKind.free) = true then do let c ← cellOf env name; pure (ForInStep.yield ((name, c) :: r)) else pure (ForInStep.yield r)) : Sem (List (Str × Addr)))
    = pure (l.foldl (fun cs y => if y.2 == .free then (y.1, (env.cells.lookup y.1).getD 0) :: cs else cs) cs) := by
  intro l
  induction l with
  | nil => intro cs _; rfl
  | cons y l ih =>
   intro cs hl
   obtain ⟨n, k⟩ := y
   rw [List.forIn_cons, List.foldl_cons]
   by_cases hk : k = .free
   ·subst hk
    obtain ⟨c, hc⟩ := hl (n, .free) List.mem_cons_self rfl
    have hc' : env.cells.lookup n = some c := hc
    have e1 : cellOf env n = pure c := by unfold cellOf; rw [hc']
    simp only [beq_self_eq_true, if_true, e1, hc', Option.getD_some, pure_bind]
    exact ih _ fun y hy => hl y (List.mem_cons_of_mem _ hy)
   ·have hb : (k == NameKind.free) = false := by simpa using hk
    simp only [hb, Bool.false_eq_true, if_false, pure_bind]
    exact ih _ fun y hy => hl y (List.mem_cons_of_mem _ hy)
 simp only [key scope.names [] h, pure_bind]
 all_goals rfl
theorem Yy {scope : Scope} {env : Env} {x : Str} {c : Addr} (h : (clOf scope env).lookup x = some c) : c = (env.cells.lookup x).getD 0 ∧ (x, NameKind.free) ∈ scope.names := by
 unfold clOf at h
 have key : ∀ (l : List (Str × NameKind)) (cs : List (Str × Addr)), (l.foldl (fun cs y => if y.2 == .free then (y.1, (env.cells.lookup y.1).getD 0) :: cs else cs) cs).lookup x = some c →
   (c = (env.cells.lookup x).getD 0 ∧ (x, NameKind.free) ∈ l) ∨ cs.lookup x = some c := by
  intro l
  induction l with
  | nil => intro cs h; exact .inr h
  | cons y l ih =>
   intro cs h
   obtain ⟨n, k⟩ := y
   rw [List.foldl_cons] at h
   rcases ih _ h with ⟨h1, h2⟩ | h'
   ·exact .inl ⟨h1, List.mem_cons_of_mem _ h2⟩
   ·by_cases hk : k = .free
    ·subst hk
     simp only [beq_self_eq_true, if_true] at h'
     rw [List.lookup_cons] at h'
     cases hx : x == n with
     | true =>
      rw [hx] at h'
      have e : x = n := by simpa using hx
      subst e
      have e' : (env.cells.lookup x).getD 0 = c := Option.some.inj h'
      exact .inl ⟨e'.symm, List.mem_cons_self⟩
     | false => rw [hx] at h'; exact .inr h'
    ·have hb : (k == NameKind.free) = false := by simpa using hk
     simp only [hb, Bool.false_eq_true, if_false] at h'
     exact .inr h'
 rcases key _ _ h with h | h
 ·exact h
 ·simp at h
theorem Wd {scope : Scope} {env : Env} {x : Str} (h : (x, NameKind.free) ∈ scope.names) : ∃ c, (clOf scope env).lookup x = some c := by
 unfold clOf
 have key : ∀ (l : List (Str × NameKind)) (cs : List (Str × Addr)), ((x, NameKind.free) ∈ l ∨ ∃ c, cs.lookup x = some c) → ∃ c, (l.foldl (fun cs y => if y.2 == .free then (y.1, (env.cells.lookup y.1).getD 0) :: cs else cs) cs).lookup x = some c := by
  intro l
  induction l with
  | nil =>
   intro cs h
   rcases h with h | h
   ·simp at h
   ·exact h
  | cons y l ih =>
   intro cs h
   obtain ⟨n, k⟩ := y
   rw [List.foldl_cons]
   refine ih _ ?_
   by_cases hk : k = .free
   ·subst hk
    simp only [beq_self_eq_true, if_true]
    rw [List.lookup_cons]
    cases hx : x == n with
    | true => exact .inr ⟨_, rfl⟩
    | false =>
     rcases h with h | h
     ·rcases List.mem_cons.mp h with e | h
      ·have e1 : x = n := congrArg Prod.fst e
       simp [e1] at hx
      ·exact .inl h
     ·exact .inr h
   ·have hb : (k == NameKind.free) = false := by simpa using hk
    simp only [hb, Bool.false_eq_true, if_false]
    rcases h with h | h
    ·rcases List.mem_cons.mp h with e | h
     ·exact absurd (congrArg Prod.snd e).symm hk
     ·exact .inl h
    ·exact .inr h
 exact key _ _ (.inl h)
def rl (env : Env) (y : Str × NameKind) : Str × NameKind := if (y.2 == NameKind.free && env.scope.kind == .function && env.kindOf y.1 == some .cell) then (y.1, NameKind.cell) else y
theorem Zbj (env : Env) (y : Str × NameKind) : (rl env y).1 = y.1 := by unfold rl; split <;> rfl
theorem Zcg {env : Env} {y : Str × NameKind} (h : y.2 = .free) : (rl env y).2 = .cell ∨ (rl env y).2 = .free := by
 unfold rl; split
 ·exact .inl rfl
 ·exact .inr h
theorem ZcV {env : Env} {y : Str × NameKind} (h : y.2 ≠ .free) : rl env y = y := by
 have hb : (y.2 == NameKind.free) = false := by simpa using h
 unfold rl; rw [hb]; simp
theorem Y1 (scope : Scope) (env : Env) : (relabel scope env).names = scope.names.map (rl env) := rfl
theorem WO {scope : Scope} {env : Env} {x : Str} (hc : ∀ y ∈ scope.names, y.2 ≠ .cell) (h : (relabel scope env).names.lookup x = some .cell ∨ (relabel scope env).names.lookup x = some .free) : (x, NameKind.free) ∈ scope.names := by
 rw [Y1] at h
 have key : ∀ (l : List (Str × NameKind)), (∀ y ∈ l, y.2 ≠ .cell) → (∃ k, (k = NameKind.cell ∨ k = .free) ∧ (l.map (rl env)).lookup x = some k) → (x, NameKind.free) ∈ l := by
  intro l
  induction l with
  | nil => rintro _ ⟨k, _, h⟩; simp at h
  | cons y l ih =>
   rintro hl ⟨k', hk', h⟩
   obtain ⟨n, k⟩ := y
   have e1 : (rl env (n, k)) = (n, (rl env (n, k)).2) := Prod.ext (Zbj env _) rfl
   rw [List.map_cons, e1, List.lookup_cons] at h
   cases hx : x == n with
   | true =>
    have e : x = n := by simpa using hx
    subst e
    by_cases hk : k = .free
    ·subst hk; exact List.mem_cons_self
    ·rw [hx] at h
     rw [ZcV (env := env) (y := (x, k)) hk] at h
     have e : k = k' := Option.some.inj h
     subst e
     rcases hk' with z | z
     ·exact absurd z (hl _ List.mem_cons_self)
     ·exact absurd z hk
   | false =>
    rw [hx] at h
    exact List.mem_cons_of_mem _ (ih (fun y hy => hl y (List.mem_cons_of_mem _ hy)) ⟨k', hk', h⟩)
 refine key _ hc ?_
 rcases h with h | h
 ·exact ⟨_, .inl rfl, h⟩
 ·exact ⟨_, .inr rfl, h⟩
theorem Y0 {scope : Scope} {env : Env} {x : Str} (h : scope.names.lookup x = some .free) : (relabel scope env).names.lookup x = some .cell ∨ (relabel scope env).names.lookup x = some .free := by
 rw [Y1]
 have key : ∀ (l : List (Str × NameKind)), l.lookup x = some .free → (l.map (rl env)).lookup x = some .cell ∨ (l.map (rl env)).lookup x = some .free := by
  intro l
  induction l with
  | nil => intro h; simp at h
  | cons y l ih =>
   intro h
   obtain ⟨n, k⟩ := y
   have e1 : (rl env (n, k)) = (n, (rl env (n, k)).2) := Prod.ext (Zbj env _) rfl
   rw [List.map_cons, e1, List.lookup_cons]
   rw [List.lookup_cons] at h
   cases hx : x == n with
   | true =>
    rw [hx] at h
    have e : k = .free := Option.some.inj h
    rcases Zcg (env := env) (y := (n, k)) e with z | z
    ·exact .inl (congrArg some z)
    ·exact .inr (congrArg some z)
   | false => rw [hx] at h; exact ih h
 exact key _ h
def blk (X : Cx) (N' : List Str) (scope : Scope) (C : Addr) (s2 : Shared) (H2 : Hp) (fp : List Addr) : Cx :=
 { X with N := N', s₀ := s2, H₀ := H2, env := compEnvC scope (clOf scope X.env) C X.env, outer := X.stack, stack := X.stack, ex := fp, fn := fun _ => false, pn := [], xe := fun _ _ => False }
def compOk (so si : Scope) (N N' : List Str) (ts : Nat) (cap : List Nat) : Bool :=
 decide (si.kind = .function) && si.names.all (fun y => y.2 != .cell) && si.names.all (fun y => y.2 != .local || si.names.lookup y.1 == some .local)
 && si.names.all (fun y => y.2 != .free || so.names.lookup y.1 == some .cell || so.names.lookup y.1 == some .free)
 && decide N'.Nodup && decide (N'.length = ts + cap.length)
 && (List.range cap.length).all (fun k => (N'[ts + k]? == (cap[k]?.bind fun j => N[j]?)) && (N'[ts + k]?.isSome) && (N'[ts + k]?.all fun x => so.names.lookup x != some .local && si.names.lookup x == some .free))
def capSt (ts : Nat) (cap : List Nat) (σ : St) : St := List.replicate ts none ++ cap.map fun j => (σ[j]?).join
structure CompS (X : Cx) (N' : List Str) (ts : Nat) (cap : List Nat) (scope : Scope) : Prop where
 kind : scope.kind = .function
 nocell : ∀ y ∈ scope.names, y.2 ≠ .cell
 names : ∀ y ∈ scope.names, y.2 = .local → scope.names.lookup y.1 = some .local
 free : ∀ y ∈ scope.names, y.2 = .free → X.env.kindOf y.1 = some .cell ∨ X.env.kindOf y.1 = some .free
 nd : N'.Nodup
 len : N'.length = ts + cap.length
 capd : ∀ k j, cap[k]? = some j → ∃ x, N'[ts + k]? = some x ∧ X.N[j]? = some x ∧ X.env.kindOf x ≠ some .local ∧ scope.names.lookup x = some .free
theorem Y7 {x : Str} {k : NameKind} : ∀ {l : List (Str × NameKind)}, l.lookup x = some k → (x, k) ∈ l
 | [], h => by simp at h
 | (n, j) :: l, h => by
  rw [List.lookup_cons] at h
  cases hx : x == n with
  | true =>
   rw [hx] at h
   have e : x = n := by simpa using hx
   have e' : j = k := Option.some.inj h
   subst e e'
   exact List.mem_cons_self
  | false => rw [hx] at h; exact List.mem_cons_of_mem _ (Y7 h)
theorem Wc {X : Cx} {N' : List Str} {ts : Nat} {cap : List Nat} {scope : Scope} (h : compOk X.env.scope scope X.N N' ts cap = true) : CompS X N' ts cap scope := by
 unfold compOk at h
 simp only [Bool.and_eq_true] at h
 obtain ⟨⟨⟨⟨⟨⟨h1, h2⟩, h3⟩, h4⟩, h5⟩, h6⟩, h7⟩ := h
 refine ⟨of_decide_eq_true h1, fun y hy z => ?_, fun y hy z => ?_, fun y hy z => ?_, of_decide_eq_true h5, of_decide_eq_true h6, fun k j hk => ?_⟩
 ·have q := List.all_eq_true.mp h2 y hy
  rw [z] at q; exact absurd q (by decide)
 ·have q := List.all_eq_true.mp h3 y hy
  rw [z] at q
  simpa using q
 ·have q := List.all_eq_true.mp h4 y hy
  rw [z] at q
  simpa [Env.kindOf] using q
 ·have hlt : k < cap.length := (List.getElem?_eq_some_iff.mp hk).1
  have q := List.all_eq_true.mp h7 k (List.mem_range.mpr hlt)
  simp only [Bool.and_eq_true] at q
  obtain ⟨⟨q1, q2⟩, q3⟩ := q
  obtain ⟨x, hx⟩ := Option.isSome_iff_exists.mp q2
  rw [hx] at q1 q3
  rw [hk] at q1
  have e1 : some x = X.N[j]? := by simpa using q1
  have q3' : (X.env.scope.names.lookup x != some .local && scope.names.lookup x == some .free) = true := q3
  simp only [Bool.and_eq_true] at q3'
  refine ⟨x, hx, e1.symm, ?_, by simpa using q3'.2⟩
  have z := q3'.1
  intro e
  have e' : X.env.scope.names.lookup x = some .local := e
  rw [e'] at z
  exact absurd z (by decide)
section
variable {X : Cx} {pins : List (Addr × Obj)} {σ : St} {H : Hp} {s : Shared}
theorem Zar {N' : List Str} {ts : Nat} {cap : List Nat} {scope : Scope} {fp : List Addr} {h' : Heap} {t' : Nat} {m : Str → Option Value} {C : Addr} (S : CompS X N' ts cap scope) (I : Inv X pins σ H s) (hf : ∀ b ∈ fp, FpOk X pins H b)
  (ho : ∀ b ∈ fp, ∃ o, s.heap.get? b = some o) (hC : s.heap.objs.size ≤ C) (hn : h'.Ns C m) (k : ∀ b o, s.heap.get? b = some o → h'.get? b = some o) :
  Inv (blk X N' scope C s H fp) [] (capSt ts cap σ) H { s with heap := h', toks := t' } := by
 have sub : ∀ x c, (clOf scope X.env).lookup x = some c → X.env.cells.lookup x = some c := fun x c e => by
  obtain ⟨e1, e2⟩ := Yy e
  obtain ⟨c', hc'⟩ := I.ok.has x (S.free _ e2 rfl)
  rw [hc'] at e1
  rw [hc', e1]; rfl
 have neC : ∀ b o, s.heap.get? b = some o → b ≠ C := fun b o e => Nat.ne_of_lt (Nat.lt_of_lt_of_le (Heap.lt_size e) hC)
 refine ⟨⟨I.ok.mod, ?_, I.ok.glob, I.ok.blt, hC, fun x y c e1 e2 => I.ok.inj x y c (sub x c e1) (sub y c e2), fun x hx => ?_, fun x c z _ => absurd z Bool.false_ne_true, I.ok.hd, I.ok.frames, .inl rfl, fun b hb => ?_, fun b o e => I.bs b o e, Nat.le_trans I.ok.bsz I.sz, fun b o e hb => ?_, fun b hb => ?_, I.stack, I.stkFree⟩,
  rfl, I.bare, Un.kept k, ⟨m, hn, fun i x v e1 e2 e3 => ?_⟩, fun x c e => ?_, I.hok.fresh hC, fun x c e => I.freeC x c (sub x c e), fun p hp => absurd (show p ∈ ([] : List (Addr × Obj)) from hp) (by simp), I.hok.kept k, ?_⟩
 ·show (relabel scope X.env).kind = .function
  exact S.kind
 ·exact Wd (WO S.nocell hx)
 ·obtain ⟨o, e⟩ := ho b hb
  refine ⟨neC b o e, fun x c ec => ?_⟩
  exact (hf b hb).2.2.2.2.1 x c (sub x c ec)
 ·obtain ⟨e1, e2⟩ := I.bs b o e
  obtain ⟨f0, f1, f2, f3, f4, f5⟩ := hf b hb
  rcases f3 with z | z
  ·exact I.ok.noex b o e z
  ·exact absurd (Nat.lt_of_lt_of_le (Heap.lt_size (I.ok.bs b o e).1) z) (Nat.lt_irrefl _)
 ·intro z
  obtain ⟨f0, f1, f2, f3, f4, f5⟩ := hf b hb
  rcases List.mem_cons.mp (I.stkSub b z) with q | q
  ·exact f1 q
  ·exact f2 q
 ·-- the names' values
  have hlen : ¬ i < ts := fun hlt => by
   unfold capSt at e2
   rw [List.getElem?_append_left (by simpa using hlt), List.getElem?_replicate] at e2
   split at e2 <;> cases e2
  have e2' : (cap.map fun j => (σ[j]?).join)[i - ts]? = some (some v) := by
   unfold capSt at e2
   rw [List.getElem?_append_right (by simpa using hlen), List.length_replicate] at e2
   exact e2
  rw [List.getElem?_map] at e2'
  cases hc : cap[i - ts]? with
  | none => rw [hc] at e2'; cases e2'
  | some j =>
   rw [hc] at e2'
   have e3' : (σ[j]?).join = some v := Option.some.inj e2'
   have e4 : σ[j]? = some (some v) := by
    cases q : σ[j]? with
    | none => rw [q] at e3'; cases e3'
    | some o => rw [q] at e3'; exact congrArg some e3'
   obtain ⟨x', n1, n2, n3, n4⟩ := S.capd _ _ hc
   have ei : ts + (i - ts) = i := by omega
   rw [ei] at n1
   have ex : x = x' := by
    have e1' : N'[i]? = some x := e1
    rw [n1] at e1'; exact (Option.some.inj e1').symm
   subst ex
   obtain ⟨mX, hnX, hl⟩ := I.loc
   have vis : Vis X.env.scope x := by
    rcases S.free _ (Y7 n4) rfl with z | z
    ·exact .inr (.inl z)
    ·exact .inr (.inr z)
   obtain ⟨u, ru, lk⟩ := hl j x v n2 e4 vis
   refine ⟨u, ru, ?_⟩
   rcases lk with ⟨z, _⟩ | ⟨z, c, ec, hcell⟩
   ·exact absurd z n3
   ·obtain ⟨c', hc'⟩ := Wd (env := X.env) (Y7 n4)
    have := sub x c' hc'
    rw [ec] at this
    cases this
    refine .inr ⟨?_, c, hc', hcell.keeps k⟩
    exact Y0 n4
 ·obtain ⟨v, z⟩ := I.cell x c (sub x c e)
  exact ⟨v, z.keeps k⟩
 ·show (capSt ts cap σ).length = N'.length
  unfold capSt
  rw [List.length_append, List.length_replicate, List.length_map, S.len]
end
def AccAt (h : Heap) (D : Addr) (ys : List V) : Prop := ys.length ≤ sizeLine ∧ ∃ (its : List Value) (n : Nat), Vals ys its ∧ h.get? D = some { cls := .type "list", data := .seq its.toArray n }
theorem AccAt.keep {h h' : Heap} {D : Addr} {ys : List V} (a : AccAt h D ys) (k : ∀ o, h.get? D = some o → h'.get? D = some o) : AccAt h' D ys := by
 obtain ⟨z, its, n, r, e⟩ := a
 exact ⟨z, its, n, r, k _ e⟩
abbrev TC := List V → St → Hp → (List V → St → Hp → Prop) → Prop
def PIn (Y : Cx) (D : Addr) (m : Sem PySem.Fin → Sem PySem.Fin) (t : TC) : Prop :=
 ∀ (pins : List (Addr × Obj)) (s : Shared) (σ : St) (H : Hp) (ys : List V) (Q : List V → St → Hp → Prop) (k : Sem PySem.Fin) (R : PySem.Fin → Shared → Prop), Inv Y pins σ H s → FpOk Y pins H D → AccAt s.heap D ys → t ys σ H Q →
  (∀ s' ys' σ' H', Inv Y pins σ' H' s' → FpOk Y pins H' D → AccAt s'.heap D ys' → Q ys' σ' H' → wpAny (model Y.prog Y.w) Y.A k R (fun _ _ => False) s') → wpAny (model Y.prog Y.w) Y.A (m k) R (fun _ _ => False) s
def testsOf (ifs : List Expr) (env : Env) : Sem Bool := forIn ifs true fun c r => if r = true then do let ok ← isTrue c env (eval c env); pure (ForInStep.yield ok) else pure (ForInStep.yield r)
def PTs (Y : Cx) (ifs : List Expr) (t : TT) : Prop :=
 ∀ (pins : List (Addr × Obj)) (s : Shared) (σ : St) (H : Hp) (Q : Bool → Hp → Prop), Inv Y pins σ H s → t σ H Q → wpAny (model Y.prog Y.w) Y.A (testsOf ifs Y.env) (TP Y pins σ Q) Y.xe s
def tTrue : TT := fun _ H Q => Q true H
section
variable {Y : Cx} {D : Addr}
theorem ZQ : PTs Y [] tTrue := fun pins s σ H Q I h => wpAny_tests_nil ⟨H, I, h⟩
theorem Jb {c : Expr} {t : TT} (hc : PT Y c t) : PTs Y [c] t := fun pins s σ H Q I h => wpAny_tests_one (hc pins s σ H Q I h)
def tEmit (te : TE) : TC := fun ys σ H Q => te σ H fun v H1 => ys.length < sizeLine ∧ Q (ys ++ [v]) σ H1
theorem AccAt.nocell {h : Heap} {ys : List V} (a : AccAt h D ys) : ∀ b ∈ [D], ∃ o, h.get? b = some o ∧ ∀ v, o.data ≠ .cell v := fun b hb => by
 have e : b = D := by simpa using hb
 subst e
 obtain ⟨z, its, n, r, e⟩ := a
 exact ⟨_, e, fun v z => by
  have z' : Data.seq its.toArray n = Data.cell v := z
  cases z'⟩
theorem AccAt.through {h : Heap} {pins : List (Addr × Obj)} {σ' : St} {H' : Hp} {s' : Shared} {ys : List V} (a : AccAt h D ys) (I : Inv Y (pins ++ pinsAt [D] h) σ' H' s') : AccAt s'.heap D ys ∧ H' D = none := by
 obtain ⟨z, its, n, r, e⟩ := a
 have q := I.pin (D, _) (List.mem_append_right _ (List.mem_append_right _ (ZR (List.mem_singleton.mpr rfl) e)))
 exact ⟨⟨z, its, n, r, q.1⟩, q.2.1⟩
theorem ZE {elt : Expr} {te : TE} (hx : Y.xe = fun _ _ => False) (he : PE Y elt te) :
    PIn Y D (fun k => (do let _ ← call (.builtin "list.append") [.ref D, ← eval elt Y.env]) >>= fun _ => k) (tEmit te) := by
  intro pins s σ H ys Q k R I f a h hk
  refine wpAny_bind (wpAny_mono (Q := fun _ s' => ∃ ys' σ' H', Inv Y pins σ' H' s' ∧ FpOk Y pins H' D ∧ AccAt s'.heap D ys' ∧ Q ys' σ' H') ?_ (fun _ s' ⟨ys', σ', H', q1, q2, q3, q4⟩ => hk s' ys' σ' H' q1 q2 q3 q4) fun _ _ z => z)
  have I' := I.pinned (fp := [D]) (fun b hb => by have e : b = D := by simpa using hb
                                                  subst e; exact f) a.nocell
  refine wpAny_bind (wpAny_mono (he _ s σ H _ I' h) (fun u s1 ⟨v, H1, I1, ru, hz, q⟩ => ?_) fun e s1 z => by rw [hx] at z; exact z)
  obtain ⟨a1, n1⟩ := a.through I1
  have f1 : FpOk Y pins H1 D := ⟨n1, f.2⟩
  obtain ⟨z, its, n, r, e⟩ := a1
  have hl := r.length
  refine wpAny_bind (call_meets F.slot_list_append ⟨_, e, rfl⟩ F.entry_list_append (F.args_list_append_2 _ _) (PySem.list_append D its.toArray n u (by rw [List.size_toArray]; omega)) ⟨e, wpAny_pure ?_⟩)
  have q2 := PySem.IsL.update e (·.push u)
  obtain ⟨f0, g1, g2, g3, g4, g5⟩ := f1
  have I2 : Inv Y pins σ H1 { s1 with heap := s1.heap.update D (Obj.mapSeq (·.push u)) } := I1.unpinned.turned (t' := s1.toks) (it := D) (fun b o hb eb => (Heap.get?_update_other s1.heap _ (Ne.symm hb)).trans eb) f0 g1 g3 g4 g5
  refine ⟨ys ++ [v], σ, H1, I2, ⟨f0, g1, g2, g3, g4, g5⟩, ⟨by rw [List.length_append, List.length_singleton]; omega, its ++ [u], (if ((its.toArray.push u).size == its.toArray.size) = true then n else n + 1), r.append (.cons ru .nil), ?_⟩, q⟩
  have e3 : its.toArray.push u = (its ++ [u]).toArray := by simp
  rw [← e3]
  exact q2
def inner (elt : Expr) (gens : List Comprehension) (scope : Scope) (pos : Pos) (d : Nat) (acc : Value) (env : Env) (k : Sem PySem.Fin) : Sem PySem.Fin :=
 match gens[d + 1]? with
 | some g' => eval g'.iter env >>= fun x => standAt g'.iter.pos >>= fun _ => foldedSetIterable g'.iter env x >>= fun x => holding [x] (pyIter x) >>= fun itv =>
   runOwn (.compStart (.ListComp elt gens scope pos) (d + 1) itv acc env) env >>= fun _ => k
 | none => (do let _ ← call (.builtin "list.append") [acc, ← eval elt env]) >>= fun _ => k
set_option maxHeartbeats 400000 in
theorem JB (elt tg iter : Expr) (ifs : List Expr) (gens : List Comprehension) (scope : Scope) (pos : Pos) (d : Nat) (it acc : Value) (env : Env) (hg : gens[d]? = some ⟨tg, iter, ifs, 0⟩) (h2 : ∀ g', gens[d + 1]? = some g' → g'.is_async = 0) :
  compTurn (.ListComp elt gens scope pos) d it acc env = (standAt iter.pos >>= fun _ => pyNext it >>= fun r => match r with
   | none => pure (.done .next)
   | some v => letOwnedTupleGo tg it v >>= fun _ => assign tg env v >>= fun _ => testsOf ifs env >>= fun ok =>
    if ok = true then inner elt gens scope pos d acc env (again (.compLoop (.ListComp elt gens scope pos) d it acc env)) else again (.compLoop (.ListComp elt gens scope pos) d it acc env)) := by
 unfold compTurn inner
 dsimp only
 rw [hg]
 generalize hn : gens[d + 1]? = o
 cases o with
 | none => rfl
 | some g' =>
  have e := h2 g' hn
  obtain ⟨t', i', f', a'⟩ := g'
  have e' : a' = 0 := e
  subst e'
  rfl
def tNestW (g : TG) (tt : TT) (ti : TC) (J : It) : TC := fun ys σ H Q => ∃ W : Nat → Nat → List V → St → Hp → Prop, (∃ m, W 0 m ys σ H) ∧ ∀ i m ys σ H, W i m ys σ H →
 (J.stop i H ∧ Q ys σ H) ∨ (J.go i H ∧ ∃ N : List V → St → Hp → Prop, (∀ ys' σ' H', N ys' σ' H' → ∃ m', m' < m ∧ W (i + 1) m' ys' σ' H') ∧
  ∀ x H', J.yld i H x H' → g x σ H' fun σ2 H2 => tt σ2 H2 fun b H3 => if b = true then ti ys σ2 H3 N else N ys σ2 H3)
theorem Za8 {elt tg iter : Expr} {ifs : List Expr} {gens : List Comprehension} {scope : Scope} {pos : Pos} {d : Nat} {it : Addr} {fp : List Addr} {tn : Nat → Heap → Prop} {J : It} {g : TG} {tt : TT} {ti : TC} {pins : List (Addr × Obj)} {s : Shared} {σ : St} {H : Hp} {ys : List V} {Q : List V → St → Hp → Prop}
    (hx : Y.xe = fun _ _ => False) (hc : Y.calm = true) (hg : gens[d]? = some ⟨tg, iter, ifs, 0⟩) (T : Turn Y.prog Y.w Y.K tg J fp it tn) (hf : ∀ b ∈ fp, FpOk Y pins H b) (st : tn 0 s.heap) (hD : D ∉ fp)
    (h2 : ∀ g', gens[d + 1]? = some g' → g'.is_async = 0) (pg : PG Y tg g) (pt : PTs Y ifs tt) (pi : PIn Y D (inner elt gens scope pos d (.ref D) Y.env) ti)
    (I : Inv Y pins σ H s) (f : FpOk Y pins H D) (a : AccAt s.heap D ys) (h : tNestW g tt ti J ys σ H Q) :
    codeAny (model Y.prog Y.w) Y.A (.compLoop (.ListComp elt gens scope pos) d (.ref it) (.ref D) Y.env) (fun r s' => match r with
      | .ok _ => ∃ ys' σ' H', Inv Y pins σ' H' s' ∧ FpOk Y pins H' D ∧ AccAt s'.heap D ys' ∧ Q ys' σ' H'
      | .error _ => False) s := by
  obtain ⟨W, ⟨m0, w0⟩, turn⟩ := h
  have stat : ∀ {H' : Hp}, (∀ b ∈ fp, H' b = none) → ∀ b ∈ fp, FpOk Y pins H' b := fun hn b hb => ⟨hn b hb, (hf b hb).2⟩
  refine codeAny_loop rfl (fun n s' => ∃ i ys' σ' H', Inv Y pins σ' H' s' ∧ FpOk Y pins H' D ∧ AccAt s'.heap D ys' ∧ tn i s'.heap ∧ (∀ b ∈ fp, H' b = none) ∧ W i n ys' σ' H') (fun n s3 hI => ?_) m0 ⟨0, ys, σ, H, I, f, a, st, fun b hb => (hf b hb).1, w0⟩
  obtain ⟨i, ys3, σ3, H3, I3, f3, a3, st3, fr3, w3⟩ := hI
  show wpAny _ Y.A ((compTurn (.ListComp elt gens scope pos) d (.ref it) (.ref D) Y.env).onRaise (fun x => do noteFrame x Y.env; theTreesLotGoes x)) _ _ s3
  refine wpAny_noted (wpAny_mono (E := fun _ _ => False) ?_ (fun _ _ q => q) fun _ _ z => z.elim)
  rw [JB elt tg iter ifs gens scope pos d (.ref it) (.ref D) Y.env hg h2]
  refine wpAny_bind (wpAny_standAt (wpAny_bind ?_))
  have aD : ∀ {h h' : Heap}, (∀ b o, b ∉ fp → h.get? b = some o → h'.get? b = some o) → ∀ {zs}, AccAt h D zs → AccAt h' D zs := fun k _ q => q.keep fun o e => k D o hD e
  have I3' := I3.pinned (fp := [D]) (fun b hb => by have e : b = D := by simpa using hb
                                                    subst e; exact f3) a3.nocell
  have stat' : ∀ b ∈ fp, FpOk Y (pins ++ pinsAt [D] s3.heap) H3 b := fun b hb => by
    obtain ⟨g0, g1, g2, g3, g4, g5⟩ := stat fr3 b hb
    refine ⟨g0, g1, g2, g3, g4, fun p hp => ?_⟩
    rcases List.mem_append.mp hp with z | z
    · exact g5 p (List.mem_append_left _ z)
    · rcases List.mem_append.mp z with z | z
      · exact g5 p (List.mem_append_right _ z)
      · intro q
        have e : p.1 = D := by simpa using (Jp z).1
        exact hD (by rw [← e, q]; exact hb)
  rcases turn i n ys3 σ3 H3 w3 with ⟨stop, qn⟩ | ⟨go, N, hN, step⟩
  · refine wpAny_mono (T.done Y rfl rfl rfl hc i _ s3 σ3 H3 (fun _ _ => False) I3' stat' st3 stop) (fun r s4 ⟨hr, I4⟩ => ?_) fun _ _ z => z
    subst hr
    obtain ⟨a4, n4⟩ := a3.through I4
    exact wpAny_pure ⟨ys3, σ3, H3, I4.unpinned, f3, a4, qn⟩
  · refine wpAny_mono (T.item Y rfl rfl rfl hc i _ s3 σ3 H3 (fun _ _ => False) I3' stat' st3 go) (fun r s4 ⟨u, hr, h4⟩ => ?_) fun _ _ z => z
    subst hr
    refine wpAny_bind (wpAny_mono h4 (fun _ s5 ⟨x, H5, I5, r5, y5, st5, fr5⟩ => ?_) fun _ _ z => z)
    obtain ⟨a5, n5⟩ := a3.through I5
    have f5 : FpOk Y pins H5 D := ⟨n5, f3.2⟩
    have ho5 : ∀ b ∈ D :: fp, ∃ o, s5.heap.get? b = some o ∧ ∀ v, o.data ≠ .cell v := fun b hb => by
      rcases List.mem_cons.mp hb with e | hb
      · exact a5.nocell b (by simp [e])
      · exact T.obj _ _ st5 b hb
    have I5' := I5.unpinned.pinned (fp := D :: fp) (fun b hb => by
      rcases List.mem_cons.mp hb with e | hb
      · rw [e]; exact f5
      · exact stat fr5 b hb) ho5
    refine wpAny_bind (wpAny_mono (pg _ s5 σ3 H5 x u _ I5' r5 (step x H5 y5)) (fun _ s6 ⟨σ6, H6, I6, q6⟩ => ?_) fun _ _ z => by rw [hx] at z; exact z)
    refine wpAny_bind (wpAny_mono (pt _ s6 σ6 H6 _ I6 q6) (fun b s7 ⟨H7, I7, q7⟩ => ?_) fun _ _ z => by rw [hx] at z; exact z)
    have pinD : ∀ {σ7 : St} {H7 : Hp} {s7 : Shared}, Inv Y (pins ++ pinsAt (D :: fp) s5.heap) σ7 H7 s7 → AccAt s7.heap D ys3 ∧ H7 D = none := fun {σ7 H7 s7} J => by
      obtain ⟨z, its, n, r, e⟩ := id a5
      have q := J.pin (D, _) (List.mem_append_right _ (List.mem_append_right _ (ZR List.mem_cons_self e)))
      exact ⟨⟨z, its, n, r, q.1⟩, q.2.1⟩
    have pinF : ∀ {σ7 : St} {H7 : Hp} {s7 : Shared}, Inv Y (pins ++ pinsAt (D :: fp) s5.heap) σ7 H7 s7 → tn (i + 1) s7.heap ∧ ∀ b ∈ fp, H7 b = none := fun {σ7 H7 s7} J => by
      refine ⟨T.keep _ _ _ st5 fun b hb o e => (J.pin (b, o) (List.mem_append_right _ (List.mem_append_right _ (ZR (List.mem_cons_of_mem _ hb) e)))).1, fun b hb => ?_⟩
      obtain ⟨o, e, dd⟩ := T.obj _ _ st5 b hb
      exact (J.pin (b, o) (List.mem_append_right _ (List.mem_append_right _ (ZR (List.mem_cons_of_mem _ hb) e)))).2.1
    cases b with
    | false =>
      simp only [Bool.false_eq_true, if_false] at q7 ⊢
      obtain ⟨m', hm, w7⟩ := hN _ _ _ q7
      obtain ⟨a7, n7⟩ := pinD I7
      obtain ⟨t7, r7⟩ := pinF I7
      exact wpAny_pure ⟨rfl, m', hm, i + 1, ys3, σ6, H7, I7.unpinned, ⟨n7, f3.2⟩, a7, t7, r7, w7⟩
    | true =>
      simp only [if_true] at q7 ⊢
      obtain ⟨a7, n7⟩ := pinD I7
      obtain ⟨t7, r7⟩ := pinF I7
      have I7' := I7.unpinned.pinned (fp := fp) (stat r7) (T.obj _ _ t7)
      have f7 : FpOk Y (pins ++ pinsAt fp s7.heap) H7 D := by
        obtain ⟨g0, g1, g2, g3, g4, g5⟩ := f3
        refine ⟨n7, g1, g2, g3, g4, fun p hp => ?_⟩
        rcases List.mem_append.mp hp with z | z
        · exact g5 p (List.mem_append_left _ z)
        · rcases List.mem_append.mp z with z | z
          · exact g5 p (List.mem_append_right _ z)
          · intro q
            exact hD (by rw [← q]; exact (Jp z).1)
      refine pi _ s7 σ6 H7 ys3 N _ _ I7' f7 a7 q7 fun s8 ys8 σ8 H8 I8 f8 a8 q8 => ?_
      obtain ⟨m', hm, w8⟩ := hN _ _ _ q8
      refine wpAny_pure ⟨rfl, m', hm, i + 1, ys8, σ8, H8, I8.unpinned, ⟨f8.1, f3.2⟩, a8, T.keep _ _ _ t7 fun b hb o e => (I8.pin (b, o) (List.mem_append_right _ (List.mem_append_right _ (ZR hb e)))).1, fun b hb => ?_, w8⟩
      obtain ⟨o, e, dd⟩ := T.obj _ _ t7 b hb
      exact (I8.pin (b, o) (List.mem_append_right _ (List.mem_append_right _ (ZR hb e)))).2.1
theorem Wa {elt tg iter : Expr} {ifs : List Expr} {gens : List Comprehension} {scope : Scope} {pos : Pos} {d : Nat} {it : Addr} {R : Result → Shared → Prop} {s : Shared} {A : Around} {prog : Program} {w : World} {env : Env} {acc : Value} {fp : List Addr} {tn : Nat → Heap → Prop} {J : It} {K : PySem.W.Frag}
  (hg : gens[d]? = some ⟨tg, iter, ifs, 0⟩) (T : Turn prog w K tg J fp it tn) {i : Nat} (st : tn i s.heap) (h : codeAny (model prog w) A (.compLoop (.ListComp elt gens scope pos) d (.ref it) acc env) R s) :
  codeAny (model prog w) A (.compStart (.ListComp elt gens scope pos) d (.ref it) acc env) R s := by
 refine codeAny_of_tree ?_
 show wpAny _ _ ((compStart (.ListComp elt gens scope pos) d (.ref it) acc env).onRaise (fun x => do noteFrame x env; standAt theWindowsPlace)) _ _ s
 refine wpAny_notedAt ?_
 have hg' : (clausesOf (.ListComp elt gens scope pos))[d]? = some ⟨tg, iter, ifs, 0⟩ := hg
 unfold compStart
 rw [hg']
 show wpAny _ _ (ask >>= _) _ _ s
 refine wpAny_bind (wpAny_askSetting (wpAny_ite ?_))
 split
 ·first
   | exact wpAny_bind (wpAny_pure (wpAny_pure (And.intro rfl h)))
   | exact wpAny_pure (And.intro rfl h)
 ·refine wpAny_bind (wpAny_rule ?_)
  show wpAny _ _ (standAt iter.pos >>= _) _ _ s
  exact wpAny_bind (wpAny_standAt (wpAny_bind (T.self A i s _ _ st (wpAny_pure (And.intro rfl h)))))
end
section
variable {X : Cx} {pins : List (Addr × Obj)} {σ : St} {H H' : Hp} {s s' : Shared}
theorem UB {N' : List Str} {scope : Scope} {C D : Addr} {fp : List Addr} {σ' : St} {ys : List V} {pl : List (Addr × Obj)} {h' : Heap} (I : Inv X pins σ H s) (hf : ∀ b ∈ fp, FpOk X pins H b) (hC : s.heap.objs.size ≤ C) (hD : s.heap.objs.size ≤ D) (hDC : D ≠ C)
  (J : Inv (blk X N' scope C s H fp) pl σ' H' s') (n : H' D = none) (a : AccAt s'.heap D ys) (sb : Heap.SameBut C s'.heap h') : Inv X pins σ (upd H' D (.lst ys)) { s' with heap := h' } := by
 have neC : ∀ b o, s.heap.get? b = some o → b ≠ C := fun b o e => Nat.ne_of_lt (Nat.lt_of_lt_of_le (Heap.lt_size e) hC)
 have neD : ∀ b o, s.heap.get? b = some o → b ≠ D := fun b o e => Nat.ne_of_lt (Nat.lt_of_lt_of_le (Heap.lt_size e) hD)
 have neD' : ∀ b o, H b = some o → b ≠ D := fun b o e => Nat.ne_of_lt (Nat.lt_of_lt_of_le (I.hok.lt e) hD)
 have fC : H' C = none := J.free
 have u : Un (frs X.stack) fp H H' s.heap s'.heap := J.base
 refine I.call' (s' := { s' with heap := h' }) (ch := fp) J.os ⟨fun b o e nb hb hx => (sb.2 b (neC b o e)).trans (u.keep b o e nb hb hx), fun b o e nb hb hx => ?_, fun b o e nb hx => by rw [Zg (neD b o e)]; exact u.free b o e nb hx, fun b o e hx => ?_,
  fun b xs e => by rw [Zg (neD' b _ e)]; exact u.tups b xs e, fun b o xs e => by rw [Zg (neD' b _ e)]; exact u.frzs b o xs e, fun b ps e => by rw [Zg (neD' b _ e)]; exact u.tbls b ps e⟩ (fun b v e => ?_) J.bare fun b hb => ?_
 ·obtain ⟨sl, q⟩ := u.slot b o e nb hb hx
  exact ⟨sl, (sb.2 b (neC b o e)).trans q⟩
 ·obtain ⟨o', q⟩ := u.there b o e hx
  exact ⟨o', (sb.2 b (neC b o e)).trans q⟩
 ·by_cases hb : b = D
  ·subst hb
   rw [Zc] at e
   cases e
   obtain ⟨z, its, k, r, q⟩ := a
   exact ⟨z, its, k, r, (sb.2 b hDC).trans q⟩
  ·rw [Zg hb] at e
   refine (J.hok b v e).stay (fun c w hc q => (sb.2 c ?_).trans q) (fun c q => by rw [Zg (Zj q n)]; exact q) fun c xs q => by rw [Zg (Zj q n)]; exact q
   rcases hc with z | z
   ·rw [z]; exact Zj e fC
   ·exact Zj z fC
 ·obtain ⟨f0, f1, f2, f3, f4, f5⟩ := hf b hb
  exact ⟨f3, f1, f4, f5⟩
theorem Wb {elt tg iter : Expr} {ifs : List Expr} {rest : List Comprehension} {scope : Scope} {pos : Pos} {N' : List Str} {ts : Nat} {cap : List Nat} {it : Addr} {fp : List Addr} {tn : Nat → Heap → Prop} {J : It} {g : TG} {tt : TT} {ti : TC} {Q : List V → Hp → Prop} {E : Value → Shared → Prop} {RR : Value → Addr → Result → Shared → Prop}
  (S : CompS X N' ts cap scope) (hc : X.calm = true) (I : Inv X pins σ H s) (T : Turn X.prog X.w X.K tg J fp it tn) (st : tn 0 s.heap) (hf : ∀ b ∈ fp, FpOk X pins H b)
  (h2 : ∀ g', (Comprehension.mk tg iter ifs 0 :: rest)[0 + 1]? = some g' → g'.is_async = 0)
  (pg : ∀ C, PG (blk X N' scope C s H fp) tg g) (pt : ∀ C, PTs (blk X N' scope C s H fp) ifs tt)
  (pi : ∀ C D, PIn (blk X N' scope C s H fp) D (inner elt (⟨tg, iter, ifs, 0⟩ :: rest) scope pos 0 (.ref D) (blk X N' scope C s H fp).env) ti)
  (h : tNestW g tt ti J [] (capSt ts cap σ) H fun ys _ H2 => Q ys H2)
  (hRR : ∀ C D s' σ' H' ys fl, s.heap.objs.size ≤ C → s.heap.objs.size ≤ D → D ≠ C → Inv (blk X N' scope C s H fp) [] σ' H' s' → H' D = none → AccAt s'.heap D ys → Q ys H' → RR (.ref D) C (.ok fl) s') :
  wpAny (model X.prog X.w) X.A (newList []) (fun acc s₃ => wpAny (model X.prog X.w) X.A (newFunctionEnv scope X.env.globals (clOf scope X.env) [] X.env.qual none .none (some X.env)) (fun cenv s₄ =>
   codeAny (model X.prog X.w) X.A (.compStart (.ListComp elt (⟨tg, iter, ifs, 0⟩ :: rest) scope pos) 0 (.ref it) acc { cenv with scope := relabel scope X.env }) (RR acc cenv.locals) s₄) E s₃) E s := by
 refine wpAny_newObj_type (wpAny_newFunctionEnv S.nocell (by intro y hy; simp at hy) (fun h₁ hns₁ hsb₁ => ?_) S.kind)
 dsimp only at hns₁ hsb₁ ⊢
 generalize hH2 : s.heap.push { cls := .type "list", dict := none, data := .seq ([] : List Value).toArray } = h0 at hns₁ hsb₁ ⊢
 have hC : h0.objs.size = s.heap.objs.size + 1 := by rw [← hH2, Heap.size_push]
 have hDC : s.heap.objs.size ≠ h0.objs.size := by rw [hC]; exact Nat.ne_of_lt (Nat.lt_succ_self _)
 have hCle : s.heap.objs.size ≤ h0.objs.size := by rw [hC]; exact Nat.le_succ _
 have neC : ∀ b o, s.heap.get? b = some o → b ≠ h0.objs.size := fun b o e => Nat.ne_of_lt (Nat.lt_of_lt_of_le (Heap.lt_size e) hCle)
 have old : ∀ b o, s.heap.get? b = some o → h₁.get? b = some o := fun b o e => hsb₁.extBut b o (neC b o e) (Heap.get?_push_of_some _ (hH2 ▸ Heap.get?_push_of_some _ e))
 have hacc : h₁.get? s.heap.objs.size = some { cls := .type "list", data := .seq ([] : List Value).toArray 0 } := hsb₁.extBut _ _ hDC (Heap.get?_push_of_some _ (hH2 ▸ Heap.get?_push_size _ rfl))
 have ho : ∀ b ∈ fp, ∃ o, s.heap.get? b = some o := fun b hb => let ⟨o, e, _⟩ := T.obj _ _ st b hb; ⟨o, e⟩
 have I1 : Inv (blk X N' scope h0.objs.size s H fp) [] (capSt ts cap σ) H { s with heap := h₁, toks := s.toks + ([] : List (Str × Value)).length } := Zar S I hf ho hCle hns₁ old
 have fresh := I.hok.fresh (a := s.heap.objs.size) (Nat.le_refl _)
 have fpY : ∀ b ∈ fp, FpOk (blk X N' scope h0.objs.size s H fp) [] H b := fun b hb => by
  obtain ⟨f0, f1, f2, f3, f4, f5⟩ := hf b hb
  refine ⟨f0, (I1.ok.exf b hb).1, I1.ok.exfs b hb, .inl hb, (I1.ok.exf b hb).2, fun p hp => absurd (show p ∈ ([] : List (Addr × Obj)) from hp) (by simp)⟩
 have fD : FpOk (blk X N' scope h0.objs.size s H fp) [] H s.heap.objs.size := by
  refine ⟨fresh, hDC, fun z => ?_, .inr (Nat.le_refl _), fun x c e z => ?_, fun p hp => absurd (show p ∈ ([] : List (Addr × Obj)) from hp) (by simp)⟩
  ·obtain ⟨_, o, ho', _⟩ := I.stack.mem z
   exact absurd (Heap.lt_size ho') (Nat.lt_irrefl _)
  ·obtain ⟨e1, e2⟩ := Yy e
   obtain ⟨c', hc'⟩ := I.ok.has x (S.free _ e2 rfl)
   obtain ⟨v, q⟩ := I.cell x c' hc'
   rw [hc'] at e1
   have e3 : c = c' := e1
   have l := q.lt
   rw [← e3, z] at l
   exact absurd l (Nat.lt_irrefl _)
 have aD : AccAt h₁ s.heap.objs.size [] := ⟨Nat.zero_le _, [], 0, .nil, hacc⟩
 have hDf : s.heap.objs.size ∉ fp := fun z => by obtain ⟨o, e⟩ := ho _ z; exact absurd (Heap.lt_size e) (Nat.lt_irrefl _)
 have st1 : tn 0 h₁ := T.keep _ _ _ st fun b _ o e => old b o e
 have run := Wa (elt := elt) (gens := ⟨tg, iter, ifs, 0⟩ :: rest) (scope := scope) (pos := pos) (d := 0) rfl T st1
  (Za8 (Y := blk X N' scope h0.objs.size s H fp) (D := s.heap.objs.size) (Q := fun ys _ H2 => Q ys H2) (elt := elt) (gens := ⟨tg, iter, ifs, 0⟩ :: rest) (scope := scope) (pos := pos) (d := 0) rfl hc rfl T fpY st1 hDf h2 (pg _) (pt _) (pi _ _) I1 fD aD h)
 refine codeAny_mono run fun r s' hr => ?_
 cases r with
 | error e => exact hr.elim
 | ok fl =>
  obtain ⟨ys', σ', H', q1, q2, q3, q4⟩ := hr
  exact hRR _ _ s' σ' H' ys' fl hCle (Nat.le_refl _) hDC q1 q2.1 q3 q4
end
def tComp (wi : TI) (ts : Nat) (cap : List Nat) (g : TG) (tt : TT) (ti : TC) : TE := fun σ H Q => wi σ H fun J H1 => tNestW g tt ti J [] (capSt ts cap σ) H1 fun ys _ H2 => ∀ p, H2 p = none → Q (.ref p) (upd H2 p (.lst ys))
section
variable {X : Cx} {elt tg iter : Expr} {ifs : List Expr} {rest : List Comprehension} {scope : Scope} {pos : Pos} {wi : TI} {g : TG} {tt : TT} {ti : TC}
theorem ZM (N' : List Str) (ts : Nat) (cap : List Nat) (hi : PI X tg iter wi) (pg : ∀ C s H fp, PG (blk X N' scope C s H fp) tg g) (pt : ∀ C s H fp, PTs (blk X N' scope C s H fp) ifs tt)
  (pi : ∀ C s H fp D, PIn (blk X N' scope C s H fp) D (inner elt (⟨tg, iter, ifs, 0⟩ :: rest) scope pos 0 (.ref D) (blk X N' scope C s H fp).env) ti)
  (ok : compOk X.env.scope scope X.N N' ts cap = true := by rfl) (hc : X.calm = true := by rfl) (h2 : ∀ g', (Comprehension.mk tg iter ifs 0 :: rest)[0 + 1]? = some g' → g'.is_async = 0 := by (intro g' h; cases h <;> rfl))
  (hs : ∀ x, foldedSetIterable iter X.env x = pure x := by intro _; rfl) :
  PE X (.ListComp elt (⟨tg, iter, ifs, 0⟩ :: rest) scope pos) (tComp wi ts cap g tt ti) := by
 intro pins s σ H Q I h
 have S := Wc ok
 rw [eval_ListComp]
 refine wpAny_comprehension_free (use := none) rfl hs (Yc fun y hy e => I.ok.has _ (S.free y hy e)) S.kind S.names (thn (hi pins s σ H _ I h) fun v s1 h1 => thn h1 fun itv s2 h2' => ?_)
 obtain ⟨it, fp, tn, J, H2, e, I2, T, st2, f2, q2⟩ := h2'
 subst e
 refine Wb (RR := fun acc C => compPost (model X.prog X.w) X.A X.xe none _ acc C) S hc I2 T st2 f2 h2 (fun C => pg C _ _ _) (fun C => pt C _ _ _) (fun C D => pi C _ _ _ D) q2 ?_
 intro C D s' σ' H' ys fl hC hD hDC J' n a q
 obtain ⟨m, hn, _⟩ := J'.loc
 exact ⟨m, hn, fun h' sb => ⟨.ref D, _, UB I2 f2 hC hD hDC J' n a sb, rfl, q D n⟩⟩
theorem U9 (N' : List Str) (ts : Nat) (cap : List Nat) {i : Nat} {x : Str} {px spos : Pos} (hN : X.N.Nodup) (hix : X.N[i]? = some x) (hx : Loc X.env.scope x) (hi : PI X tg iter wi) (pg : ∀ C s H fp, PG (blk X N' scope C s H fp) tg g) (pt : ∀ C s H fp, PTs (blk X N' scope C s H fp) ifs tt)
  (pi : ∀ C s H fp D, PIn (blk X N' scope C s H fp) D (inner elt (⟨tg, iter, ifs, 0⟩ :: rest) scope pos 0 (.ref D) (blk X N' scope C s H fp).env) ti)
  (hsw : swapsWith (.ListComp elt (⟨tg, iter, ifs, 0⟩ :: rest) scope pos) (some (.Name x px)) spos.line X.env = pure true := by rfl)
  (ok : compOk X.env.scope scope X.N N' ts cap = true := by rfl) (hc : X.calm = true := by rfl) (h2 : ∀ g', (Comprehension.mk tg iter ifs 0 :: rest)[0 + 1]? = some g' → g'.is_async = 0 := by (intro g' h; cases h <;> rfl))
  (hs : ∀ x, foldedSetIterable iter X.env x = pure x := by intro _; rfl) (hfn : X.fn x = true ∨ X.env.scope.names.lookup x = some .local := by first | exact .inl rfl | exact .inr rfl | assumption) :
  PS X (.Assign [.Name x px] (.ListComp elt (⟨tg, iter, ifs, 0⟩ :: rest) scope pos) spos) (tAsg (tComp wi ts cap g tt ti) (gName i)) := by
 intro pins s σ H D I h
 have S := Wc ok
 rw [exec_Assign_Name_used _ _ _ _ hsw]
 refine wpAny_bind (wpAny_standAt (wpAny_bind ?_))
 show wpAny _ X.A (do let _ ← comprehension (.ListComp elt (⟨tg, iter, ifs, 0⟩ :: rest) scope pos) scope X.env _ (newList []) false (eval iter X.env) (some (assign (.Name x px) X.env))) _ _ s
 refine wpAny_bind (wpAny_mono (wpAny_comprehension_free (use := some (assign (.Name x px) X.env)) (Q := fun _ s' => ∃ σ' H', Inv X pins σ' H' s' ∧ D.nx σ' H') rfl hs (Yc fun y hy e => I.ok.has _ (S.free y hy e)) S.kind S.names
  (thn (hi pins s σ H _ I h) fun v s1 h1 => thn h1 fun itv s2 h2' => ?_)) (fun _ s' hq => wpAny_pure (wpAny_pure hq)) fun _ _ e => e)
 obtain ⟨it, fp, tn, J, H2, e, I2, T, st2, f2, q2⟩ := h2'
 subst e
 refine Wb (RR := fun acc C => compPost (model X.prog X.w) X.A X.xe (some (assign (.Name x px) X.env)) _ acc C) S hc I2 T st2 f2 h2 (fun C => pg C _ _ _) (fun C => pt C _ _ _) (fun C D => pi C _ _ _ D) q2 ?_
 intro C B s' σ' H' ys fl hC hB hBC J' n a q
 obtain ⟨m, hn, _⟩ := J'.loc
 have IX : Inv X pins σ (upd H' B (.lst ys)) s' := UB I2 f2 hC hB hBC J' n a (Heap.SameBut.refl C s'.heap)
 have fC := I2.fpOk (H' := upd H' B (.lst ys)) (b := C) hC (by rw [Zg (Ne.symm hBC)]; exact J'.free)
 obtain ⟨f0, f1, f2', f3, f4, f5⟩ := fC
 show wpAny _ X.A (assign (.Name x px) X.env (.ref B)) _ _ s'
 refine wpAny_assign_Name (Wo (v := .ref B) (u := .ref B) IX hN hix hx rfl (fun s'' I'' ⟨c, sb, hcc⟩ => ?_) hfn)
 have hCc : C ≠ c := by
  rcases hcc with z | z
  ·rw [z]; exact f1
  ·exact (f4 x c z).symm
 refine ⟨m, Heap.Ns.sameBut hn sb hCc, fun h' sb' => ?_⟩
 refine ⟨σ.set i (some (.ref B)), _, I''.turned (t' := s''.toks) (it := C) (fun b o hb e => (sb'.2 b hb).trans e) f0 f1 f3 f4 f5, q B n⟩
end
end L2
set_option Elab.async false
set_option linter.all false
set_option maxRecDepth 100000
namespace L2
open PySem PySem.Spec PyProof.Rows
section
variable {X : Cx}
theorem Zx {c : String} : CallR X (.builtin "isinstance") (fun xs H Q => ∃ x t b, xs = [x, .ty c] ∧ TyOf X.K H x t ∧ PySem.W.kitOne X.K t (.type c) = some b ∧ Q (.bl b) H) := by
 intro pins s σ H xs us Q I r h
 obtain ⟨x, t, b, rfl, ty, e, q⟩ := h
 obtain ⟨u, v, rfl, ru, rv⟩ := vals2 r
 cases rv
 exact Za3 I ru ty e fun tk => ⟨.bl b, H, I.tok tk, rfl, q⟩
theorem Ye (hc : X.calm = true := by rfl) : CallR X (.builtin "all") (fun xs H Q => ∃ (p : Addr) (bs : List Bool), xs = [.ref p] ∧ SqL X.K H p (bs.map V.bl) ∧ Q (.bl (bs.all id)) H) := by
 intro pins s σ H xs us Q I r h
 obtain ⟨p, bs, rfl, hp, q⟩ := h
 obtain ⟨u, rfl, ru⟩ := vals1 r
 cases ru
 obtain ⟨its, rv, pl, hz⟩ := I.list hp
 have hb : ∀ (i : Nat) (v : Value), its.toArray[i]? = some v → v = .bool (bs.getD i false) := fun i v e => by
  have e' : its[i]? = some v := by simpa using e
  have hl := rv.length
  have hi : i < its.length := (List.getElem?_eq_some_iff.mp e').1
  have hi' : i < (bs.map V.bl).length := by omega
  obtain ⟨u, hu, ru⟩ := rv.get (i := i) (x := (bs.map V.bl)[i]) (by simp)
  rw [e'] at hu
  cases hu
  rw [List.getElem_map] at ru
  have hi2 : i < bs.length := by simpa using hi'
  have e2 : bs.getD i false = bs[i] := by simp [List.getD_eq_getElem?_getD, hi2]
  rw [e2]
  exact ru
 refine call_all_walk (wpAny_pyIter_list pl.isList ?_)
 have hne : p ≠ s.heap.objs.size := Nat.ne_of_lt (by obtain ⟨o, n, e, _⟩ := pl; exact Heap.lt_size e)
 refine ⟨s.heap.objs.size, _, _, _, _, _, fun i => bs.getD i false, rfl, Walks.list (A := X.A.in1) (show X.A.in1.handled = none from I.ok.hd hc) s.heap.objs.size p hne its.toArray, ⟨⟨_, Heap.get?_push_size _ rfl, rfl, rfl⟩, pl.isList.at fun o e => Heap.get?_push_of_some _ e⟩, fun i v s' Q' E' hP hQ => ?_, fun h' tk hk => ?_⟩
 ·rw [hb i v hP]
  exact wpAny_truthy_bool hQ
 ·have e : (List.range its.toArray.size).all (fun i => bs.getD i false) = bs.all id := by
   have hl : its.toArray.size = bs.length := by have := rv.length; rw [List.length_map] at this; simpa using this.symm
   rw [hl, Bool.eq_iff_iff, List.all_eq_true, List.all_eq_true]
   constructor
   ·intro h b hb
    obtain ⟨i, hi, e⟩ := List.mem_iff_getElem.mp hb
    have := h i (List.mem_range.mpr hi)
    rw [List.getD_eq_getElem?_getD, List.getElem?_eq_getElem hi, Option.getD_some, e] at this
    exact this
   ·intro h i hi
    have hi' := List.mem_range.mp hi
    rw [List.getD_eq_getElem?_getD, List.getElem?_eq_getElem hi', Option.getD_some]
    exact h _ (List.getElem_mem hi')
  rw [e]
  refine ⟨.bl (bs.all id), H, I.kept fun b o eb => hk b o ?_ (Heap.get?_push_of_some _ eb), rfl, q⟩
  intro z
  have e1 : b = s.heap.objs.size := by simpa using z
  exact absurd (Heap.lt_size eb) (by rw [e1]; exact Nat.lt_irrefl _)
def setN (ns : List Int) : Nat := (PyProof.Rows.firstMet (fun i => ns.getD i 0) ns.length).length
theorem Wi (hc : X.calm = true := by rfl) : CallR X (.type "set") (fun xs H Q => ∃ (p : Addr) (ns : List Int), xs = [.ref p] ∧ SqL X.K H p (ns.map V.int) ∧ ns.length ≤ 1000 ∧ ∀ q S, H q = none → Q (.ref q) (upd H q (.set S (setN ns)))) := by
 intro pins s σ H xs us Q I r h
 obtain ⟨p, ns, rfl, hp, hn, q⟩ := h
 obtain ⟨u, rfl, ru⟩ := vals1 r
 cases ru
 obtain ⟨its, rv, pl, hz⟩ := I.list hp
 have hl := rv.length
 rw [List.length_map] at hl
 refine call_set_list (I.ok.hd hc) pl.isList (ZS rv) (by rw [List.size_toArray, ← hl]; unfold scanBound; omega) fun h' tk hs hk => ?_
 have e : its.toArray.size = ns.length := by simp [hl]
 rw [e] at hs
 exact ⟨.ref s.heap.objs.size, _, I.laid (a := s.heap.objs.size) (o := .set _ (setN ns)) (fun b o eb => hk b o (Heap.lt_size eb) eb) (Nat.le_refl _) hs, rfl, q _ _ I.fresh⟩
theorem Wj : CallR X (.builtin "len") (fun xs H Q => ∃ p S n, xs = [.ref p] ∧ H p = some (.set S n) ∧ Q (.int n) H) := by
 intro pins s σ H xs us Q I r h
 obtain ⟨p, S, n, rfl, hp, q⟩ := h
 obtain ⟨u, rfl, ru⟩ := vals1 r
 cases ru
 obtain ⟨o, es, ep, t, h1, h2, h3, h4, h5, h6, h7, h8⟩ := (show ObjOk X.prog X.w H s.heap p (.set S n) from I.hok p _ hp)
 refine call_len_set h1 h2 h3 h7 (by have : scanBound = 4096 := rfl; omega) ⟨.int n, H, I.tok _, ⟨_, by rw [h8]⟩, q⟩
theorem JC : CallR X (.type "range") (fun xs H Q => ∃ j : Int, xs = [.int j] ∧ ∀ q, H q = none → Q (.ref q) (upd H q (.rng 0 j))) := by
 intro pins s σ H xs us Q I r h
 obtain ⟨j, rfl, q⟩ := h
 obtain ⟨u, rfl, ru⟩ := vals1 r
 obtain ⟨t, rfl⟩ := ru
 refine call_range_1 ?_
 exact ⟨.ref s.heap.objs.size, _, I.laid (a := s.heap.objs.size) (o := .rng 0 j) (fun b o eb => Heap.get?_push_of_some _ eb) (Nat.le_refl _) ⟨_, _, _, Heap.get?_push_size _ rfl⟩, rfl, q _ I.fresh⟩
def upTo (n : Nat) : List V := (List.range n).map fun (i : Nat) => V.int (i : Int)
theorem W0 {acc : Array Value} {n : Nat} (h : ItemsOf (fun i v => ∃ t, v = .int (0 + i * 1) t) acc n) : Vals (upTo n) acc.toList := by
 obtain ⟨h1, h2⟩ := h
 obtain ⟨l⟩ := acc
 have h1 : l.length = n := h1
 have h2 : ∀ (j : Nat) (v : Value), l[j]? = some v → ∃ t, v = .int (j : Int) t := fun j v e => by
  obtain ⟨t, q⟩ := h2 j v (by simpa using e)
  exact ⟨t, by rw [q]; congr 1; omega⟩
 have key : ∀ (l : List Value) (k : Nat), (∀ (j : Nat) (v : Value), l[j]? = some v → ∃ t, v = .int ((k + j : Nat) : Int) t) → Vals ((List.range' k l.length).map fun (i : Nat) => V.int (i : Int)) l := by
  intro l
  induction l with
  | nil => intro k _; exact .nil
  | cons v l ih =>
   intro k h
   rw [List.length_cons, List.range'_succ, List.map_cons]
   obtain ⟨t, e⟩ := h 0 v rfl
   refine .cons ⟨t, by rw [e]; simp⟩ (ih (k + 1) fun j w q => ?_)
   obtain ⟨t', e'⟩ := h (j + 1) w (by simpa using q)
   exact ⟨t', by rw [e']; congr 1; omega⟩
 have := key l 0 (fun j v e => by simpa using h2 j v e)
 unfold upTo
 rw [← h1, List.range_eq_range']
 exact this
theorem Y3 (hc : X.calm = true := by rfl) : CallR X (.type "list") (fun xs H Q => ∃ (p : Addr) (j : Int), xs = [.ref p] ∧ H p = some (.rng 0 j) ∧ 0 ≤ j ∧ j ≤ 1000 ∧ ∀ q, H q = none → Q (.ref q) (upd H q (.lst (upTo j.toNat)))) := by
 intro pins s σ H xs us Q I r h
 obtain ⟨p, j, rfl, hp, h0, h1, q⟩ := h
 obtain ⟨u, rfl, ru⟩ := vals1 r
 cases ru
 obtain ⟨t, u, v, e⟩ := (show ObjOk X.prog X.w H s.heap p (.rng 0 j) from I.hok p _ hp)
 refine call_list_range (n := j.toNat) (I.ok.hd hc) e (small_one (by omega) (by omega) (by omega) (by omega)) (by rw [rangeSize_one]; split <;> omega) (by omega) fun h' tk acc c' hk hS hacc => ?_
 have r2 := W0 hacc
 have hlen : (upTo j.toNat).length ≤ sizeLine := by unfold upTo; rw [List.length_map, List.length_range, sizeLine_eq]; omega
 exact ⟨.ref s.heap.objs.size, _, I.laid (a := s.heap.objs.size) (o := .lst (upTo j.toNat)) hk (Nat.le_refl _) ⟨hlen, acc.toList, c', r2, by simpa using hS⟩, rfl, q _ I.fresh⟩
theorem Zby : OpR X (binaryOp .Add) (fun x y H Q => ∃ a b ys, x = .ref a ∧ y = .ref b ∧ SqT X.K H a [] ∧ SqT X.K H b ys ∧ Q (.ref b) H) := by
 intro pins s σ H x y u v Q I rx ry h
 obtain ⟨a, b, ys, rfl, rfl, ha, hb, q⟩ := h
 cases rx
 cases ry
 obtain ⟨its, rv, pl, hz⟩ := I.tuple ha
 obtain ⟨its2, rv2, pl2, hz2⟩ := I.tuple hb
 cases rv
 obtain ⟨⟨cls, dd, data, sl⟩, ho, hcl, n, hd⟩ := id pl
 obtain ⟨⟨cls2, dd2, data2, sl2⟩, ho2, hc2, n2, hd2⟩ := id pl2
 simp only at hcl hd hc2 hd2
 subst hcl hd hc2 hd2
 exact concat_meets ⟨_, ho, rfl⟩ ⟨_, ho2, rfl⟩ noFill_tuple_add seq_tuple_add PySem.F.slot_tuple_add PySem.F.entry_tuple_add (PySem.F.args_tuple_add_2 _ _)
   (tuple_addW0 a b #[] its2.toArray n n2 dd dd2 sl sl2 rfl) ⟨ho, ho2, ⟨.ref b, H, I, rfl, q⟩⟩
end
end L2
set_option Elab.async false
set_option linter.all false
set_option maxRecDepth 100000
namespace L2
open PySem PySem.Spec PyProof.Rows
theorem Yt {K : PySem.W.Frag} {a : Addr} {xs : List V} {g : TG} {tt : TT} {ti : TC} {ys : List V} {σ : St} {H : Hp} {Q : List V → St → Hp → Prop} (Pv : Nat → List V → St → Hp → Prop) (h0 : Pv 0 ys σ H)
  (hl : ∀ i ys σ H, i ≤ xs.length → Pv i ys σ H → SqT K H a xs)
  (hs : ∀ i x ys σ H, xs[i]? = some x → Pv i ys σ H → g x σ H fun σ2 H2 => tt σ2 H2 fun b H3 => if b = true then ti ys σ2 H3 (Pv (i + 1)) else Pv (i + 1) ys σ2 H3)
  (hd : ∀ ys σ H, Pv xs.length ys σ H → Q ys σ H) : tNestW g tt ti (Itt K a) ys σ H Q := by
 refine ⟨fun i m ys σ H => m = xs.length - i ∧ i ≤ xs.length ∧ Pv i ys σ H, ⟨xs.length, by simp, Nat.zero_le _, h0⟩, ?_⟩
 rintro i m ys σ H ⟨rfl, hi, p⟩
 have q := hl i ys σ H hi p
 by_cases hlt : i < xs.length
 ·refine .inr ⟨⟨xs, xs[i], q, by simp [hlt]⟩, Pv (i + 1), fun ys' σ' H' p' => ⟨xs.length - (i + 1), by omega, rfl, hlt, p'⟩, fun x H' y => ?_⟩
  obtain ⟨e, y⟩ := y
  subst e
  exact hs i x ys σ _ (y xs q) p
 ·have e : i = xs.length := by omega
  subst e
  exact .inl ⟨⟨xs, q, Nat.le_refl _⟩, hd ys σ H p⟩
theorem YW {K : PySem.W.Frag} {a : Addr} {xs : List V} {g : TG} {tt : TT} {ti : TC} {ys : List V} {σ : St} {H : Hp} {Q : List V → St → Hp → Prop} (Pv : Nat → List V → St → Hp → Prop) (h0 : Pv 0 ys σ H)
  (hl : ∀ i ys σ H, i ≤ xs.length → Pv i ys σ H → SqL K H a xs)
  (hs : ∀ i x ys σ H, xs[i]? = some x → Pv i ys σ H → g x σ H fun σ2 H2 => tt σ2 H2 fun b H3 => if b = true then ti ys σ2 H3 (Pv (i + 1)) else Pv (i + 1) ys σ2 H3)
  (hd : ∀ ys σ H, Pv xs.length ys σ H → Q ys σ H) : tNestW g tt ti (Itl K a) ys σ H Q := by
 refine ⟨fun i m ys σ H => m = xs.length - i ∧ i ≤ xs.length ∧ Pv i ys σ H, ⟨xs.length, by simp, Nat.zero_le _, h0⟩, ?_⟩
 rintro i m ys σ H ⟨rfl, hi, p⟩
 have q := hl i ys σ H hi p
 by_cases hlt : i < xs.length
 ·refine .inr ⟨⟨xs, xs[i], q, by simp [hlt]⟩, Pv (i + 1), fun ys' σ' H' p' => ⟨xs.length - (i + 1), by omega, rfl, hlt, p'⟩, fun x H' y => ?_⟩
  obtain ⟨e, y⟩ := y
  subst e
  exact hs i x ys σ _ (y xs q) p
 ·have e : i = xs.length := by omega
  subst e
  exact .inl ⟨⟨xs, q, Nat.le_refl _⟩, hd ys σ H p⟩
theorem J0 {lo : Int} {n : Nat} {g : TG} {tt : TT} {ti : TC} {ys : List V} {σ : St} {H : Hp} {Q : List V → St → Hp → Prop} (Pv : Nat → List V → St → Hp → Prop) (h0 : Pv 0 ys σ H)
  (hs : ∀ i ys σ H, i < n → Pv i ys σ H → g (.int (lo + i)) σ H fun σ2 H2 => tt σ2 H2 fun b H3 => if b = true then ti ys σ2 H3 (Pv (i + 1)) else Pv (i + 1) ys σ2 H3)
  (hd : ∀ ys σ H, Pv n ys σ H → Q ys σ H) : tNestW g tt ti (Itr lo n) ys σ H Q := by
 refine ⟨fun i m ys σ H => m = n - i ∧ i ≤ n ∧ Pv i ys σ H, ⟨n, by simp, Nat.zero_le _, h0⟩, ?_⟩
 rintro i m ys σ H ⟨rfl, hi, p⟩
 by_cases hlt : i < n
 ·refine .inr ⟨hlt, Pv (i + 1), fun ys' σ' H' p' => ⟨n - (i + 1), by omega, rfl, hlt, p'⟩, fun x H' y => ?_⟩
  obtain ⟨e, y⟩ := y
  subst e y
  exact hs i ys σ _ hlt p
 ·have e : i = n := by omega
  subst e
  exact .inl ⟨Nat.le_refl _, hd ys σ H p⟩
theorem pb {X : Cx} {N' : List Str} {scope : Scope} {C : Addr} {s : Shared} {H : Hp} {fp : List Addr} (i : Nat) {x : Str} {pos : Pos} (hN : N'.Nodup := by decide +kernel) (hi : N'[i]? = some x := by rfl) (hx : (relabel scope X.env).names.lookup x = some .local := by rfl) :
  PG (blk X N' scope C s H fp) (.Name x pos) (gName i) := ZC (X := blk X N' scope C s H fp) hN hi (.inl hx) (.inr hx)
def Def (P : Program) (w : World) (K : PySem.W.Frag) (mg : Str → Option Value) (base : Heap) (k : Nat) (x : Str) (ps : List Str) (sp : Sp) : Prop :=
 ∃ f fd, FnOk P w K mg base CX0 k f fd ps sp ∧ mg x = some (.ref f) ∧ PySem.W.keepIn K (.ref f) = true ∧ Binds K fd ps []
section
variable {X : Cx} {k : Nat} {x : Str} {ps : List Str} {sp : Sp} {e : Expr} {es : List Expr} {t : TA} {p pos : Pos}
theorem Zh (d : Def X.prog X.w X.K X.mg X.base k x ps sp) (hr : Room k X.A) (ha : PA X (e :: es) t) (hg : Gl X x := by rfl) (hdb : (x == ("__debug__" : Str)) = false := by decide)
  (he : starEach (e :: es) X.env = (false, eval e X.env) :: starEach es X.env := by rfl) (hpl : (backTo pos (starEach es X.env)).any (·.1) = false := by rfl) :
  PE X (.Call (.Name x p) (e :: es) [] pos) (tCall sp [] E0 t) := by
 obtain ⟨f, fd, F, hm, hk, hb⟩ := d
 exact WU F hr hg hm hk hb .nil pass0 ha hdb he hpl
end
def PlT (K : PySem.W.Frag) (H : Hp) (x : V) : Prop := ∃ T, TyOf K H x (.type T)
def whole : V → Bool
 | .int _ => true
 | _ => false
def wholeIn : V → Int → Int → Bool
 | .int i, a, b => decide (a ≤ i) && decide (i ≤ b)
 | _, _, _ => false
def tupH : Option HO → Option (List V)
 | some (.tup xs) => some xs
 | _ => none
def tupOf (H : Hp) : V → Option (List V)
 | .ref a => tupH (H a)
 | _ => none
theorem Zz {H : Hp} {a : Addr} : tupOf H (.ref a) = tupH (H a) := rfl
theorem Zo {H : Hp} {a : Addr} {xs : List V} (h : H a = some (.tup xs)) : tupOf H (.ref a) = some xs := by rw [Zz, h]; rfl
theorem ZaC {o : Option HO} {xs : List V} (h : tupH o = some xs) : o = some (.tup xs) := by
 cases o with
 | none => cases h
 | some o => cases o <;> first | (cases h; rfl) | cases h
theorem Zw {H : Hp} {x : V} {xs : List V} (h : tupOf H x = some xs) : ∃ a, x = .ref a ∧ H a = some (.tup xs) := by
 cases x with
 | ref a => exact ⟨a, rfl, ZaC h⟩
 | _ => cases h
theorem Same.tupOf {H H' : Hp} (s : Same H H') {x : V} {xs : List V} (h : L2.tupOf H x = some xs) : L2.tupOf H' x = some xs := by
 obtain ⟨a, rfl, q⟩ := Zw h
 exact Zo (s _ _ q)
theorem Same.plT {K : PySem.W.Frag} {H H' : Hp} (s : Same H H') {x : V} (h : PlT K H x) : PlT K H' x := by
 obtain ⟨T, t⟩ := h
 cases t with
 | non => exact ⟨_, .non⟩
 | bl y => exact ⟨_, .bl y⟩
 | int i => exact ⟨_, .int i⟩
 | str y => exact ⟨_, .str y⟩
 | flt y => exact ⟨_, .flt y⟩
 | lst e => exact ⟨_, .lst (s _ _ e)⟩
 | frz e => exact ⟨_, .frz (s _ _ e)⟩
 | tup e => exact ⟨_, .tup (s _ _ e)⟩
 | dK e => exact ⟨_, .dK (s _ _ e)⟩
 | dT e => exact ⟨_, .dT (s _ _ e)⟩
def isIntV : V → Bool
 | .int _ => true
 | .bl _ => true
 | _ => false
def isBlV : V → Bool
 | .bl _ => true
 | _ => false
theorem Zcx {K : PySem.W.Frag} {H : Hp} {x : V} {T : String} (t : TyOf K H x (.type T)) : PySem.W.kitOne K (.type T) (.type "int") = some (isIntV x) := by cases t <;> rfl
theorem ZbW {K : PySem.W.Frag} {H : Hp} {x : V} {T : String} (t : TyOf K H x (.type T)) : PySem.W.kitOne K (.type T) (.type "bool") = some (isBlV x) := by cases t <;> rfl
theorem Za0 {K : PySem.W.Frag} {H : Hp} {x : V} {T : String} (t : TyOf K H x (.type T)) : PySem.W.kitOne K (.type T) (.type "tuple") = some (tupOf H x).isSome := by
 cases t with
 | tup e => rw [Zo e]; rfl
 | lst e => rw [Zz, e]; rfl
 | frz e => rw [Zz, e]; rfl
 | dK e => rw [Zz, e]; rfl
 | dT e => rw [Zz, e]; rfl
 | _ => rfl
theorem Uu (x : V) : whole x = (isIntV x && !isBlV x) := by cases x <;> rfl
end L2
set_option Elab.async false
set_option linter.all false
set_option maxRecDepth 100000
namespace L2
open PySem PySem.Spec PyProof.Rows
def SameX (p : Addr) (H H' : Hp) : Prop := ∀ b o, H b = some o → b ≠ p → H' b = some o
theorem SameX.trans {p : Addr} {H H1 H2 : Hp} (a : SameX p H H1) (b : SameX p H1 H2) : SameX p H H2 := fun c o h n => b c o (a c o h n) n
theorem Same.x {p : Addr} {H H1 : Hp} (a : Same H H1) : SameX p H H1 := fun c o h _ => a c o h
theorem SameX.upd {p : Addr} {H : Hp} {o : HO} : SameX p H (L2.upd H p o) := fun b u h n => by rw [Zg n]; exact h
theorem Zc2 {X : Cx} (hu : X.A.units < cLine) : OpR X (compareOp .NotEq) (fun x y H Q => ∃ (a b : Addr) (xs : List V), x = .ref a ∧ y = .ref b ∧ SqL X.K H a xs ∧ SqL X.K H b [] ∧ Q (.bl (!xs.isEmpty)) H) := by
 intro pins s σ H x y u v Q I rx ry h
 obtain ⟨a, b, xs, rfl, rfl, ha, hb, q⟩ := h
 cases rx
 cases ry
 obtain ⟨its, rv, pl, hz⟩ := I.list ha
 obtain ⟨its2, rv2, pl2, hz2⟩ := I.list hb
 cases rv2
 cases rv with
 | nil => exact SeqAt.RcNeAt.lists (e := fun _ => true) pl.isList pl2.isList rfl hu (fun j h1 h2 => absurd h2 (by simp)) _ _ _ _ ⟨.bl false, H, I, rfl, q⟩
 | cons r t => exact SeqAt.RcNeAt.lists_lengths pl.isList pl2.isList (by simp) hu _ _ _ _ ⟨.bl true, H, I, rfl, q⟩
end L2
set_option Elab.async false
set_option linter.all false
set_option maxRecDepth 100000
namespace L2
open PySem PySem.Spec PyProof.Rows
section
variable {prog : Program} {w : World} {A : Around} {E : Value → Shared → Prop} {s : Shared}
theorem US {j t : Addr} {i : Nat} {its : Array Value} {x : Value} {Q : Value → Shared → Prop} (h1 : s.heap.IsTupleIter j t i) (h2 : s.heap.IsTuple t its) (hx : its[i]? = some x)
  (k : ∀ h', h'.IsTupleIter j t (i + 1) → Heap.SameBut j s.heap h' → Q x { s with heap := h' }) : wpAny (model prog w) A (Builtin.SmallTypes.nextOf (.ref j)) Q E s := by
 obtain ⟨o, eo, co, dO⟩ := id h1
 obtain ⟨ot, et, _, nt, dt⟩ := h2
 unfold Builtin.SmallTypes.nextOf
 refine wpAny_bind (wpAny_callSpecial?_slot (name := Str.ofString "__next__") h1.typeIs F.slot_tuple_iterator_next (wpAny_call_entry F.slot_tuple_iterator_next h1.typeIs F.entry_tuple_iterator_next ?_ (F.args_tuple_iterator_next_1 _)))
 show wpAny _ _ (field (.ref j) 0 >>= _) _ _ s
 refine wpAny_bind (wpAny_field eo dO (x := .ref t) rfl ?_)
 show wpAny _ _ (if (Value.ref t == Value.none) = true then _ else _) _ _ s
 rw [if_neg (show ¬ ((Value.ref t == Value.none) = true) from Bool.false_ne_true)]
 show wpAny _ _ (field (.ref j) 1 >>= _) _ _ s
 refine wpAny_bind (wpAny_field eo dO (x := .int i 0) rfl ?_)
 show wpAny _ _ (seqItems? (.ref t) >>= _) _ _ s
 refine wpAny_bind (wpAny_seqItems et dt ?_)
 simp only [Int.toNat_natCast, hx]
 refine wpAny_bind (wpAny_setField eo dO (by simp) (wpAny_pure ⟨x, rfl, wpAny_pure (k _ ⟨_, Heap.get?_update_self _ eo (Obj.isFreed_of_fields (Obj.data_mapFields dO _)), (Obj.cls_mapFields ..).trans co, ?_⟩ (Heap.SameBut.update ..))⟩))
 rw [Obj.data_mapFields dO]
 simp [rawInt]
theorem ZaO {j t : Addr} {i : Nat} {its : Array Value} {Q : Value → Shared → Prop} (hh : A.handled = none) (h1 : s.heap.IsTupleIter j t i) (h2 : s.heap.IsTuple t its) (hx : its[i]? = none)
  (k : ∀ h' e, Heap.ExtBut j s.heap h' → (∃ o, h'.get? e = some o ∧ o.cls = .type "StopIteration") → E (.ref e) { s with heap := h' }) : wpAny (model prog w) A (Builtin.SmallTypes.nextOf (.ref j)) Q E s := by
 obtain ⟨o, eo, co, dO⟩ := id h1
 obtain ⟨ot, et, _, nt, dt⟩ := h2
 unfold Builtin.SmallTypes.nextOf
 refine wpAny_bind (wpAny_callSpecial?_slot (name := Str.ofString "__next__") h1.typeIs F.slot_tuple_iterator_next (wpAny_call_entry F.slot_tuple_iterator_next h1.typeIs F.entry_tuple_iterator_next ?_ (F.args_tuple_iterator_next_1 _)))
 show wpAny _ _ (field (.ref j) 0 >>= _) _ _ s
 refine wpAny_bind (wpAny_field eo dO (x := .ref t) rfl ?_)
 show wpAny _ _ (if (Value.ref t == Value.none) = true then _ else _) _ _ s
 rw [if_neg (show ¬ ((Value.ref t == Value.none) = true) from Bool.false_ne_true)]
 show wpAny _ _ (field (.ref j) 1 >>= _) _ _ s
 refine wpAny_bind (wpAny_field eo dO (x := .int i 0) rfl ?_)
 show wpAny _ _ (seqItems? (.ref t) >>= _) _ _ s
 refine wpAny_bind (wpAny_seqItems et dt ?_)
 simp only [Int.toNat_natCast, hx]
 refine wpAny_bind (wpAny_rule (wpAny_bind (wpAny_setField eo dO (by simp) ?_)))
 show wpAny _ _ (newExc (.type "StopIteration") [] >>= _) _ _ _
 refine wpAny_bind ?_
 simp only [newExc, newTuple]
 refine wpAny_bind (wpAny_newObj_type ?_ (by size_fits))
 refine wpAny_bind (m := firstArgMember _ _) (wpAny_of_eq (a := Value.none) (by first | rfl | (simp only [firstArgMember]; rfl)) (wpAny_newObj_type ?_ (by size_fits)))
 simp only [raiseNew]
 refine wpAny_bind (wpAny_handled ?_)
 first | rw [show A.in1.handled = none from hh] | rw [hh]
 exact wpAny_bind (wpAny_pure (wpAny_throw (k _ _ (((Heap.SameBut.update ..).extBut.push _).push _) ⟨_, Heap.get?_push_size _ rfl, rfl⟩)))
end
theorem drawsT {prog : Program} {w : World} {A : Around} (hh : A.handled = none) (j t : Addr) (hne : t ≠ j) (its : Array Value) :
  Draws prog w A j [j, t] its.size (fun i v => its[i]? = some v) (fun i h => h.IsTupleIter j t i ∧ h.IsTuple t its) where
 live := fun _ _ st => let ⟨o, ho, _⟩ := st.1; ⟨o, ho⟩
 frame := fun _ _ _ st hk => ⟨st.1.at fun o e => hk j (by simp) o e, st.2.at fun o e => hk t (by simp) o e⟩
 item := fun i s Q E hi st hQ => US st.1 st.2 (x := its[i]) (by simp [hi]) fun h' a b => hQ _ h' s.toks (by simp [hi]) ⟨a, st.2.extBut b.extBut hne⟩ b
 done := fun s Q E st hE => ZaO hh st.1 st.2 (by simp) hE
section
variable {prog : Program} {w : World} {A : Around} {E : Value → Shared → Prop} {s : Shared}
theorem Za7 (l : Addr) (its : Array Value) (n : Nat) (dct : Option Addr) (sl : Array (Option Value)) :
  Meets (Builtin.«enumerate.__new__» ⟨[.type "enumerate", .ref l], []⟩) (fun _ R s => s.heap.get? l = some { cls := .type "tuple", dict := dct, data := .seq its n, slots := sl } ∧
   R (.ok (.ret (.ref (s.heap.push { cls := .type "tuple_iterator", data := .fields #[.ref l, .int 0 0] }).objs.size)))
    { s with heap := (s.heap.push { cls := .type "tuple_iterator", data := .fields #[.ref l, .int 0 0] }).push { cls := .type "enumerate", data := .fields #[.none, .bool false, .ref s.heap.objs.size, rawInt 0, .none, .none] } }) :=
 .of_wp fun prog w A R s h => by
  obtain ⟨hp, g, d, tk, os⟩ := s
  obtain ⟨hl, h⟩ := h
  have hsub := sub_enumerate
  have hL : Heap.IsTuple (Shared.heap ⟨hp, g, d, tk, os⟩) l its := ⟨_, hl, rfl, n, rfl⟩
  wp_walk using AutoSeq1.wpAny_loadPart' hl
  refine wpAny_stack_any fun st => wpAny_pure ?_
  split
  ·rename_i c _ _ _ _ _
   cases (c == Value.type "enumerate") <;> (wp_walk using AutoSeq1.wpAny_loadPart' hl, wpAny_pyIter_tuple hL; exact ⟨_, rfl, h⟩)
  ·wp_walk using AutoSeq1.wpAny_loadPart' hl, wpAny_pyIter_tuple hL
   exact ⟨_, rfl, h⟩
theorem U0 {l : Addr} {its : Array Value} {Q : Value → Shared → Prop} (hL : s.heap.IsTuple l its)
  (h : ∀ h', IsEnum h' (s.heap.objs.size + 1) s.heap.objs.size 0 .none → h'.IsTupleIter s.heap.objs.size l 0 → (∀ b o, s.heap.get? b = some o → h'.get? b = some o) → Q (.ref (s.heap.objs.size + 1)) { s with heap := h' }) :
  wpAny (model prog w) A (call (.type "enumerate") [.ref l]) Q E s := by
 obtain ⟨⟨c, dct, dt, sl⟩, hl, hc, n, hd⟩ := hL
 replace hc : c = .type "tuple" := hc
 replace hd : dt = .seq its n := hd
 subst hc hd
 refine callType_new F.called_enumerate (by decide) (F.typeCall_enumerate_1 _) (F.newCall_enumerate_1 _) (fun obj => F.args_object_init_2 obj _) F.entry_enumerate_new (Za7 l its n dct sl) ⟨hl, ?_⟩
 have hz : (s.heap.push { cls := .type "tuple_iterator", data := .fields #[.ref l, .int 0 0] }).objs.size = s.heap.objs.size + 1 := Heap.size_push ..
 show _ ∧ _
 rw [hz]
 have he : IsEnum ((s.heap.push { cls := .type "tuple_iterator", data := .fields #[.ref l, .int 0 0] }).push { cls := .type "enumerate", data := .fields #[.none, .bool false, .ref s.heap.objs.size, rawInt 0, .none, .none] }) (s.heap.objs.size + 1) s.heap.objs.size 0 .none := by
  have q := Heap.get?_push_size (s.heap.push { cls := .type "tuple_iterator", data := .fields #[.ref l, .int 0 0] }) (o := { cls := .type "enumerate", data := .fields #[.none, .bool false, .ref s.heap.objs.size, rawInt 0, .none, .none] }) rfl
  rw [hz] at q
  exact q
 exact ⟨⟨_, he, rfl⟩, h _ he ⟨_, Heap.get?_push_of_some _ (Heap.get?_push_size _ rfl), rfl, rfl⟩ fun b o x => Heap.get?_push_of_some _ (Heap.get?_push_of_some _ x)⟩
end
def Ite (K : PySem.W.Frag) (t : Addr) : It :=
 ⟨fun i H => ∃ xs x, SqT K H t xs ∧ xs[i]? = some x, fun i H x H' => ∃ (T : Addr) (y : V), x = .ref T ∧ H T = none ∧ H' = upd H T (.par [.int (i : Int), y]) ∧ ∀ xs, SqT K H t xs → xs[i]? = some y, fun i H => ∃ xs, SqT K H t xs ∧ xs.length = i⟩
theorem ZaB {P : Program} {w : World} {K : PySem.W.Frag} {elts : List Expr} {kk : Nat} {pos : Pos} (t e j : Addr) (hej : e ≠ j) (hte : t ≠ e) (htj : t ≠ j) :
  Turn P w K (.Tuple elts kk pos) (Ite K t) [e, j] e (fun i h => (∃ old, IsEnum h e j i old) ∧ h.IsTupleIter j t i) where
 mem := by simp
 obj := fun i h st b hb => by
  obtain ⟨⟨old, he⟩, o, ho, hc, hd⟩ := st
  rcases List.mem_cons.mp hb with rfl | hb
  ·exact ⟨_, he, fun v z => by cases z⟩
  ·rw [List.mem_singleton.mp hb]
   exact ⟨o, ho, fun v z => by rw [hd] at z; cases z⟩
 keep := fun i h h' st k => ⟨let ⟨old, he⟩ := st.1; ⟨old, k e (by simp) _ he⟩, st.2.at fun o q => k j (by simp) o q⟩
 item := by
  intro X hP hw hK hc i pins s σ H E I hf st hg
  subst hP hw hK
  obtain ⟨xs, x, hq, hx⟩ := hg
  obtain ⟨its, rv, p, hz⟩ := I.tuple hq
  obtain ⟨u, hu, ru⟩ := rv.get hx
  have hl := rv.length
  have hil : i < its.toArray.size := by
   have := (List.getElem?_eq_some_iff.mp hu).1
   simpa using this
  have W := WalksT.enumerateD (prog := X.prog) (w := X.w) (A := X.A) (drawsT (A := X.A.in1) (show X.A.in1.handled = none from I.ok.hd hc) j t htj its.toArray) e hej (by simp [hej, hte.symm]) (by simp)
  have hT : s.heap.IsTuple t its.toArray := p
  refine W.item i s _ _ hil ⟨st.1, st.2, hT⟩ fun T vals h' tk hP hTs hTup hmid hk => ⟨_, rfl, W.go elts kk pos i T _ _ _ hmid fun h'' st'' hk'' => ?_⟩
  obtain ⟨tk2, x2, hx2, rfl⟩ := hP
  have hx2' : its[i]? = some x2 := by simpa using hx2
  rw [hu] at hx2'
  cases hx2'
  have hTn : H T = none := I.hok.fresh hTs
  have both : ∀ b o, b ∉ [e, j] → s.heap.get? b = some o → h''.get? b = some o := fun b o hb q => hk'' b o hb (hk b o hb q)
  have hTw : T ∉ [e, j] := W.apart _ _ _ hmid
  have hTT : h''.IsTuple T #[.int i tk2, u] := hTup.at fun o q => hk'' T o hTw q
  have neT : ∀ b o, s.heap.get? b = some o → b ≠ T := fun b o q => Nat.ne_of_lt (Nat.lt_of_lt_of_le (Heap.lt_size q) hTs)
  have neT' : ∀ b o, H b = some o → b ≠ T := fun b o q => Zj q hTn
  have trk : ∀ b o, H b = some o → b ∉ [e, j] := fun b o q z => by
   have := (hf b z).1
   rw [this] at q; cases q
  refine ⟨.ref T, upd H T (.par [.int (i : Int), x]), ?_, rfl, ⟨T, x, rfl, hTn, rfl, fun ys hy => by rw [I.tuple_inj hy hq]; exact hx⟩, ⟨st''.1, st''.2.1⟩, fun b hb => ?_⟩
  ·refine (show Inv X pins σ (upd H T (.par [.int (i : Int), x])) { s with heap := h'', toks := tk } from ?_)
   refine I.call (g' := s.gens) (d' := s.drawn) (t' := tk) (h' := h'') (ch := [e, j]) ⟨fun b o q _ _ hx => both b o hx q, fun b o q _ _ hx => ⟨o.slots, both b o hx q⟩, fun b o q n hx => by rw [Zg (neT b o q)]; exact n, fun b o q hx => ⟨o, both b o hx q⟩,
    fun b ys q => by rw [Zg (neT' b _ q)]; exact q, fun b o u q => by rw [Zg (neT' b _ q)]; exact q, fun b ps q => ⟨#[], by rw [Zg (neT' b _ q), q]; simp⟩⟩ (fun b v q => ?_) I.bare fun b hb => ?_
   ·by_cases hb : b = T
    ·subst hb
     rw [Zc] at q
     cases q
     exact ⟨by show 2 ≤ sizeLine; decide, [.int i tk2, u], .cons ⟨tk2, rfl⟩ (.cons ru .nil), hTT⟩
    ·rw [Zg hb] at q
     refine (I.hok b v q).stay (fun c z hc' q' => both c z ?_ q') (fun c q' => by rw [Zg (neT' c _ q')]; exact q') fun c ys q' => by rw [Zg (neT' c _ q')]; exact q'
     rcases hc' with z' | z'
     ·rw [z']; exact trk b v q
     ·exact trk c _ z'
   ·obtain ⟨f0, f1, f2, f3, f4, f5⟩ := hf b hb
    exact ⟨f3, f1, f4, f5⟩
  ·rw [Zg (fun z => hTw (by rw [← z]; exact hb))]
   exact (hf b hb).1
 done := by
  intro X hP hw hK hc i pins s σ H E I hf st hg
  subst hP hw hK
  obtain ⟨xs, hq, hx⟩ := hg
  obtain ⟨its, rv, p, hz⟩ := I.tuple hq
  have hl := rv.length
  have W := WalksT.enumerateD (prog := X.prog) (w := X.w) (A := X.A) (drawsT (A := X.A.in1) (show X.A.in1.handled = none from I.ok.hd hc) j t htj its.toArray) e hej (by simp [hej, hte.symm]) (by simp)
  have hn : i = its.toArray.size := by rw [List.size_toArray]; omega
  have hT : s.heap.IsTuple t its.toArray := p
  rw [hn] at st
  refine W.done s _ _ ⟨st.1, st.2, hT⟩ fun h' tk hk => ⟨rfl, ?_⟩
  have trk : ∀ b o, H b = some o → b ∉ [e, j] := fun b o q z => by
   have := (hf b z).1
   rw [this] at q; cases q
  refine I.call (g' := s.gens) (d' := s.drawn) (t' := tk) (h' := h') (ch := [e, j]) ⟨fun b o q _ _ hx => hk b o hx q, fun b o q _ _ hx => ⟨o.slots, hk b o hx q⟩, fun b o q n hx => n, fun b o q hx => ⟨o, hk b o hx q⟩, fun b ys q => q, fun b o u q => q, fun b ps q => ⟨#[], by rw [q]; simp⟩⟩ (fun b v q => ?_) I.bare fun b hb => ?_
  ·refine (I.hok b v q).stay (fun c z hc' q' => hk c z ?_ q') (fun _ q' => q') fun _ _ q' => q'
   rcases hc' with z' | z'
   ·rw [z']; exact trk b v q
   ·exact trk c _ z'
  ·obtain ⟨f0, f1, f2, f3, f4, f5⟩ := hf b hb
   exact ⟨f3, f1, f4, f5⟩
 self := fun A i s Q E st h => let ⟨old, he⟩ := st.1; wpAny_pyIter_enum he h
section
variable {X : Cx} {elts : List Expr} {kk : Nat} {tp : Pos}
def iEnum (K : PySem.W.Frag) (ta : TA) : TI := fun σ H R => ta σ H fun vs H1 => ∃ t, vs = [.ref t] ∧ (∃ xs, SqT K H1 t xs) ∧ R (Ite K t) H1
theorem Zad {a : Expr} {ta : TA} {p pos : Pos} (hg : Gl X "enumerate") (hm : X.mg "enumerate" = none) (ha : PA X [a] ta) (hs : starEach [a] X.env = [(false, eval a X.env)] := by rfl) : PI X (.Tuple elts kk tp) (.Call (.Name "enumerate" p) [a] [] pos) (iEnum X.K ta) := by
 intro pins s σ H R I h
 refine Call_ (YE I hg hm boot_enumerate (PyProof.Rows.callWith_type1 (thn (ha pos pins s σ H _ I h) fun us s1 ⟨vs, H1, I1, r1, q1⟩ => ?_) hs rfl))
 obtain ⟨t, e, ⟨xs, hq⟩, q⟩ := q1
 subst e
 obtain ⟨u, rfl, ru⟩ := vals1 r1
 cases ru
 obtain ⟨its, rv, pl, hz⟩ := I1.tuple hq
 have hT : s1.heap.IsTuple t its.toArray := pl
 have ht : t < s1.heap.objs.size := by obtain ⟨o, ho, _⟩ := hT; exact Heap.lt_size ho
 refine U0 hT fun h' he hj hk => wpAny_pyIter_enum he ?_
 have I2 : Inv X pins σ H1 { s1 with heap := h' } := I1.kept (t' := s1.toks) hk
 refine ⟨s1.heap.objs.size + 1, [s1.heap.objs.size + 1, s1.heap.objs.size], _, _, H1, rfl, I2, ZaB t _ _ (Nat.succ_ne_self _) (Nat.ne_of_lt (Nat.lt_succ_of_lt ht)) (Nat.ne_of_lt ht), ⟨⟨_, he⟩, hj⟩, fun b hb => ?_, q⟩
 have hbs : s1.heap.objs.size ≤ b := by
  rcases List.mem_cons.mp hb with z | z
  ·rw [z]; exact Nat.le_succ _
  ·rw [List.mem_singleton.mp z]; exact Nat.le_refl _
 exact I1.fpOk hbs (I1.hok.fresh hbs)
end
theorem Ww {K : PySem.W.Frag} {a : Addr} {xs : List V} {g : TG} {tt : TT} {ti : TC} {ys : List V} {σ : St} {H : Hp} {Q : List V → St → Hp → Prop} (Pv : Nat → List V → St → Hp → Prop) (h0 : Pv 0 ys σ H)
  (hl : ∀ i ys σ H, i ≤ xs.length → Pv i ys σ H → SqT K H a xs)
  (hs : ∀ i x T ys σ H, xs[i]? = some x → H T = none → Pv i ys σ H → g (.ref T) σ (upd H T (.par [.int (i : Int), x])) fun σ2 H2 => tt σ2 H2 fun b H3 => if b = true then ti ys σ2 H3 (Pv (i + 1)) else Pv (i + 1) ys σ2 H3)
  (hd : ∀ ys σ H, Pv xs.length ys σ H → Q ys σ H) : tNestW g tt ti (Ite K a) ys σ H Q := by
 refine ⟨fun i m ys σ H => m = xs.length - i ∧ i ≤ xs.length ∧ Pv i ys σ H, ⟨xs.length, by simp, Nat.zero_le _, h0⟩, ?_⟩
 rintro i m ys σ H ⟨rfl, hi, p⟩
 have q := hl i ys σ H hi p
 by_cases hlt : i < xs.length
 ·refine .inr ⟨⟨xs, xs[i], q, by simp [hlt]⟩, Pv (i + 1), fun ys' σ' H' p' => ⟨xs.length - (i + 1), by omega, rfl, hlt, p'⟩, fun x H' y => ?_⟩
  obtain ⟨T, z, e1, e2, e3, e4⟩ := y
  subst e1 e3
  exact hs i z T ys σ H (e4 xs q) e2 p
 ·have e : i = xs.length := by omega
  subst e
  exact .inl ⟨⟨xs, q, rfl⟩, hd ys σ H p⟩
end L2
set_option Elab.async false
set_option linter.all false
set_option maxRecDepth 100000
namespace L2
open PySem PySem.Spec PyProof.Rows
structure Fl (P : Program) (w : World) (outer : List Env) (H : Hp) (s : Shared) (e C : Addr) (H' : Hp) (s' : Shared) : Prop where
 os : s'.os = s.os
 bare : AllBare s'.gens
 un : Un (frs outer) [] H H' s.heap s'.heap
 hok : HOk P w H' s'.heap
 fly : ∃ B a0, Heap.FlyingW B outer e (.ref C) a0 s'.heap ∧ (∀ b o, s.heap.get? b = some o → b ∉ frs outer → ∃ u, B.get? b = some u) ∧ ∀ b o, H' b = some o → ∃ u, B.get? b = some u
def CXR (P : Program) (w : World) : CXT := fun outer H s E ev s' => ∃ e C H', ev = .ref e ∧ Fl P w outer H s e C H' s' ∧ E (.ref e) (some C) H'
section
variable {P : Program} {w : World} {base : Heap} {env : Env} {outer : List Env} {s0 s1 s2 : Shared} {H0 H1 H2 : Hp} {e C L : Addr} {A : Around}
theorem Yv {B h1 h2 : Heap} {H : Hp} (x : HOk P w H h1) (cov : ∀ b o, H b = some o → ∃ u, B.get? b = some u) (k1 : B.StaysIn h1) (k2 : B.StaysIn h2) : HOk P w H h2 := fun a o ha =>
  (x a o ha).stay (fun b u hb hq => by
    have : ∃ u', B.get? b = some u' := by
      rcases hb with rfl | hb
      · exact cov _ _ ha
      · exact cov _ _ hb
    obtain ⟨u', hu⟩ := this
    have e1 := k1 b u' hu
    rw [hq] at e1
    cases e1
    exact k2 b _ hu) (fun _ q => q) fun _ _ q => q
theorem JL {B h' : Heap} (u0 : Un (frs outer) [] H0 H1 s0.heap s1.heap) (u1 : Un (frs (env :: outer)) [] H1 H2 s1.heap s2.heap) (hf : env.frame = some L) (ab : s0.heap.objs.size ≤ L) (fu : s0.heap.FunFrames base outer) (fz : ∀ b ∈ frs outer, H0 b = none)
  (cov : ∀ b o, s1.heap.get? b = some o → b ∉ frs (env :: outer) → ∃ u, B.get? b = some u) (k1 : B.StaysIn s2.heap) (k2 : B.StaysIn h') (up : s2.heap.UpToSlots h') : Un (frs outer) [] H0 H2 s0.heap h' := by
 have hmem : ∀ b, b ∈ frs (env :: outer) ↔ b = L ∨ b ∈ frs outer := fun b => by
  show b ∈ (env :: outer).filterMap (·.frame) ↔ _
  rw [List.filterMap_cons_some (f := fun (x : Env) => x.frame) (a := env) (b := L) hf, List.mem_cons]
  exact Iff.rfl
 have out : ∀ b o, s0.heap.get? b = some o → b ∉ frs outer → b ∉ frs (env :: outer) := fun b o hb hn hm => by
  rcases (hmem b).mp hm with q | q
  ·rw [q] at hb
   exact absurd (Nat.lt_of_lt_of_le (Heap.lt_size hb) ab) (Nat.lt_irrefl _)
  ·exact hn q
 have keepB : ∀ b o u, s2.heap.get? b = some o → B.get? b = some u → h'.get? b = some o := fun b o u hb hu => by
  have e1 := k1 b u hu
  rw [hb] at e1
  cases e1
  exact k2 b _ hu
 have slotF : ∀ b o, s0.heap.get? b = some o → b ∈ frs outer → ∃ sl, h'.get? b = some { o with slots := sl } := fun b o hb hm => by
  obtain ⟨_, o', ho', nf⟩ := fu.mem hm
  rw [hb] at ho'
  cases ho'
  obtain ⟨sl1, e1⟩ := u0.slot b o hb (fz b hm) hm (by simp)
  have n1 := u0.free b o hb (fz b hm) (by simp)
  obtain ⟨sl2, e2⟩ := u1.slot b _ e1 n1 ((hmem b).mpr (.inr hm)) (by simp)
  obtain ⟨sl3, e3⟩ := up b _ e2 nf
  exact ⟨sl3, e3⟩
 refine ⟨fun b o hb hn hnf _ => ?_, fun b o hb hn hm _ => slotF b o hb hm, fun b o hb hn hx => ?_, fun b o hb _ => ?_, fun b xs hb => u1.tups b xs (u0.tups b xs hb), fun b o u hb => u1.frzs b o u (u0.frzs b o u hb), fun b ps hb => ?_⟩
 ·have e1 := u0.keep b o hb hn hnf (by simp)
  have n1 := u0.free b o hb hn (by simp)
  have hb' := out b o hb hnf
  have e2 := u1.keep b o e1 n1 hb' (by simp)
  obtain ⟨u, hu⟩ := cov b o e1 hb'
  exact keepB b o u e2 hu
 ·obtain ⟨o1, e1⟩ := u0.there b o hb (by simp)
  have n1 := u0.free b o hb hn (by simp)
  exact u1.free b o1 e1 n1 (by simp)
 ·by_cases hm : b ∈ frs outer
  ·obtain ⟨sl, q⟩ := slotF b o hb hm
   exact ⟨_, q⟩
  ·obtain ⟨o1, e1⟩ := u0.there b o hb (by simp)
   obtain ⟨u, hu⟩ := cov b o1 e1 (out b o hb hm)
   exact ⟨u, k2 b u hu⟩
 ·obtain ⟨m1, q1⟩ := u0.tbls b ps hb
  obtain ⟨m2, q2⟩ := u1.tbls b _ q1
  exact ⟨m1 ++ m2, by rw [q2, Array.append_assoc]⟩
end
theorem passR {P : Program} {w : World} {K : PySem.W.Frag} {mg : Str → Option Value} {base : Heap} {N : List Str} {qual : Str} {scope : Scope} {f : Addr} {cd : Value} {A : Around} {outer : List Env} {s : Shared} {H : Hp} {E : XK} :
  Passes (CXR P w) (cxOf (CXR P w) P w K mg base N qual scope f cd A outer s H E) E := by
 intro pins σ H1 s1 ev s2 I h
 obtain ⟨e, C, H', rfl, F, hE⟩ := h
 obtain ⟨B, a0, fl, cov, covT⟩ := F.fly
 refine wpAny_leaves_onW (L := s.heap.objs.size) I.ok.frames rfl fl fun h' fl' up => ?_
 refine ⟨e, C, H', rfl, ⟨F.os.trans I.os, F.bare, JL (base := base) (L := s.heap.objs.size) I.base F.un rfl (Nat.le_refl _) I.ok.funs I.ok.frf cov fl.1 fl'.1 up, Yv F.hok covT fl.1 fl'.1, B, a0, fl', fun b o hb hn => ?_, covT⟩, hE⟩
 obtain ⟨o1, e1⟩ := I.base.there b o hb (by simp [cxOf])
 refine cov b o1 e1 fun hm => ?_
 have hm' : b ∈ (envOfC qual scope s.heap.objs.size f cd :: outer).filterMap (·.frame) := hm
 rw [List.filterMap_cons_some (f := fun (x : Env) => x.frame) (a := envOfC qual scope s.heap.objs.size f cd) (b := s.heap.objs.size) rfl] at hm'
 rcases List.mem_cons.mp hm' with q | q
 ·rw [q] at hb
  exact absurd (Heap.lt_size hb) (Nat.lt_irrefl _)
 ·exact hn q
theorem ZcA {K : PySem.W.Frag} {h : Heap} {C : Addr} {bmB : List Value} {newId : String} (X : K.In h) (q : PySem.W.excIn K C bmB newId = true) :
  ∃ bm N nm qn bs hdct sn sub ab col dd k0 k1 k2 k3 k5 mN, h.get? C = some (excClassObj nm qn C N bs bm hdct sn sub ab col dd k0 k1 k2 k3 k5 newId) ∧ h.Ns N mN ∧ mN "__init__" = none ∧ OwnTail h bmB bm := by
 unfold PySem.W.excIn at q
 split at q
 ·rename_i dd cd sl lk
  split at q
  ·rename_i c2 bm j0 j1 j2 j3 nn j5 em es
   rw [Bool.and_eq_true, Bool.and_eq_true, Bool.and_eq_true, Bool.and_eq_true, Bool.and_eq_true] at q
   obtain ⟨⟨⟨⟨⟨q1, q2⟩, q3⟩, q4⟩, q5⟩, q6⟩ := q
   have z1 := beq_iff_eq.mp q1
   have z2 := beq_iff_eq.mp q2
   have z6 := beq_iff_eq.mp q6
   subst z1 z2
   have ob := X _ _ lk
   have z3 : cd.hasDel = false := by revert q3; cases cd.hasDel <;> simp
   have zs : sl = #[j0, j1, j2, j3, some (.builtin nn), j5] := by
    apply Array.toList_inj.mp
    rw [es]
   refine ⟨bm, cd.ns, cd.name, cd.qualname, cd.bases, cd.hasDict, cd.slotNames, cd.subclasses, cd.abstract, cd.collection, dd, j0, j1, j2, j3, j5, h.nsMap cd.ns, ?_, .of_isNs (PySem.W.isNs_of_in X q5), PySem.W.nsMap_none_of_in X q5 z6, PySem.W.tail_of_in X q4⟩
   rw [ob, zs]
   obtain ⟨a1, a2, a3, a4, a5, a6, a7, a8, a9, a10, a11⟩ := cd
   cases em
   cases z3
   rfl
  ·cases q
 ·cases q
def tRaise (C : Addr) (E : XK) (ta : TA) : TS := fun _ σ H => ta σ H fun vs H1 => vs.length ≤ sizeLine ∧ ∀ e, E (.ref e) (some C) H1
theorem Um {P : Program} {w : World} {K : PySem.W.Frag} {mg : Str → Option Value} {base : Heap} {N : List Str} {qual : Str} {scope : Scope} {f : Addr} {cd : Value} {A : Around} {outer : List Env} {s s1 : Shared} {H H1 : Hp} {E : XK}
  {pins : List (Addr × Obj)} {σ : St} {h' : Heap} {e C : Addr} {vs : List Value} (I : Inv (cxOf (CXR P w) P w K mg base N qual scope f cd A outer s H E) pins σ H1 s1) (mk : Heap.MadeExcOf s1.heap h' e (.ref C) vs) (hE : E (.ref e) (some C) H1) :
  (cxOf (CXR P w) P w K mg base N qual scope f cd A outer s H E).xe (.ref e) { s1 with heap := h' } := by
 have hin : ∀ env ∈ (envOfC qual scope s.heap.objs.size f cd :: outer), ∀ b, env.frame = some b → b ∈ frs (envOfC qual scope s.heap.objs.size f cd :: outer) := fun env he b hb => List.mem_filterMap.mpr ⟨env, he, hb⟩
 have st := I.stack
 refine wpAny_leaves_madeW (L := s.heap.objs.size) (base := PySem.W.hideAll s1.heap (frs (envOfC qual scope s.heap.objs.size f cd :: outer))) (h := s1.heap) I.ok.frames rfl (fun b o q => PySem.W.of_hideAll _ q) (PySem.W.funFrames_hide st hin) mk fun h2 t fl tp _ up => ?_
 have cov : ∀ b o, s1.heap.get? b = some o → b ∉ frs (envOfC qual scope s.heap.objs.size f cd :: outer) → ∃ u, (PySem.W.hideAll s1.heap (frs (envOfC qual scope s.heap.objs.size f cd :: outer))).get? b = some u := fun b o hb hn => ⟨o, PySem.W.hideAll_get _ hb hn⟩
 have covT : ∀ b o, H1 b = some o → ∃ u, (PySem.W.hideAll s1.heap (frs (envOfC qual scope s.heap.objs.size f cd :: outer))).get? b = some u := fun b o hb => by
  have hl := I.hok.lt hb
  have hx : ∃ u, s1.heap.get? b = some u := by
   have ok := I.hok b o hb
   cases o with
   | lst xs => obtain ⟨_, _, _, _, q⟩ := ok; exact ⟨_, q⟩
   | tup xs => obtain ⟨_, _, _, ⟨ob, q, _⟩, _⟩ := ok; exact ⟨_, q⟩
   | par xs => obtain ⟨_, _, _, ob, q, _⟩ := ok; exact ⟨_, q⟩
   | dK kvs => obtain ⟨_, _, _, _, ob, _, _, q, _⟩ := ok; exact ⟨_, q⟩
   | dT kvs => obtain ⟨_, _, _, _, ob, _, _, q, _⟩ := ok; exact ⟨_, q⟩
   | set S n => obtain ⟨ob, _, _, _, q, _⟩ := ok; exact ⟨_, q⟩
   | ins C dx fs => obtain ⟨_, _, _, q, _⟩ := ok; exact ⟨_, q⟩
   | own y => exact ok
   | xd fs => obtain ⟨_, ⟨_, _, _, q, _⟩, _⟩ := ok; exact ⟨_, q⟩
   | rng lo hi => obtain ⟨_, _, _, q⟩ := ok; exact ⟨_, q⟩
   | frz ob u => exact ⟨_, ok.1⟩
   | tbl ps => exact ⟨_, (show s1.heap.get? b = some _ from ok)⟩
   | met f y => exact ⟨_, (show s1.heap.get? b = some _ from ok)⟩
   | ext φ => exact ok.2.1
  obtain ⟨u, hu⟩ := hx
  exact cov b u hu fun hm => by
   have := I.stkFree b hm
   rw [this] at hb
   cases hb
 have k1 : Heap.StaysIn (PySem.W.hideAll s1.heap (frs (envOfC qual scope s.heap.objs.size f cd :: outer))) h' := fun b o q => mk.keeps b o (PySem.W.of_hideAll _ q)
 refine ⟨e, C, H1, rfl, ⟨I.os, I.bare, JL (s1 := s1) (s2 := { s1 with heap := h' }) (base := base) (L := s.heap.objs.size) I.base (Un.kept mk.keeps) rfl (Nat.le_refl _) I.ok.funs I.ok.frf cov k1 fl.1 up, Yv (I.hok.kept mk.keeps) covT k1 fl.1, _, _, fl, fun b o hb hn => ?_, covT⟩, hE⟩
 obtain ⟨o1, e1⟩ := I.base.there b o hb (by simp [cxOf])
 refine cov b o1 e1 fun hm => ?_
 have hm' : b ∈ (envOfC qual scope s.heap.objs.size f cd :: outer).filterMap (·.frame) := hm
 rw [List.filterMap_cons_some (f := fun (x : Env) => x.frame) (a := envOfC qual scope s.heap.objs.size f cd) (b := s.heap.objs.size) rfl] at hm'
 rcases List.mem_cons.mp hm' with q | q
 ·rw [q] at hb
  exact absurd (Heap.lt_size hb) (Nat.lt_irrefl _)
 ·exact hn q
theorem Ub {P : Program} {w : World} {K : PySem.W.Frag} {mg : Str → Option Value} {base : Heap} {N : List Str} {qual : Str} {scope : Scope} {f : Addr} {cd : Value} {A : Around} {outer : List Env} {s : Shared} {H : Hp} {E : XK} {x : Str} {C : Addr} {B newId initId : String} {bmB : List Value}
  {e₀ : Expr} {rest : List Expr} {np cpos pos : Pos} {ta : TA} (FB : ExcBaseFacts B newId initId bmB) (hmg : mg x = some (.ref C)) (hex : PySem.W.excIn K C bmB newId = true) (hg : Gl (cxOf (CXR P w) P w K mg base N qual scope f cd A outer s H E) x)
  (ha : PA (cxOf (CXR P w) P w K mg base N qual scope f cd A outer s H E) (e₀ :: rest) ta)
  (he : starEach (e₀ :: rest) (envOfC qual scope s.heap.objs.size f cd) = (false, eval e₀ (envOfC qual scope s.heap.objs.size f cd)) :: starEach rest (envOfC qual scope s.heap.objs.size f cd) := by rfl)
  (hpl : (backTo cpos (starEach rest (envOfC qual scope s.heap.objs.size f cd))).any (·.1) = false := by rfl) (hd : (x == ("__debug__" : Str)) = false := by decide) :
  PS (cxOf (CXR P w) P w K mg base N qual scope f cd A outer s H E) (.Raise (some (.Call (.Name x np) (e₀ :: rest) [] cpos)) none pos) (tRaise C E ta) := by
 intro pins s1 σ H1 D I h
 obtain ⟨bm, Nn, nm, qn, bs, hdct, sn, sub, ab, col, dd, k0, k1, k2, k3, k5, mN, hC, hN, hni, T⟩ := ZcA I.mod.kin hex
 refine wpAny_Raise_call_subT (C := C) (nm := nm) (q := qn) (N := Nn) (bs := bs) (bm := bm) (hdct := hdct) (sn := sn) (sub := sub) (ab := ab) (col := col) (dd := dd) (k0 := k0) (k1 := k1) (k2 := k2) (k3 := k3) (k5 := k5)
  FB (mN := mN) (T.hasType FB.hasBase) (I.ok.hd rfl) ?_ hni (YY I hg hmg ⟨rfl, ?_⟩ hd)
 ·show (backTo cpos (starEach (e₀ :: rest) (envOfC qual scope s.heap.objs.size f cd))).any (·.1) = false
  rw [he]
  show (false || (backTo cpos (starEach rest (envOfC qual scope s.heap.objs.size f cd))).any (·.1)) = false
  rw [hpl]
  rfl
 ·have q := ha cpos pins s1 σ H1 _ I h
  show wpAny _ _ (evalArgs (.ref C) true (backTo cpos (starEach (e₀ :: rest) (envOfC qual scope s.heap.objs.size f cd))) []) _ _ _
  have q' : wpAny (model P w) (A.deeper (envOfC qual scope s.heap.objs.size f cd)) (spliced (backTo cpos (starEach (e₀ :: rest) (envOfC qual scope s.heap.objs.size f cd)))) _ _ s1 := q
  rw [he] at q' ⊢
  refine Calls.evalArgs_plain (wpAny_mono q' (fun us s2 h2 => ?_) fun _ _ y => y)
  obtain ⟨vs, H2, I2, r, hz, hE⟩ := h2
  refine ⟨rfl, by rw [← r.length]; exact hz, I2.bk _ _ hC, hN.keeps I2.bk, T.keeps I2.bk, fun h' e mk => ?_⟩
  exact Um I2 mk (hE e)
end L2
set_option Elab.async false
set_option linter.all false
set_option maxRecDepth 100000
namespace L2
open PySem PySem.Spec PyProof.Rows
section
variable {X : Cx}
def tFs (ta tb : TE) : TE := fun σ H Q => ta σ H fun v H1 => ∃ x, v = .str x ∧ (Str.empty ++ x).length ≤ sizeLine ∧ tb σ H1 fun u H2 => ∃ n : Int, u = .int n ∧ n.natAbs.log2 < 1920 ∧ (Str.empty ++ x ++ (Str.ofString (toString n))).length ≤ sizeLine ∧ ∀ z, Q (.str z) H2
theorem Zcj {a b : Expr} {ta tb : TE} {p pos : Pos} (ha : PE X a ta) (hb : PE X b tb) : PE X (.JoinedStr [a, .FormattedValue b (-1) none p] pos) (tFs ta tb) := by
 intro pins s σ H Q I h
 refine JoinedStr_many (joinParts_cons (wpAny_mono (ha pins s σ H _ I h) (fun u s1 h1 => ?_) fun _ _ y => y))
 obtain ⟨v, H1, I1, r1, x, rfl, hz, h2⟩ := h1
 obtain ⟨t, rfl⟩ := r1
 refine ⟨hz, joinParts_cons (FormattedValue_plain (wpAny_mono (hb pins s1 σ H1 _ I1 h2) (fun u s2 h3 => ?_) fun _ _ y => y))⟩
 obtain ⟨v, H2, I2, r2, n, rfl, hn, hz2, q⟩ := h3
 obtain ⟨t2, rfl⟩ := r2
 refine formatField_int_small hn ⟨hz2, ?_⟩
 refine joinParts_nil ?_ hz2
 exact ⟨.str _, H2, (I2.tok _).tok _, ⟨_, rfl⟩, q _⟩
end
section
variable {P : Program} {w : World} {K : PySem.W.Frag} {mg : Str → Option Value} {base : Heap}
theorem Fun.okR {x qual : Str} {st : Stmt} {f : Addr} {fd : FuncData} {N ps : List Str} {k : Nat} {sp : Sp} (F : Fun K x qual st f fd) (S : FnScope N ps (defScope st)) (len : ∀ vs H Q E, sp vs H Q E → vs.length = ps.length)
    (hb : ∀ (cdv : Value) (A : Around) (outer : List Env) (s : Shared) (H : Hp) (vs : List V) (Q : VK) (E : XK), Room k (A.deeper (envOfC qual (defScope st) s.heap.objs.size f cdv)) → sp vs H Q E →
      ∃ t, PSs (cxOf (CXR P w) P w K mg base N qual (defScope st) f cdv A outer s H E) (defBody st) t ∧ t { nx := fun _ H' => Q .non H', rt := Q } (start N vs) H) : FnOk P w K mg base (CXR P w) (k + 1) f fd ps sp := by
  obtain ⟨oc, od, kV, doc, pm, an, cdv, ct, osl, rfl, lk, hcd⟩ := F.ex
  exact Zb2 lk hcd S len fun A outer s H vs Q E hr hsp => hb cdv A outer s H vs Q E hr hsp
def DefR (P : Program) (w : World) (K : PySem.W.Frag) (mg : Str → Option Value) (base : Heap) (k : Nat) (x : Str) (ps : List Str) (sp : Sp) : Prop :=
 ∃ f fd, FnOk P w K mg base (CXR P w) k f fd ps sp ∧ mg x = some (.ref f) ∧ PySem.W.keepIn K (.ref f) = true ∧ Binds K fd ps []
theorem Yl {N : List Str} {qual : Str} {scope : Scope} {f : Addr} {cd : Value} {A : Around} {outer : List Env} {s : Shared} {H : Hp} {E : XK} {k : Nat} {x : Str} {ps : List Str} {sp : Sp} {e : Expr} {es : List Expr} {t : TA} {p pos : Pos}
  (d : DefR P w K mg base k x ps sp) (hr : Room k (A.deeper (envOfC qual scope s.heap.objs.size f cd))) (ha : PA (cxOf (CXR P w) P w K mg base N qual scope f cd A outer s H E) (e :: es) t) (hg : Gl (cxOf (CXR P w) P w K mg base N qual scope f cd A outer s H E) x := by rfl)
  (hdb : (x == ("__debug__" : Str)) = false := by decide)
  (he : starEach (e :: es) (envOfC qual scope s.heap.objs.size f cd) = (false, eval e (envOfC qual scope s.heap.objs.size f cd)) :: starEach es (envOfC qual scope s.heap.objs.size f cd) := by rfl)
  (hpl : (backTo pos (starEach es (envOfC qual scope s.heap.objs.size f cd))).any (·.1) = false := by rfl) :
  PE (cxOf (CXR P w) P w K mg base N qual scope f cd A outer s H E) (.Call (.Name x p) (e :: es) [] pos) (tCall sp [] E t) := by
 obtain ⟨g, fd, F, hm, hk, hb⟩ := d
 exact WU F hr hg hm hk hb .nil passR ha hdb he hpl
end
end L2
set_option Elab.async false
set_option linter.all false
set_option maxRecDepth 100000
namespace L2
open PySem PySem.Spec PyProof.Rows PySem.Builtin PySem.Builtin.ObjectAttr PySem.Builtin.Getset_descriptor
def excO (e C : Addr) : HO := .ext fun h => ∃ o, h.get? e = some o ∧ o.cls = .ref C
structure ExcK (K : PySem.W.Frag) (C : Addr) : Prop where
 ga : PySem.W.findIn K (.ref C) "__getattribute__" = some (some (.builtin "BaseException.__getattribute__"))
 hook : PySem.W.findIn K (.ref C) "__getattr__" = some none
 cl : PySem.W.findIn K (.ref C) "__class__" = some (some (.builtin "object.__class__"))
 ob : PySem.W.mroIn K C (.type "object") = some true
 bx : PySem.W.mroIn K C (.type "BaseException") = some true
 cls : (PySem.W.clsIn K C).isSome = true
section
variable {prog : Program} {w : World} {A : Around} {E : Value → Shared → Prop} {s : Shared} {K : PySem.W.Frag} {e C : Addr} {o : Obj} {R : Result → Shared → Prop}
theorem Jv {M : Model} {h : Heap} (hx : h.get? e = some o) (hc : o.cls = .ref C) : PySem.W.Looks M h (typeOf (.ref e)) (.ref C) := hc ▸ (PySem.W.Looks.ld hx).andThen .now
theorem Zb4 {tp : Value} (X : K.In s.heap) (hx : s.heap.get? e = some o) (hc : o.cls = .ref C) (Z : ExcK K C) (h : R (.ok (.ret (.ref C))) s) :
  codeAny (model prog w) A (.call (.builtin "getset_descriptor.__get__") ⟨[.builtin "object.__class__", .ref e, tp], []⟩) R s := by
 obtain ⟨h0, g0, d0, t0, o0⟩ := s
 have LT := Jv (M := model prog w) hx hc
 have LM := PySem.W.looks_mroIn (M := model prog w) X Z.ob
 refine codeAny_call_builtin PySem.W.KF.slot_gs.plain PySem.W.KF.entry_gs (PySem.W.KF.slot_gs.check _ _ _ _ _ _ _ _ PySem.W.KF.type_class (PySem.W.KF.args_gs _ _ _) ?_)
 unfold Builtin.«getset_descriptor.__get__» descrGet
 rw [PySem.W.dga_obj]
 refine wpAny_bind (wpAny_pure ?_)
 unfold descrGetter descrCheckInstance descrNameAndClass isInstance
 simp only [PySem.W.KF.owner_class]
 repeat lk
 refine ⟨Code.quiet_builtin _ (by decide +kernel), codeAny_builtin PySem.W.KF.entry_class ?_⟩
 unfold Builtin.«object.__class__» shownTypeOf
 repeat lk
 exact h
theorem Za6 {tk : Tok} {Q : PySem.Fin → Shared → Prop} (X : K.In s.heap) (hx : s.heap.get? e = some o) (hc : o.cls = .ref C) (Z : ExcK K C) (hq : Q (.done (.ret (.ref C))) s) :
  wpAny (model prog w) A (Builtin.«object.__getattribute__» ⟨[.ref e, .str "__class__" tk], []⟩) Q E s := by
 obtain ⟨h0, g0, d0, t0, o0⟩ := s
 have LT := Jv (M := model prog w) hx hc
 have LC := PySem.W.looks_findIn (M := model prog w) X Z.cl
 have hT5 : (⟨h0, g0, d0, t0, o0⟩ : Shared).TypeIs (.builtin "object.__class__") "getset_descriptor" := F.typeOf_object_class
 have f5 := F.typeOf_object_class
 have f6 := F.slot_gs_get.lookup
 have f7 := F.slot_gs_set.lookup
 repeat (any_goals (first | assumption | with_reducible refine LT.at ?_ | with_reducible refine LC.at ?_ | wp_step))
 refine Zb4 (s := ⟨h0, g0, d0, t0, o0⟩) X hx hc Z ?_
 exact wpAny_pure hq
theorem Zb5 {tk : Tok} (X : K.In s.heap) (hx : s.heap.get? e = some o) (hc : o.cls = .ref C) (Z : ExcK K C) (hq : R (.ok (.ret (.ref C))) s) :
  codeAny (model prog w) A (.call (.builtin "BaseException.__getattribute__") ⟨[.ref e, .str "__class__" tk], []⟩) R s := by
 refine codeAny_call_builtin F.attr_ValueError.ga.plain F.entry_bexc_ga ?_
 obtain ⟨h0, g0, d0, t0, o0⟩ := s
 have LT := Jv (M := model prog w) hx hc
 have LB := PySem.W.looks_mroIn (M := model prog w) X Z.bx
 have hk : builtinKind "BaseException.__getattribute__" = some .slot := by decide +kernel
 have hsp : splitId "BaseException.__getattribute__" = some ("BaseException", "__getattribute__") := by decide +kernel
 have ha := F.args_bexc_ga (.ref e) (.str "__class__" tk)
 simp only [checkBuiltinCall, hk, hsp]
 have LI : PySem.W.Looks (model prog w) h0 (isInstance (.ref e) (.type "BaseException")) true := LT.andThen LB
 refine wpAny_bind (LI.at ?_)
 repeat (first | exact Za6 (s := ⟨h0, g0, d0, t0, o0⟩) X hx hc Z hq | assumption | wp_step)
theorem Zb6 {Q : Option Value → Shared → Prop} (X : K.In s.heap) (hx : s.heap.get? e = some o) (hc : o.cls = .ref C) (Z : ExcK K C) (hq : Q (some (.ref C)) { s with toks := s.toks + 1 }) :
  wpAny (model prog w) A (getAttr? (.ref e) "__class__") Q E s := by
 obtain ⟨h0, g0, d0, t0, o0⟩ := s
 have LT := Jv (M := model prog w) hx hc
 have L1 := PySem.W.looks_findIn (M := model prog w) X Z.ga
 have L2 := PySem.W.looks_findIn (M := model prog w) X Z.hook
 have f3 := F.attr_ValueError.ga.bind (.ref e)
 have hx2 : (Value.builtin "BaseException.__getattribute__" == Value.builtin "object.__getattribute__") = false := by decide +kernel
 have hx1 : (onTheHeap (Value.ref C) && Value.builtin "BaseException.__getattribute__" == Value.builtin "object.__getattribute__") = false := by rw [hx2]; rfl
 unfold getAttr? getAttrBy? getAttrBy
 refine wpAny_bind (wpAny_mkText (wpAny_bind (wpAny_attempt (wpAny_holding (wpAny_bind (LT.at (wpAny_bind (L1.at ?_))))))))
 repeat (any_goals (first | assumption | with_reducible refine L2.at ?_ | wp_step))
 refine Zb5 (s := ⟨h0, g0, d0, t0 + 1, o0⟩) X hx hc Z ?_
 repeat (any_goals (first | assumption | wp_step))
theorem ZbV (Z : ExcK K C) : PySem.W.KitX K (.ref e) (.ref C) (fun h => ∃ o, h.get? e = some o ∧ o.cls = .ref C) where
 ty := fun M h _ ⟨o, hx, hc⟩ => Jv hx hc
 it := fun M h X _ => by
  obtain ⟨cd, hcd⟩ := Option.isSome_iff_exists.mp Z.cls
  unfold PySem.W.clsIn at hcd
  split at hcd
  ·rename_i lk
   intro A2 Q2 E2 s2 k q
   unfold isType loadHead
   exact wpAny_bind (wpAny_loadPart (k _ _ (X _ _ lk)) (wpAny_pure q))
  ·cases hcd
 ne := fun h tp dd its n sl X htp => by
  obtain ⟨cd, hcd⟩ := Option.isSome_iff_exists.mp Z.cls
  refine Bool.eq_false_iff.mpr fun q => ?_
  have z : C = tp := Value.ref.inj (beq_iff_eq.mp q)
  rw [← z] at htp
  unfold PySem.W.clsIn at hcd
  split at hcd
  ·rename_i lk
   have y := (X _ _ lk).symm.trans htp
   cases y
  ·cases hcd
 ca := fun X ⟨o, hx, hc⟩ k => Zb6 X hx hc Z k
end
section
variable {X : Cx}
theorem Jl : CallR X (.builtin "isinstance") (fun xs H Q => ∃ e C y c b, xs = [.ref e, y] ∧ H e = some (excO e C) ∧ ExcK X.K C ∧ (∀ u, RelV y u → u = c) ∧ PySem.W.kitOne X.K (.ref C) c = some b ∧ Q (.bl b) H) := by
 rintro pins s σ H vs us Q I r ⟨e, C, y, c, b, rfl, he, Z, hy, hk, q⟩
 cases r with
 | cons r1 r2 =>
  cases r2 with
  | cons r3 r4 =>
   cases r4
   rw [hy _ r3]
   rw [show _ = Value.ref e from r1]
   obtain ⟨p, _, _⟩ := (show ObjOk X.prog X.w H s.heap e (excO e C) from I.hok e _ he)
   exact PySem.W.kia_one (ZbV Z) I.kIn p hk (fun z => nomatch z) fun tk => ⟨.bl b, H, I.tok _, rfl, q⟩
end
end L2
set_option Elab.async false
set_option linter.all false
set_option maxRecDepth 100000
namespace L2
open PySem PySem.Spec PyProof.Rows
abbrev Cx.hnd (X : Cx) (e : Value) : Cx := { X with A := X.A.mark (some e), calm := false, xe := fun _ _ => False }
section
variable {X : Cx} {pins : List (Addr × Obj)} {σ : St} {H H' : Hp} {s s' : Shared}
theorem Inv.hnd (I : Inv X pins σ H s) (e : Value) : Inv (X.hnd e) pins σ H s :=
 ⟨⟨I.ok.mod, I.ok.kind, I.ok.glob, I.ok.blt, I.ok.above, I.ok.inj, I.ok.has, I.ok.cab, fun h => Bool.noConfusion h, I.ok.frames, I.ok.stk, I.ok.exf, I.ok.bs, I.ok.bsz, I.ok.noex, I.ok.exfs, I.ok.funs, I.ok.frf⟩, I.os, I.bare, I.base, I.loc, I.cell, I.free, I.freeC, I.pin, I.hok, I.len⟩
theorem Inv.unhnd {e : Value} (I : Inv (X.hnd e) pins σ H s) (hd : X.calm = true → X.A.handled = none) : Inv X pins σ H s :=
 ⟨⟨I.ok.mod, I.ok.kind, I.ok.glob, I.ok.blt, I.ok.above, I.ok.inj, I.ok.has, I.ok.cab, hd, I.ok.frames, I.ok.stk, I.ok.exf, I.ok.bs, I.ok.bsz, I.ok.noex, I.ok.exfs, I.ok.funs, I.ok.frf⟩, I.os, I.bare, I.base, I.loc, I.cell, I.free, I.freeC, I.pin, I.hok, I.len⟩
theorem Inv.caught {e C : Addr} {B h' : Heap} {o : Obj} (I : Inv X pins σ H s) (un : Un (frs X.stack) [] H H' s.heap s'.heap) (os : s'.os = s.os) (bare : AllBare s'.gens) (hok : HOk X.prog X.w H' s'.heap)
  (cov : ∀ b o, s.heap.get? b = some o → b ∉ frs X.stack → ∃ u, B.get? b = some u) (covT : ∀ b o, H' b = some o → ∃ u, B.get? b = some u) (be : B.get? e = none) (k1 : B.StaysIn s'.heap) (k2 : B.StaysIn h') (up : s'.heap.UpToSlots h')
  (he : h'.get? e = some o) (hc : o.cls = .ref C) (hd : ∃ vs, o.data = .fields vs) : Inv X pins σ (upd H' e (excO e C)) { s' with heap := h' } ∧ H' e = none := by
 have n0 : H' e = none := by
  cases q : H' e with
  | none => rfl
  | some u =>
   obtain ⟨u', hu⟩ := covT e u q
   rw [be] at hu
   cases hu
 have slotF : ∀ b o, s.heap.get? b = some o → b ∈ frs X.stack → ∃ sl, h'.get? b = some { o with slots := sl } := fun b o hb hm => by
  obtain ⟨_, o', ho', nf⟩ := I.stack.mem hm
  rw [hb] at ho'
  cases ho'
  obtain ⟨sl1, e1⟩ := un.slot b o hb (I.stkFree b hm) hm (by simp)
  obtain ⟨sl2, e2⟩ := up b _ e1 nf
  exact ⟨sl2, e2⟩
 have nold : ∀ b u, s.heap.get? b = some u → b ≠ e := fun b u hb z => by
  rw [z] at hb
  by_cases hm : e ∈ frs X.stack
  ·obtain ⟨_, o', ho', nf⟩ := I.stack.mem hm
   rw [hb] at ho'
   cases ho'
   obtain ⟨sl, q⟩ := slotF e u hb hm
   rw [he] at q
   cases q
   obtain ⟨vs, hv⟩ := hd
   exact nf vs hv
  ·obtain ⟨u', hu⟩ := cov e u hb hm
   rw [be] at hu
   cases hu
 have keepB : ∀ b o u, s'.heap.get? b = some o → B.get? b = some u → h'.get? b = some o := fun b o u hb hu => by
  have e1 := k1 b u hu
  rw [hb] at e1
  cases e1
  exact k2 b _ hu
 refine ⟨I.call' (s' := { s' with heap := h' }) (ch := []) os ⟨fun b u hb hn hf _ => ?_, fun b u hb hn hm _ => slotF b u hb hm, fun b u hb hn _ => ?_, fun b u hb _ => ?_, fun b xs hb => ?_, fun b u v hb => ?_, fun b ps hb => ?_⟩ ?_ bare (fun b hb => absurd hb (by simp)), n0⟩
 ·have e1 := un.keep b u hb hn hf (by simp)
  obtain ⟨u', hu⟩ := cov b u hb hf
  exact keepB b u u' e1 hu
 ·rw [Zg (nold b u hb)]
  exact un.free b u hb hn (by simp)
 ·by_cases hm : b ∈ frs X.stack
  ·obtain ⟨sl, q⟩ := slotF b u hb hm
   exact ⟨_, q⟩
  ·obtain ⟨u', hu⟩ := cov b u hb hm
   exact ⟨u', k2 b u' hu⟩
 ·have q := un.tups b xs hb
  rw [Zg (Zj q n0)]
  exact q
 ·have q := un.frzs b u v hb
  rw [Zg (Zj q n0)]
  exact q
 ·obtain ⟨m, q⟩ := un.tbls b ps hb
  exact ⟨m, by rw [Zg (Zj q n0)]; exact q⟩
 ·intro b u hb
  by_cases hbe : b = e
  ·subst hbe
   rw [Zc] at hb
   cases hb
   refine ⟨⟨o, he, hc⟩, ⟨o, he⟩, fun h1 h2 p k => ?_⟩
   obtain ⟨o1, q1, q2⟩ := p
   exact ⟨o1, k _ q1, q2⟩
  ·rw [Zg hbe] at hb
   have x := Yv hok covT k1 k2 b u hb
   refine x.stay (fun c w' hcc q => q) (fun c q => ?_) fun c xs q => ?_
   ·rw [Zg (Zj q n0)]; exact q
   ·rw [Zg (Zj q n0)]; exact q
end
def tTry (X : Cx) (ic ie : Nat) (cS : Addr) (k : Nat) (ts : TS) : TS := fun D σ H => ∃ f fd sp, σ[ic]? = some (some (.ref f)) ∧ (∀ s, HOk X.prog X.w H s → PySem.W.FnAt f s) ∧ FnOk X.prog X.w X.K X.mg X.base (CXR X.prog X.w) k f fd [] sp ∧ (∀ s, BindsTo s fd ⟨[], []⟩ []) ∧
 sp [] H (fun _ _ => False) fun ev c H' => ∃ e C, ev = .ref e ∧ c = some C ∧ PySem.W.exmOne X.K (.ref C) (.ref cS) = some true ∧ (H' e = none → ts { nx := fun σ' H2 => D.nx (σ'.set ie none) H2, rt := fun _ _ => False } (σ.set ie (some (.ref e))) (upd H' e (excO e C)))
theorem UJ {X : Cx} {ic ie k : Nat} {c n S : Str} {cS : Addr} {b0 : Stmt} {suite : List Stmt} {ts : TS} {p1 p2 p3 p4 p5 p6 : Pos} (hcm : X.calm = true) (hst : X.stack = X.env :: X.outer) (hfr : X.env.frame = some X.env.locals) (hN : X.N.Nodup) (hic : X.N[ic]? = some c) (hvc : Vis X.env.scope c)
  (hie : X.N[ie]? = some n) (hln : X.env.scope.names.lookup n = some .local) (hS : X.mg S = some (.ref cS)) (hgS : Gl X S) (hr : Room k X.A) (hsu : ∀ e, PSs (X.hnd (.ref e)) (b0 :: suite) ts)
  (hdc : (c == ("__debug__" : Str)) = false := by decide) (hdc2 : (c == ("__classdict__" : Str)) = false := by decide) (hdS : (S == ("__debug__" : Str)) = false := by decide)
  (hsw : swapsWith (.Call (.Name c p1) [] [] p2) none p3.line X.env = pure false := by rfl) :
  PS X (.Try [.Expr (.Call (.Name c p1) [] [] p2) p3] [.ExceptHandler (some (.Name S p4)) (some n) (b0 :: suite) p5] [] [] p6) (tTry X ic ie cS k ts) := by
 intro pins s σ H D I h
 obtain ⟨f, fd, sp, hσ, hfn, F, hb, hsp⟩ := h
 refine wpAny_Try_except ?_
 refine wpAny_execs_cons (wpAny_Expr_any ?_ I.quiet hsw)
 refine wpAny_Call_Name_kw ?_
 have nm := JR (X := X.wish (fun _ _ => False)) (i := ic) (x := c) (pos := p1) hic hvc hdc hdc2 pins s σ H (fun v H2 => v = .ref f ∧ H2 = H) (I.wish _) ⟨_, hσ, rfl, rfl⟩
 refine wpAny_mono nm (fun u s1 h1 => ?_) (fun _ _ z => z.elim)
 obtain ⟨v, H1, I1, r1, rfl, rfl⟩ := h1
 have I1 := I1.unwish
 obtain rfl : u = Value.ref f := r1
 refine PySem.W.callWith_F0 (hfn _ I1.hok) ?_
 refine wpAny_call (codeAny_mono (F.run X.A X.stack s1 H1 ⟨[], []⟩ [] [] _ _ hr I1.env0 (hb s1) .nil hsp) fun r s2 hq => ?_)
 cases r with
 | ok fl =>
  cases fl with
  | ret u => obtain ⟨_, _, _, _, _, _, _, z⟩ := hq; exact z.elim
  | next => exact hq.elim
  | brk => exact hq.elim
  | cont => exact hq.elim
 | error ev =>
  obtain ⟨e, C, H2, rfl, FL, e', C', q1, q2, hx, hk⟩ := hq
  cases q1
  cases q2
  obtain ⟨B, a0, fl, cov, covT⟩ := FL.fly
  rw [hst] at fl
  show wpAny (model X.prog X.w) X.A (noteFrame (.ref e) X.env) _ X.xe s2
  have fr0 : X.A.frames = some (X.env :: X.outer) := by rw [← hst]; exact I.ok.frames
  refine wpAny_looks_onW (L := X.env.locals) fr0 hfr fl fun h4 held up4 => ?_
  refine wpAny_landsW held fun h5 fl5 up5 => ?_
  have at5 : ∃ o vs, h5.get? e = some o ∧ o.cls = .ref C ∧ o.data = .fields vs := by
   obtain ⟨oe, vs, g1, g2, g3, _⟩ := fl5.first
   exact ⟨oe, vs, g1, g2, g3⟩
  obtain ⟨o5, vs5, g51, g52, g53⟩ := at5
  have c5 := I1.caught (h' := h5) FL.un FL.os FL.bare FL.hok cov covT fl.2.1 fl.1 fl5.1 (up4.trans up5) g51 g52 ⟨_, g53⟩
  have I5 := c5.1.hnd (.ref e)
  refine wpAny_handleBy_cons (codeAny_handlers_test ?_) (by intro q; cases q)
  refine YY (X := X.hnd (.ref e)) I5 hgS hS ?_ hdS
  have LX := PySem.W.exm_one (M := model X.prog X.w) (c := .ref cS) (e := e) I5.kIn (Jv g51 g52) hx
  refine LX.at ?_
  refine codeAny_handlers_suite_as ?_
  refine lands_againW (s := { s2 with heap := h5 }) fl5 fun h6 fl6 up6 => ?_
  obtain ⟨o6, vs6, g61, g62, g63, _⟩ := fl6.first
  obtain ⟨I6, n6⟩ := I1.caught (h' := h6) FL.un FL.os FL.bare FL.hok cov covT fl.2.1 fl.1 fl6.1 ((up4.trans up5).trans up6) g61 g62 ⟨_, g63⟩
  have I6 := I6.hnd (.ref e)
  have hts := hk n6
  refine Ys (X := X.hnd (.ref e)) (i := ie) I6 hN hie (.inl hln) (v := .ref e) (u := .ref e) rfl (fun s7 I7 => ?_) (.inr hln)
  refine wpAny_mono (hsu e pins s7 _ _ _ I7 hts) (fun fl8 s8 h8 => ?_) fun _ _ z => z.elim
  cases fl8 with
  | ret u => obtain ⟨_, _, _, _, _, z⟩ := h8; exact z.elim
  | brk => obtain ⟨_, _, _, z⟩ := h8; exact z.elim
  | cont => obtain ⟨_, _, _, z⟩ := h8; exact z.elim
  | next =>
   obtain ⟨σ8, H8, I8, q8⟩ := h8
   have I8 := I8.unhnd (fun z => I.ok.hd z)
   obtain ⟨m8, hn8, hl8⟩ := I8.loc
   have hcls : (X.env.scope.kind == .class || (X.env.scope.kind == .module && X.env.locals != X.env.globals)) = false := by rw [I8.ok.kind]; rfl
   refine wpAny_nameGoes_keeps hln hn8 hcls fun h9 v9 hn9 hs9 => ?_
   have st := Ys (M := model X.prog X.w) (A := X.A) (E := fun _ _ => False) (X := X) (i := ie) I8 hN hie (.inl hln) (v := .non) (u := .none) rfl (Q := fun _ _ => True) (fun _ _ => trivial) (.inr hln)
   refine ⟨σ8.set ie none, H8, ?_, q8⟩
   have hlt : ie < σ8.length := by rw [I8.len]; exact (List.getElem?_eq_some_iff.mp hie).1
   obtain ⟨oL, _, _, hoL, _⟩ := id hn8
   have cne := I8.cne
   refine ⟨I8.ok, I8.os, I8.bare, ⟨fun b o eb nb hb hx => ?_, fun b o eb nb hb hx => ?_, I8.base.free, fun b o eb hx => ?_, I8.base.tups, I8.base.frzs, I8.base.tbls⟩, ⟨_, hn9, fun j y v' e1 e2 e3 => ?_⟩, fun y cc ec => ?_, I8.free, I8.freeC, fun p hp => ?_, fun b ob eb => ?_, by simpa using I8.len⟩
   ·exact (hs9.2 b (Nat.ne_of_lt (Nat.lt_of_lt_of_le (Heap.lt_size eb) I8.ok.above))).trans (I8.base.keep b o eb nb hb hx)
   ·obtain ⟨sl, q⟩ := I8.base.slot b o eb nb hb hx
    exact ⟨sl, (hs9.2 b (Nat.ne_of_lt (Nat.lt_of_lt_of_le (Heap.lt_size eb) I8.ok.above))).trans q⟩
   ·obtain ⟨o', q⟩ := I8.base.there b o eb hx
    exact ⟨o', (hs9.2 b (Nat.ne_of_lt (Nat.lt_of_lt_of_le (Heap.lt_size eb) I8.ok.above))).trans q⟩
   ·by_cases hj : j = ie
    ·subst hj
     rw [List.getElem?_set_self hlt] at e2
     cases e2
    ·rw [List.getElem?_set_ne (Ne.symm hj)] at e2
     obtain ⟨u', r', q⟩ := hl8 j y v' e1 e2 e3
     refine ⟨u', r', ?_⟩
     rcases q with ⟨kk, q⟩ | ⟨kk, c', ec, z⟩
     ·refine .inl ⟨kk, ?_⟩
      have ne : y ≠ n := fun z => hj (JZ hN e1 (z ▸ hie))
      simp [ne, q]
     ·exact .inr ⟨kk, c', ec, z.sameBut hs9 (cne y c' ec)⟩
   ·obtain ⟨w', z⟩ := I8.cell y cc ec
    exact ⟨w', z.sameBut hs9 (cne y cc ec)⟩
   ·obtain ⟨e1, n1, ne1, nf1, d1⟩ := I8.pin p hp
    exact ⟨(hs9.2 p.1 ne1).trans e1, n1, ne1, nf1, d1⟩
   ·refine (I8.hok b ob eb).stay (fun cc w' hcc q => (hs9.2 cc ?_).trans q) (fun _ q => q) fun _ _ q => q
    rintro rfl
    rcases hcc with rfl | hcc
    ·rw [I8.free] at eb; cases eb
    ·rw [I8.free] at hcc; cases hcc
end L2
set_option Elab.async false
set_option linter.all false
set_option maxRecDepth 100000
namespace L2
open PySem PySem.Spec PyProof.Rows
def codeO (c : Addr) (q : Str) : HO := .ext fun h => h.CodeRec (.ref c) q
def lamO (f : Addr) (q : Str) (params : Arguments) (body : Expr) (scope : Scope) (cl : List (Str × Addr)) (pm : Value) (c : Addr) (ct : Value) : HO := .ext fun h => h.get? f = some (PySem.W.kla_obj "<lambda>" q params body scope cl pm c ct)
def LamAt (H : Hp) (f : Addr) (q : Str) (params : Arguments) (body : Expr) (scope : Scope) (cl : List (Str × Addr)) : Prop := ∃ pm c ct, H f = some (lamO f q params body scope cl pm c ct) ∧ H c = some (codeO c q)
def TabOk (H : Hp) (q : Str) (ps : Array Value) : Prop := TriplesOk ps.toList ∧ ∀ pos cv, codeAmong pos ps.toList = some cv → ∃ c, cv = .ref c ∧ H c = some (codeO c q)
def TabAt (H : Hp) (P : Addr) (q : Str) : Prop := ∃ ps, H P = some (.tbl ps) ∧ TabOk H q ps
theorem Jk {h h' : Heap} {c : Addr} {q : Str} (x : h.CodeRec (.ref c) q) (k : ∀ o, h.get? c = some o → h'.get? c = some o) : h'.CodeRec (.ref c) q := by
 obtain ⟨c2, oc, vs, tq, e, g1, g2, g3⟩ := x
 cases e
 exact ⟨c, oc, vs, tq, rfl, k _ g1, g2, g3⟩
theorem Zca {P : Program} {w : World} {H : Hp} {h : Heap} {c : Addr} {q : Str} (x : h.CodeRec (.ref c) q) : ObjOk P w H h c (codeO c q) := by
 obtain ⟨c2, oc, vs, tq, e, g1, g2, g3⟩ := id x
 cases e
 exact ⟨x, ⟨_, g1⟩, fun h1 h2 p k => Jk p k⟩
theorem Zap {P : Program} {w : World} {H : Hp} {h : Heap} {f : Addr} {q : Str} {params : Arguments} {body : Expr} {scope : Scope} {cl : List (Str × Addr)} {pm : Value} {c : Addr} {ct : Value} (x : h.get? f = some (PySem.W.kla_obj "<lambda>" q params body scope cl pm c ct)) :
  ObjOk P w H h f (lamO f q params body scope cl pm c ct) := ⟨x, ⟨_, x⟩, fun h1 h2 p k => k _ p⟩
theorem We {pos p2 : Pos} {c cv : Value} : ∀ (l : List Value), TriplesOk l → codeAmong p2 (l ++ [rawInt pos.line, rawInt pos.col, c]) = some cv → codeAmong p2 l = some cv ∨ cv = c
 | [], _, h => by
  have h' : (if (pos.line : Int) == (p2.line : Int) && (pos.col : Int) == (p2.col : Int) then some c else codeAmong p2 []) = some cv := h
  split at h'
  ·exact .inr (Option.some.inj h').symm
  ·cases h'
 | .int a t :: .int b u :: x :: r, ht, h => by
  have h' : (if a == p2.line && b == p2.col then some x else codeAmong p2 (r ++ [rawInt pos.line, rawInt pos.col, c])) = some cv := h
  show (if a == p2.line && b == p2.col then some x else codeAmong p2 r) = some cv ∨ cv = c
  split at h'
  ·rename_i hq
   rw [if_pos hq]
   exact .inl h'
  ·rename_i hq
   rw [if_neg hq]
   exact We r ht h'
theorem Ja {pos : Pos} {c : Value} : ∀ (l : List Value), TriplesOk l → TriplesOk (l ++ [rawInt pos.line, rawInt pos.col, c])
 | [], _ => trivial
 | .int _ _ :: .int _ _ :: _ :: r, h => Ja r h
structure LamX (X : Cx) (c P : Addr) : Prop where
 code : X.env.code = .ref c
 hd : PySem.W.CodeHd X.base c P
 bm : ∃ bm ob, X.mg "__builtins__" = some (.ref bm) ∧ bm ≠ builtinsNs ∧ X.base.get? bm = some ob ∧ ob.cls = .type "module" ∧ ob.dict = some builtinsNs ∧ ob.data = .plain
def tLam (X : Cx) (P : Addr) (params : Arguments) (body : Expr) (scope : Scope) : TE := fun σ H Q => TabAt H P (X.env.qual ++ "<lambda>") ∧ ∀ f H', SameX P H H' → H f = none → TabAt H' P (X.env.qual ++ "<lambda>") → LamAt H' f (X.env.qual ++ "<lambda>") params body scope (clOf scope X.env) → Q (.ref f) H'
theorem Zc0 {X : Cx} {c P : Addr} {params : Arguments} {body : Expr} {scope : Scope} {pos : Pos} (L : LamX X c P) (hdef : defaultsOf params X.env = ([], [])) (hfr : ∀ y ∈ scope.names, y.2 = .free → X.env.kindOf y.1 = some .cell ∨ X.env.kindOf y.1 = some .free) :
  PE X (.Lambda params body scope pos) (tLam X P params body scope) := by
 intro pins s σ H Q I h
 obtain ⟨⟨ps, hP, hT, hC⟩, q⟩ := h
 have oP : s.heap.get? P = some (PySem.W.tabObj ps) := I.hok P _ hP
 have hcl := Yc (scope := scope) (env := X.env) fun y hy e => I.ok.has _ (hfr y hy e)
 have gns : s.heap.Ns mainGlobals X.mg := I.mod.glob.keeps I.bk
 obtain ⟨bm, ob, b1, b2, b3, b4, b5, b6⟩ := L.bm
 have hgP : mainGlobals ≠ P := fun z => by
  obtain ⟨o, es, ep, e, d, _⟩ := gns
  rw [z, oP] at e
  cases e
  cases d
 have hbP : bm ≠ P := fun z => by
  have e := I.bk _ _ b3
  rw [z, oP] at e
  cases e
  cases b4
 have hbG : bm ≠ mainGlobals := fun z => by
  obtain ⟨o, es, ep, e, d, _⟩ := gns
  have e2 := I.bk _ _ b3
  rw [z, e] at e2
  cases e2
  rw [d] at b6
  cases b6
 have BA : s.heap.BuiltinsAt X.mg P := ⟨bm, ob, b1, b2, hbG, hbP, I.bk _ _ b3, b4, b5, b6⟩
 refine PySem.W.kla_eval hdef ?_
 cases hf : codeAmong pos ps.toList with
 | some cv =>
  obtain ⟨c', rfl, hc'⟩ := hC pos cv hf
  refine PySem.W.kla_makeFunctionHit hcl I.ok.glob gns L.code (L.hd.keeps I.bk) oP hT hf BA fun ctv h' tk hk hsz => ?_
  have nf : H h'.objs.size = none := I.hok.fresh hsz
  have s1 : Same H (upd H h'.objs.size (lamO h'.objs.size (X.env.qual ++ "<lambda>") params body scope (clOf scope X.env) ((X.mg "__name__").getD .none) c' ctv)) := fun b o hb => by rw [Zg (Zj hb nf)]; exact hb
  refine ⟨.ref h'.objs.size, _, I.laid (t' := tk) (a := h'.objs.size) (fun b u e => Heap.get?_push_of_some _ (hk b u e)) hsz (Zap (Heap.get?_push_size _ rfl)), rfl, ?_⟩
  exact q _ _ (fun b o hb _ => s1 b o hb) nf ⟨ps, s1 _ _ hP, hT, fun p2 cv2 z => by obtain ⟨c2, e2, h2⟩ := hC p2 cv2 z; exact ⟨c2, e2, s1 _ _ h2⟩⟩ ⟨_, c', ctv, Zc, s1 _ _ hc'⟩
 | none =>
  refine PySem.W.kla_makeFunction hcl I.ok.glob gns L.code (L.hd.keeps I.bk) oP hT hf hgP BA fun c' ctv h' tk hx hge hlt hrec htb => ?_
  have lt0 : ∀ b o, s.heap.get? b = some o → b < c' := fun b o e => Nat.lt_of_lt_of_le (Heap.lt_size e) hge
  have ltH : ∀ b o, H b = some o → b < c' := fun b o e => Nat.lt_of_lt_of_le (I.hok.lt e) hge
  have nc : H c' = none := I.hok.fresh hge
  have nf : H h'.objs.size = none := I.hok.fresh (Nat.le_trans hge (Nat.le_of_lt hlt))
  have pne : P ≠ c' := Zj hP nc
  have pnf : P ≠ h'.objs.size := Zj hP nf
  have cnf : c' ≠ h'.objs.size := Nat.ne_of_lt hlt
  generalize hfo : h'.objs.size = f at nf pnf cnf
  generalize hps : ps ++ #[rawInt pos.line, rawInt pos.col, Value.ref c'] = ps2 at htb
  generalize hlo : lamO f (X.env.qual ++ "<lambda>") params body scope (clOf scope X.env) ((X.mg "__name__").getD .none) c' ctv = lo
  have keep : ∀ b o, b ≠ P → s.heap.get? b = some o → (h'.push (PySem.W.kla_obj "<lambda>" (X.env.qual ++ "<lambda>") params body scope (clOf scope X.env) ((X.mg "__name__").getD .none) c' ctv)).get? b = some o := fun b o hb e => Heap.get?_push_of_some _ (hx b o hb e)
  have at1 : ∀ b o, H b = some o → b ≠ P → upd (upd (upd H P (.tbl ps2)) c' (codeO c' (X.env.qual ++ "<lambda>"))) f lo b = some o := fun b o hb hne => by
   rw [Zg (Zj hb nf), Zg (Zj hb nc), Zg hne]
   exact hb
  have atP : upd (upd (upd H P (.tbl ps2)) c' (codeO c' (X.env.qual ++ "<lambda>"))) f lo P = some (.tbl ps2) := by rw [Zg pnf, Zg pne, Zc]
  have atC : upd (upd (upd H P (.tbl ps2)) c' (codeO c' (X.env.qual ++ "<lambda>"))) f lo c' = some (codeO c' (X.env.qual ++ "<lambda>")) := by rw [Zg cnf, Zc]
  have atF : upd (upd (upd H P (.tbl ps2)) c' (codeO c' (X.env.qual ++ "<lambda>"))) f lo f = some lo := Zc
  have J : Inv X pins σ (upd (upd (upd H P (.tbl ps2)) c' (codeO c' (X.env.qual ++ "<lambda>"))) f lo) { s with heap := h'.push (PySem.W.kla_obj "<lambda>" (X.env.qual ++ "<lambda>") params body scope (clOf scope X.env) ((X.mg "__name__").getD .none) c' ctv), toks := tk } := by
   refine I.un (t' := tk) ⟨fun b o e n _ _ => keep b o (fun z => by rw [z, hP] at n; cases n) e, fun b o e n _ _ => ⟨o.slots, keep b o (fun z => by rw [z, hP] at n; cases n) e⟩, fun b o e n _ => ?_, fun b o e _ => ?_, fun b xs e => at1 b _ e (fun z => by rw [z, hP] at e; cases e), fun b o u e => at1 b _ e (fun z => by rw [z, hP] at e; cases e), fun b qs e => ?_⟩ ?_
   ·have hl := lt0 b o e
    rw [Zg (by rw [← hfo]; exact Nat.ne_of_lt (Nat.lt_trans hl hlt)), Zg (Nat.ne_of_lt hl), Zg (fun z => by rw [z, hP] at n; cases n)]
    exact n
   ·by_cases hb : b = P
    ·rw [hb]; exact ⟨_, Heap.get?_push_of_some _ htb⟩
    ·exact ⟨o, keep b o hb e⟩
   ·by_cases hb : b = P
    ·rw [hb, hP] at e
     cases e
     exact ⟨_, by rw [hb, atP, hps]⟩
    ·exact ⟨#[], by rw [at1 b _ e hb]; simp⟩
   ·intro b o hb
    by_cases h1 : b = f
    ·rw [h1, atF] at hb
     cases hb
     rw [h1, ← hlo]
     refine Zap ?_
     rw [← hfo]
     exact Heap.get?_push_size _ rfl
    ·by_cases h2 : b = c'
     ·rw [h2, atC] at hb
      cases hb
      rw [h2]
      exact Zca (Jk hrec fun o e => Heap.get?_push_of_some _ e)
     ·by_cases h3 : b = P
      ·rw [h3, atP] at hb
       cases hb
       rw [h3]
       exact Heap.get?_push_of_some _ htb
      ·have hb' : H b = some o := by rw [Zg h1, Zg h2, Zg h3] at hb; exact hb
       refine (I.hok b o hb').stay (fun z u hz e => keep z u ?_ e) (fun z e => ?_) fun z xs e => ?_
       ·rcases hz with hz | hz
        ·rw [hz]; exact h3
        ·intro hz2; rw [hz2, hP] at hz; cases hz
       ·exact at1 z _ e fun hz2 => by rw [hz2, hP] at e; cases e
       ·exact at1 z _ e fun hz2 => by rw [hz2, hP] at e; cases e
  refine ⟨.ref f, _, J, rfl, ?_⟩
  refine q f _ (fun b o hb hne => at1 b o hb hne) nf ⟨ps2, atP, ?_, fun p2 cv2 z => ?_⟩ ⟨_, c', ctv, by rw [atF, ← hlo], atC⟩
  ·rw [← hps, Array.toList_append]
   exact Ja _ hT
  ·rw [← hps, Array.toList_append] at z
   rcases We _ hT z with z | z
   ·obtain ⟨c2, e2, h2⟩ := hC p2 cv2 z
    exact ⟨c2, e2, at1 _ _ h2 fun hz2 => by rw [hz2, hP] at h2; cases h2⟩
   ·exact ⟨c', z, atC⟩
end L2
set_option Elab.async false
set_option linter.all false
set_option maxRecDepth 100000
namespace L2
open PySem PySem.Spec PyProof.Rows
theorem passR' {X : Cx} {E : XK} (hxe : ∀ e s', wpAny (model X.prog X.w) X.A (leaving X.env e) (fun _ s'' => CXR X.prog X.w X.outer X.H₀ X.s₀ E e s'') (fun e' s'' => CXR X.prog X.w X.outer X.H₀ X.s₀ E e' s'') s' → X.xe e s')
  (hst : X.stack = X.env :: X.outer) (hfr : X.env.frame = some X.env.locals) (hex : X.ex = []) : Passes (CXR X.prog X.w) X E := by
 intro pins σ H1 s1 ev s2 I h
 obtain ⟨e, C, H', rfl, F, hE⟩ := h
 obtain ⟨B, a0, fl, cov, covT⟩ := F.fly
 have un := F.un
 rw [hst] at fl cov un
 have ib : Un (frs X.outer) [] X.H₀ H1 X.s₀.heap s1.heap := by have := I.base; rw [hex] at this; exact this
 have fr0 : X.A.frames = some (X.env :: X.outer) := by rw [← hst]; exact I.ok.frames
 refine hxe _ _ (wpAny_leaves_onW (L := X.env.locals) fr0 hfr fl fun h' fl' up => ?_)
 refine ⟨e, C, H', rfl, ⟨F.os.trans I.os, F.bare, JL (base := X.base) (L := X.env.locals) ib un hfr I.ok.above I.ok.funs I.ok.frf cov fl.1 fl'.1 up, Yv F.hok covT fl.1 fl'.1, B, a0, fl', fun b o hb hn => ?_, covT⟩, hE⟩
 obtain ⟨o1, e1⟩ := ib.there b o hb (by simp)
 refine cov b o1 e1 fun hm => ?_
 have hm' : b ∈ (X.env :: X.outer).filterMap (·.frame) := hm
 rw [List.filterMap_cons_some (f := fun (x : Env) => x.frame) (a := X.env) (b := X.env.locals) hfr] at hm'
 rcases List.mem_cons.mp hm' with q | q
 ·rw [q] at hb
  exact absurd (Nat.lt_of_lt_of_le (Heap.lt_size hb) I.ok.above) (Nat.lt_irrefl _)
 ·exact hn q
def cxL (P : Program) (w : World) (K : PySem.W.Frag) (mg : Str → Option Value) (base : Heap) (N : List Str) (q : Str) (scope : Scope) (f : Addr) (cd : Value) (cl : List (Str × Addr)) (A : Around) (outer : List Env) (s : Shared) (H : Hp) (E : XK) : Cx where
 prog := P
 w := w
 K := K
 mg := mg
 base := base
 A := A.deeper (PySem.W.envX q scope s.heap.objs.size f cd cl)
 N := N
 s₀ := s
 H₀ := H
 env := PySem.W.envX q scope s.heap.objs.size f cd cl
 outer := outer
 stack := PySem.W.envX q scope s.heap.objs.size f cd cl :: outer
 ex := []
 calm := true
 fn := fun _ => false
 pn := []
 xe := fun e s' => wpAny (model P w) (A.deeper (PySem.W.envX q scope s.heap.objs.size f cd cl)) (leaving (PySem.W.envX q scope s.heap.objs.size f cd cl) e) (fun _ s'' => CXR P w outer H s E e s'') (fun e' s'' => CXR P w outer H s E e' s'') s'
structure Two (base : Heap) (scope : Scope) (cl : List (Str × Addr)) (x y : Str) (vx vy : V) : Prop where
 kx : scope.names.lookup x = some .free
 ky : scope.names.lookup y = some .free
 only : ∀ z, scope.names.lookup z = some .cell ∨ scope.names.lookup z = some .free → z = x ∨ z = y
 ne : x ≠ y
 cx : ∃ c u, cl.lookup x = some c ∧ base.IsCell c (some u) ∧ RelV vx u
 cy : ∃ c u, cl.lookup y = some c ∧ base.IsCell c (some u) ∧ RelV vy u
 mem : ∀ z c, cl.lookup z = some c → z = x ∨ z = y
 inj : ∀ c, cl.lookup x = some c → cl.lookup y = some c → False
theorem Ji {h b1 b2 : Heap} : ∀ {l : List Env}, h.FunFrames b1 l → (∀ b ∈ frs l, b2.get? b = none) → h.FunFrames b2 l
 | [], _, _ => trivial
 | env :: r, ⟨hk, ⟨L, o, hf, _, ho, hd⟩, hr⟩, hn => ⟨hk, ⟨L, o, hf, hn L (List.mem_filterMap.mpr ⟨env, .head _, hf⟩), ho, hd⟩, Ji hr fun b hb => hn b (by
   obtain ⟨e, he, q⟩ := List.mem_filterMap.mp hb
   exact List.mem_filterMap.mpr ⟨e, .tail _ he, q⟩)⟩
theorem Inv.rebase {X : Cx} {pins : List (Addr × Obj)} {σ : St} {H : Hp} {s : Shared} (I : Inv X pins σ H s) :
  ∃ base', X.base.StaysIn base' ∧ Env0 X.prog X.w X.K X.mg base' X.A X.stack s H ∧ ∀ b o, s.heap.get? b = some o → H b = none → b ∉ frs X.stack → base'.get? b = some o := by
 have cov : ∀ b o, s.heap.get? b = some o → H b = none → b ∉ frs X.stack → (PySem.W.hideAll (hidT s.heap H) (frs X.stack)).get? b = some o := fun b o e n hf => PySem.W.hideAll_get _ (Uw e n) hf
 have st : X.base.StaysIn (PySem.W.hideAll (hidT s.heap H) (frs X.stack)) := fun b o e => cov b o (I.bs b o e).1 (I.bs b o e).2 fun hm => by
  have := (I.stack.mem hm).1
  rw [e] at this
  cases this
 refine ⟨_, st, ⟨I.ok.frames, ⟨I.mod.kin.keeps st, I.mod.glob.keeps st, ?_, I.mod.nolimit.keeps st⟩, fun b o e => Zak (PySem.W.of_hideAll _ e), ?_, Ji I.stack fun b hb => PySem.W.hideAll_none _ hb, I.stkFree, I.hok, I.bare⟩, cov⟩
 ·obtain ⟨mb, h1, h2⟩ := I.mod.blt
  exact ⟨mb, h1.keeps st, h2⟩
 ·rw [PySem.W.hideAll_size, Wz]
  exact Nat.le_refl _
end L2
set_option Elab.async false
set_option linter.all false
set_option maxRecDepth 100000
namespace L2
open PySem PySem.Spec PyProof.Rows
def constV : Const → Option V
 | .int n => some (.int n)
 | .bool b => some (.bl b)
 | .str x => some (.str x)
 | .none => some .non
 | _ => none
def scOf : Expr → Option V
 | .Constant c _ _ => constV c
 | .UnaryOp .USub (.Constant (.int n) _ _) _ => some (.int (-n))
 | .BinOp (.Constant (.int a) _ _) .Pow (.Constant (.int b) _ _) _ => if 0 ≤ b ∧ b ≤ 1000000 ∧ a.natAbs < 2 ^ 64 then some (.int (a ^ b.toNat)) else none
 | _ => none
def scsOf : List Expr → Option (List V)
 | [] => some []
 | e :: r => match scOf e, scsOf r with
  | some v, some vs => some (v :: vs)
  | _, _ => none
inductive Lit where
 | sc (v : V)
 | tup (xs : List V)
 | lst (xs : List V)
 | dct
def LitAt (H : Hp) (v : V) : Lit → Prop
 | .sc u => v = u
 | .tup xs => ∃ a : Addr, v = .ref a ∧ H a = some (.tup xs)
 | .lst xs => ∃ a : Addr, v = .ref a ∧ H a = some (.lst xs)
 | .dct => ∃ a : Addr, v = .ref a ∧ H a = some (.dK [])
theorem LitAt.same {H H' : Hp} {v : V} : ∀ {l : Lit}, LitAt H v l → Same H H' → LitAt H' v l
 | .sc _, h, _ => h
 | .tup _, ⟨a, e, h⟩, s => ⟨a, e, s _ _ h⟩
 | .lst _, ⟨a, e, h⟩, s => ⟨a, e, s _ _ h⟩
 | .dct, ⟨a, e, h⟩, s => ⟨a, e, s _ _ h⟩
def litOf : Expr → Option Lit
 | .Tuple es _ _ => match scsOf es with
  | some xs => if xs.length ≤ 1000 then some (.tup xs) else none
  | none => none
 | .List es _ => match scsOf es with
  | some xs => if xs.length ≤ 1000 then some (.lst xs) else none
  | none => none
 | .Dict [] [] _ => some .dct
 | e => (scOf e).map .sc
def litsOf : List Expr → Option (List Lit)
 | [] => some []
 | e :: r => match litOf e, litsOf r with
  | some v, some vs => some (v :: vs)
  | _, _ => none
section
variable {X : Cx}
theorem ZcI {e : Expr} {v : V} (h : scOf e = some v) : PE X e (tC v) ∧ (∀ es, starEach (e :: es) X.env = (false, eval e X.env) :: starEach es X.env) ∧ ∀ a : Addr, v ≠ .ref a := by
 unfold scOf at h
 split at h
 ·rename_i c j p
  cases c with
  | int n => cases h; exact ⟨Zf, fun _ => rfl, fun a z => by cases z⟩
  | bool b => cases h; exact ⟨Wt, fun _ => rfl, fun a z => by cases z⟩
  | str x => cases h; exact ⟨Y4, fun _ => rfl, fun a z => by cases z⟩
  | none => cases h; exact ⟨Yq, fun _ => rfl, fun a z => by cases z⟩
  | _ => cases h
 ·cases h
  refine ⟨fun pins s σ H Q I q => Zae WK Zf pins s σ H Q I ⟨_, rfl, q⟩, fun _ => rfl, fun a z => by cases z⟩
 ·split at h
  ·rename_i hc
   cases h
   refine ⟨fun pins s σ H Q I q => Zu UN Zf Zf pins s σ H Q I ⟨_, _, rfl, rfl, hc, q⟩, fun _ => rfl, fun a z => by cases z⟩
  ·cases h
 ·cases h
theorem JX : ∀ {es : List Expr} {vs : List V}, scsOf es = some vs → PA X es (fun _ H Q => Q vs H)
 | [], vs, h => by cases h; exact Zb
 | e :: r, vs, h => by
  unfold scsOf at h
  split at h
  ·rename_i v ws h1 h2
   cases h
   obtain ⟨p1, p2, _⟩ := ZcI (X := X) h1
   exact fun pos pins s σ H Q I q => Za p1 (JX h2) (p2 r) pos pins s σ H Q I q
  ·cases h
theorem ZcZ {e : Expr} {l : Lit} (h : litOf e = some l) : PE X e (fun _ H Q => ∀ v H', Same H H' → LitAt H' v l → (∀ a : Addr, v = .ref a → H a = none) → Q v H') ∧ ∀ es, starEach (e :: es) X.env = (false, eval e X.env) :: starEach es X.env := by
 unfold litOf at h
 split at h
 ·split at h
  ·rename_i xs hx
   split at h
   ·rename_i hl
    cases h
    refine ⟨fun pins s σ H Q I q => Zs (JX hx) pins s σ H Q I ⟨Nat.le_of_lt (small1000 hl), fun p hp => q _ _ (fun b o hb => by rw [Zg (Zj hb hp)]; exact hb) ⟨p, rfl, Zc⟩ fun a z => by cases z; exact hp⟩, fun _ => rfl⟩
   ·cases h
  ·cases h
 ·split at h
  ·rename_i xs hx
   split at h
   ·rename_i hl
    cases h
    refine ⟨fun pins s σ H Q I q => ZG (JX hx) pins s σ H Q I ⟨Nat.le_of_lt (small1000 hl), fun p hp => q _ _ (fun b o hb => by rw [Zg (Zj hb hp)]; exact hb) ⟨p, rfl, Zc⟩ fun a z => by cases z; exact hp⟩, fun _ => rfl⟩
   ·cases h
  ·cases h
 ·cases h
  exact ⟨fun pins s σ H Q I q => Ue pins s σ H Q I fun p hp => q _ _ (fun b o hb => by rw [Zg (Zj hb hp)]; exact hb) ⟨p, rfl, Zc⟩ fun a z => by cases z; exact hp, fun _ => rfl⟩
 ·rename_i x0 h1 h2 h3
  cases hs : scOf e with
  | none => rw [hs] at h; cases h
  | some v =>
   rw [hs] at h
   cases h
   obtain ⟨p1, p2, p3⟩ := ZcI (X := X) hs
   exact ⟨fun pins s σ H Q I q => p1 pins s σ H Q I (q v H (Same.refl H) rfl fun a z => absurd z (p3 a)), p2⟩
theorem Zah : ∀ {es : List Expr} {ls : List Lit}, litsOf es = some ls → PA X es (fun _ H Q => ∀ vs H', Same H H' → Paired (LitAt H') vs ls → (∀ a, V.ref a ∈ vs → H a = none) → Q vs H')
 | [], ls, h => by cases h; exact fun pos pins s σ H Q I q => Zb pos pins s σ H Q I (q [] H (Same.refl H) .nil fun a z => nomatch z)
 | e :: r, ls, h => by
  unfold litsOf at h
  split at h
  ·rename_i v ws h1 h2
   cases h
   obtain ⟨p1, p2⟩ := ZcZ (X := X) h1
   exact fun pos pins s σ H Q I q => Za p1 (Zah h2) (p2 r) pos pins s σ H Q I fun v1 H1 s1 l1 n1 vs H2 s2 pr n2 => q (v1 :: vs) H2 (s1.trans s2) (.cons (l1.same s2) pr) fun a z => by
    rcases List.mem_cons.mp z with z | z
    ·exact n1 a z.symm
    ·exact s1.free (n2 a z)
  ·cases h
end
end L2
set_option Elab.async false
set_option linter.all false
set_option maxRecDepth 100000
namespace L2
open PySem PySem.Spec PyProof.Rows
def Itz (K : PySem.W.Frag) (l1 l2 : Addr) : It :=
 ⟨fun i H => ∃ xs ys x y, SqL K H l1 xs ∧ SqL K H l2 ys ∧ xs[i]? = some x ∧ ys[i]? = some y,
  fun i H v H' => ∃ (T : Addr) (x y : V), v = .ref T ∧ H T = none ∧ H' = upd H T (.par [x, y]) ∧ ∀ xs ys, SqL K H l1 xs → SqL K H l2 ys → xs[i]? = some x ∧ ys[i]? = some y,
  fun i H => ∃ xs ys, SqL K H l1 xs ∧ SqL K H l2 ys ∧ xs.length = i ∧ ys.length = i⟩
theorem Zbe {P : Program} {w : World} {K : PySem.W.Frag} {elts : List Expr} {kk : Nat} {pos : Pos} (z TI TO i1 i2 l1 l2 : Addr) (D : ZipApart z TI TO i1 i2 l1 l2) :
  Turn P w K (.Tuple elts kk pos) (Itz K l1 l2) [z, TI, TO, i1, i2] z (fun i h => IsZip h z TI TO .none ∧ IsPair h TI (.ref i1) (.ref i2) ∧ (∃ a b, IsPair h TO a b) ∧ h.IsListIter i1 l1 i ∧ h.IsListIter i2 l2 i) where
 mem := by simp
 obj := fun i h st b hb => by
  obtain ⟨a1, a2, ⟨u, v, a3⟩, ⟨o4, h4, _, d4⟩, ⟨o5, h5, _, d5⟩⟩ := st
  simp only [List.mem_cons, List.not_mem_nil, or_false] at hb
  rcases hb with rfl | rfl | rfl | rfl | rfl
  ·exact ⟨_, a1, fun v z => by cases z⟩
  ·exact ⟨_, a2, fun v z => by cases z⟩
  ·exact ⟨_, a3, fun v z => by cases z⟩
  ·exact ⟨_, h4, fun v z => by rw [d4] at z; cases z⟩
  ·exact ⟨_, h5, fun v z => by rw [d5] at z; cases z⟩
 keep := fun i h h' st k => by
  obtain ⟨a1, a2, ⟨u, v, a3⟩, a4, a5⟩ := st
  exact ⟨k z (by simp) _ a1, k TI (by simp) _ a2, ⟨u, v, k TO (by simp) _ a3⟩, a4.at fun o q => k i1 (by simp) o q, a5.at fun o q => k i2 (by simp) o q⟩
 item := by
  intro X hP hw hK hc i pins s σ H E I hf st hg
  subst hP hw hK
  obtain ⟨xs, ys, x, y, hq1, hq2, hx, hy⟩ := hg
  obtain ⟨is1, rv1, pl1, hz1⟩ := I.list hq1
  obtain ⟨is2, rv2, pl2, hz2⟩ := I.list hq2
  obtain ⟨u, hu, ru⟩ := rv1.get hx
  obtain ⟨v, hv, rv⟩ := rv2.get hy
  have hil : i < min is1.toArray.size is2.toArray.size := by
   have e1 := (List.getElem?_eq_some_iff.mp hu).1
   have e2 := (List.getElem?_eq_some_iff.mp hv).1
   simp only [List.size_toArray]
   omega
  have W := WalksT.zip2 (prog := X.prog) (w := X.w) (A := X.A) (I.ok.hd hc) z TI TO i1 i2 l1 l2 D is1.toArray is2.toArray
  obtain ⟨a1, a2, a3, a4, a5⟩ := st
  refine W.item i s _ _ hil ⟨a1, a2, a3, a4, a5, pl1.isList, pl2.isList⟩ fun T vals h' tk hP hTs hTup hmid hk => ⟨_, rfl, W.go elts kk pos i T _ _ _ hmid fun h'' st'' hk'' => ?_⟩
  obtain ⟨x2, y2, hx2, hy2, rfl⟩ := hP
  have hx2' : is1[i]? = some x2 := by simpa using hx2
  have hy2' : is2[i]? = some y2 := by simpa using hy2
  rw [hu] at hx2'
  rw [hv] at hy2'
  cases hx2'
  cases hy2'
  have hTn : H T = none := I.hok.fresh hTs
  have both : ∀ b o, b ∉ [z, TO, i1, i2] → s.heap.get? b = some o → h''.get? b = some o := fun b o hb q => hk'' b o hb (hk b o hb q)
  have sub : ∀ b, b ∉ [z, TI, TO, i1, i2] → b ∉ [z, TO, i1, i2] := fun b hb hm => hb (by
   simp only [List.mem_cons, List.not_mem_nil, or_false] at hm ⊢
   rcases hm with h | h | h | h
   ·exact .inl h
   ·exact .inr (.inr (.inl h))
   ·exact .inr (.inr (.inr (.inl h)))
   ·exact .inr (.inr (.inr (.inr h))))
  have hTw : T ∉ [z, TO, i1, i2] := W.apart _ _ _ hmid
  have hTT : h''.IsTuple T #[u, v] := hTup.at fun o q => hk'' T o hTw q
  have neT : ∀ b o, s.heap.get? b = some o → b ≠ T := fun b o q => Nat.ne_of_lt (Nat.lt_of_lt_of_le (Heap.lt_size q) hTs)
  have neT' : ∀ b o, H b = some o → b ≠ T := fun b o q => Zj q hTn
  have trk : ∀ b o, H b = some o → b ∉ [z, TI, TO, i1, i2] := fun b o q hm => by
   have := (hf b hm).1
   rw [this] at q; cases q
  refine ⟨.ref T, upd H T (.par [x, y]), ?_, rfl, ⟨T, x, y, rfl, hTn, rfl, fun as bs ha hb => by rw [I.list_inj ha hq1, I.list_inj hb hq2]; exact ⟨hx, hy⟩⟩, ⟨st''.1, st''.2.1, st''.2.2.1, st''.2.2.2.1, st''.2.2.2.2.1⟩, fun b hb => ?_⟩
  ·refine (show Inv X pins σ (upd H T (.par [x, y])) { s with heap := h'', toks := tk } from ?_)
   refine I.call (g' := s.gens) (d' := s.drawn) (t' := tk) (h' := h'') (ch := [z, TI, TO, i1, i2]) ⟨fun b o q _ _ hx => both b o (sub b hx) q, fun b o q _ _ hx => ⟨o.slots, both b o (sub b hx) q⟩, fun b o q n hx => by rw [Zg (neT b o q)]; exact n, fun b o q hx => ⟨o, both b o (sub b hx) q⟩,
    fun b ys q => by rw [Zg (neT' b _ q)]; exact q, fun b o u q => by rw [Zg (neT' b _ q)]; exact q, fun b ps q => ⟨#[], by rw [Zg (neT' b _ q), q]; simp⟩⟩ (fun b o q => ?_) I.bare fun b hb => ?_
   ·by_cases hb : b = T
    ·subst hb
     rw [Zc] at q
     cases q
     exact ⟨by show 2 ≤ sizeLine; decide, [u, v], .cons ru (.cons rv .nil), hTT⟩
    ·rw [Zg hb] at q
     refine (I.hok b o q).stay (fun c ob hc' q' => both c ob ?_ q') (fun c q' => by rw [Zg (neT' c _ q')]; exact q') fun c ys q' => by rw [Zg (neT' c _ q')]; exact q'
     rcases hc' with z' | z'
     ·rw [z']; exact sub _ (trk b o q)
     ·exact sub _ (trk c _ z')
   ·obtain ⟨f0, f1, f2, f3, f4, f5⟩ := hf b hb
    exact ⟨f3, f1, f4, f5⟩
  ·have hne : b ≠ T := by
    obtain ⟨f0, _⟩ := hf b hb
    have : ∃ o, s.heap.get? b = some o := by
     obtain ⟨u', v', a3'⟩ := a3
     obtain ⟨o4, h4, _⟩ := a4
     obtain ⟨o5, h5, _⟩ := a5
     simp only [List.mem_cons, List.not_mem_nil, or_false] at hb
     rcases hb with rfl | rfl | rfl | rfl | rfl
     ·exact ⟨_, a1⟩
     ·exact ⟨_, a2⟩
     ·exact ⟨_, a3'⟩
     ·exact ⟨_, h4⟩
     ·exact ⟨_, h5⟩
    obtain ⟨o, ho⟩ := this
    exact neT b o ho
   rw [Zg hne]
   exact (hf b hb).1
 done := by
  intro X hP hw hK hc i pins s σ H E I hf st hg
  subst hP hw hK
  obtain ⟨xs, ys, hq1, hq2, hx, hy⟩ := hg
  obtain ⟨is1, rv1, pl1, hz1⟩ := I.list hq1
  obtain ⟨is2, rv2, pl2, hz2⟩ := I.list hq2
  have e1 := rv1.length
  have e2 := rv2.length
  have W := WalksT.zip2 (prog := X.prog) (w := X.w) (A := X.A) (I.ok.hd hc) z TI TO i1 i2 l1 l2 D is1.toArray is2.toArray
  have hn : i = min is1.toArray.size is2.toArray.size := by simp only [List.size_toArray]; omega
  obtain ⟨a1, a2, a3, a4, a5⟩ := st
  rw [hn] at a4 a5
  have sub : ∀ b, b ∉ [z, TI, TO, i1, i2] → b ∉ [z, TO, i1, i2] := fun b hb hm => hb (by
   simp only [List.mem_cons, List.not_mem_nil, or_false] at hm ⊢
   rcases hm with h | h | h | h
   ·exact .inl h
   ·exact .inr (.inr (.inl h))
   ·exact .inr (.inr (.inr (.inl h)))
   ·exact .inr (.inr (.inr (.inr h))))
  refine W.done s _ _ ⟨a1, a2, a3, a4, a5, pl1.isList, pl2.isList⟩ fun h' tk hk => ⟨rfl, ?_⟩
  have trk : ∀ b o, H b = some o → b ∉ [z, TI, TO, i1, i2] := fun b o q hm => by
   have := (hf b hm).1
   rw [this] at q; cases q
  refine I.call (g' := s.gens) (d' := s.drawn) (t' := tk) (h' := h') (ch := [z, TI, TO, i1, i2]) ⟨fun b o q _ _ hx => hk b o (sub b hx) q, fun b o q _ _ hx => ⟨o.slots, hk b o (sub b hx) q⟩, fun b o q n hx => n, fun b o q hx => ⟨o, hk b o (sub b hx) q⟩, fun b ys q => q, fun b o u q => q, fun b ps q => ⟨#[], by rw [q]; simp⟩⟩ (fun b o q => ?_) I.bare fun b hb => ?_
  ·refine (I.hok b o q).stay (fun c ob hc' q' => hk c ob ?_ q') (fun _ q' => q') fun _ _ q' => q'
   rcases hc' with z' | z'
   ·rw [z']; exact sub _ (trk b o q)
   ·exact sub _ (trk c _ z')
  ·obtain ⟨f0, f1, f2, f3, f4, f5⟩ := hf b hb
   exact ⟨f3, f1, f4, f5⟩
 self := fun A i s Q E st h => wpAny_pyIter_zip st.1 h
theorem Jm (n l1 l2 : Nat) (h1 : l1 < n) (h2 : l2 < n) : ZipApart (n + 4) (n + 2) (n + 3) n (n + 1) l1 l2 := by
 constructor <;> intro z <;> refine absurd (show @Eq Nat _ _ from z) ?_ <;> omega
section
variable {X : Cx} {elts : List Expr} {kk : Nat} {tp : Pos}
def iZip (K : PySem.W.Frag) (ta : TA) : TI := fun σ H R => ta σ H fun vs H1 => ∃ l1 l2, vs = [.ref l1, .ref l2] ∧ (∃ xs ys, SqL K H1 l1 xs ∧ SqL K H1 l2 ys) ∧ R (Itz K l1 l2) H1
theorem ZcX {a b : Expr} {ta : TA} {p pos : Pos} (hg : Gl X "zip") (hm : X.mg "zip" = none) (ha : PA X [a, b] ta) (hs : starEach [a, b] X.env = [(false, eval a X.env), (false, eval b X.env)] := by rfl) (hs2 : starEach [b] X.env = [(false, eval b X.env)] := by rfl) :
  PI X (.Tuple elts kk tp) (.Call (.Name "zip" p) [a, b] [] pos) (iZip X.K ta) := by
 intro pins s σ H R I h
 refine Call_ (YE I hg hm PyProof.Rows.Boot.«zip» (PyProof.Rows.callWith_type1 (thn (ha pos pins s σ H _ I h) fun us s1 ⟨vs, H1, I1, r1, q1⟩ => ?_) (by rw [hs, hs2]) (by rw [hs2]; rfl)))
 obtain ⟨l1, l2, e, ⟨xs, ys, hq1, hq2⟩, q⟩ := q1
 subst e
 obtain ⟨u, v, rfl, ru, rv⟩ := vals2 r1
 cases ru
 cases rv
 obtain ⟨is1, rv1, pl1, hz1⟩ := I1.list hq1
 obtain ⟨is2, rv2, pl2, hz2⟩ := I1.list hq2
 have t1 : l1 < s1.heap.objs.size := by obtain ⟨o, ho, _⟩ := pl1.isList; exact Heap.lt_size ho
 have t2 : l2 < s1.heap.objs.size := by obtain ⟨o, ho, _⟩ := pl2.isList; exact Heap.lt_size ho
 have D := Jm s1.heap.objs.size l1 l2 t1 t2
 refine call_zip_2 pl1.isList pl2.isList fun h' b1 b2 b3 b4 b5 b6 hk => wpAny_pyIter_zip b1 ?_
 have I2 : Inv X pins σ H1 { s1 with heap := h' } := I1.kept (t' := s1.toks) hk
 refine ⟨s1.heap.objs.size + 4, [s1.heap.objs.size + 4, s1.heap.objs.size + 2, s1.heap.objs.size + 3, s1.heap.objs.size, s1.heap.objs.size + 1], _, _, H1, rfl, I2,
  Zbe _ _ _ _ _ l1 l2 D, ⟨b1, b2, ⟨_, _, b3⟩, b4, b5⟩, fun b hb => ?_, q⟩
 have hbs : s1.heap.objs.size ≤ b := by
  simp only [List.mem_cons, List.not_mem_nil, or_false] at hb
  rcases hb with z | z | z | z | z <;> rw [z] <;> first | exact Nat.le_refl _ | exact Nat.le_add_right _ _
 exact I1.fpOk hbs (I1.hok.fresh hbs)
end
theorem ZbL {K : PySem.W.Frag} {l1 l2 : Addr} {xs zs : List V} {g : TG} {tt : TT} {ti : TC} {ys : List V} {σ : St} {H : Hp} {Q : List V → St → Hp → Prop} (hlen : xs.length = zs.length) (Pv : Nat → List V → St → Hp → Prop) (h0 : Pv 0 ys σ H)
  (hl : ∀ i ys σ H, i ≤ xs.length → Pv i ys σ H → SqL K H l1 xs ∧ SqL K H l2 zs)
  (hs : ∀ i x y T ys σ H, xs[i]? = some x → zs[i]? = some y → H T = none → Pv i ys σ H → g (.ref T) σ (upd H T (.par [x, y])) fun σ2 H2 => tt σ2 H2 fun b H3 => if b = true then ti ys σ2 H3 (Pv (i + 1)) else Pv (i + 1) ys σ2 H3)
  (hd : ∀ ys σ H, Pv xs.length ys σ H → Q ys σ H) : tNestW g tt ti (Itz K l1 l2) ys σ H Q := by
 refine ⟨fun i m ys σ H => m = xs.length - i ∧ i ≤ xs.length ∧ Pv i ys σ H, ⟨xs.length, by simp, Nat.zero_le _, h0⟩, ?_⟩
 rintro i m ys σ H ⟨rfl, hi, p⟩
 obtain ⟨q1, q2⟩ := hl i ys σ H hi p
 by_cases hlt : i < xs.length
 ·refine .inr ⟨⟨xs, zs, xs[i], zs[i]'(by omega), q1, q2, by simp [hlt], by simp [hlen ▸ hlt]⟩, Pv (i + 1), fun ys' σ' H' p' => ⟨xs.length - (i + 1), by omega, rfl, hlt, p'⟩, fun x H' y => ?_⟩
  obtain ⟨T, a, b, e1, e2, e3, e4⟩ := y
  subst e1 e3
  obtain ⟨f1, f2⟩ := e4 xs zs q1 q2
  exact hs i a b T ys σ H f1 f2 e2 p
 ·have e : i = xs.length := by omega
  subst e
  exact .inl ⟨⟨xs, zs, q1, q2, rfl, hlen.symm⟩, hd ys σ H p⟩
end L2
set_option Elab.async false
set_option linter.all false
set_option maxRecDepth 100000
namespace L2
open PySem PySem.Spec PyProof.Rows SeqAt
end L2
set_option Elab.async false
set_option linter.all false
set_option maxRecDepth 100000
namespace L2
open PySem PySem.Spec PyProof.Rows SeqAt
theorem Z3 {α β : Type} {F : α → β → Prop} : ∀ {l₁ : List α} {l₂ : List β} {i : Nat} {x : α}, Paired F l₁ l₂ → l₁[i]? = some x → ∃ y, l₂[i]? = some y ∧ F x y
 | _, _, _, _, .nil, h => by simp at h
 | _, _, 0, _, .cons r _, h => by simp at h; subst h; exact ⟨_, rfl, r⟩
 | _, _, i + 1, _, .cons _ t, h => by
  obtain ⟨y, e, q⟩ := Z3 t (i := i) (by simpa using h)
  exact ⟨y, by simpa using e, q⟩
section
variable {X : Cx}
theorem W5 {a b : String} : CallR X (.builtin "isinstance") (fun xs H Q => ∃ (x : V) (t : Addr) (T : Value) (r : Bool), xs = [x, .ref t] ∧ SqT X.K H t [.ty a, .ty b] ∧ ((∃ i, x = .int i ∧ T = .type "int") ∨ ∃ l ys, x = .ref l ∧ H l = some (.lst ys) ∧ T = .type "list") ∧
  PySem.W.kitAny X.K T [.type a, .type b] = some r ∧ Q (.bl r) H) := by
 intro pins s σ H xs us Q I rv h
 obtain ⟨x, t, T, r, rfl, hq, hx, hk, q⟩ := h
 obtain ⟨u, v, rfl, ru, rv⟩ := vals2 rv
 cases rv
 obtain ⟨its, rt, pl, hz⟩ := I.tuple hq
 cases rt with
 | cons r1 r2 =>
  cases r2 with
  | cons r3 r4 =>
   cases r4
   cases r1
   cases r3
   obtain ⟨o, ho, hc, n, hd⟩ := id pl
   obtain ⟨cls, dd, dt, sl⟩ := o
   replace hc : cls = .type "tuple" := hc
   replace hd : dt = .seq [Value.type a, Value.type b].toArray n := hd
   subst hc hd
   rcases hx with ⟨i, rfl, rfl⟩ | ⟨l, ys, rfl, hl, rfl⟩
   ·obtain ⟨tk, rfl⟩ := ru
    exact PySem.W.kia_tup PySem.W.kitx_int I.kIn True.intro ho hk (fun z => nomatch z) fun tk => ⟨.bl r, H, I.tok _, rfl, q⟩
   ·cases ru
    obtain ⟨_, _, n, _, h1⟩ := (show ObjOk X.prog X.w H s.heap l (.lst ys) from I.hok l _ hl)
    exact PySem.W.kia_tup PySem.W.kitx_list I.kIn ⟨_, h1, rfl⟩ ho hk (fun z => nomatch z) fun tk => ⟨.bl r, H, I.tok _, rfl, q⟩
end
section
variable {X : Cx} {e : Expr} {te : TE} {p1 p2 p3 pos : Pos} {j : Nat}
theorem W8 : ∀ {xs : List V} {us : List Value}, Vals xs us → Vals xs.reverse us.reverse
 | _, _, .nil => .nil
 | _, _, .cons r t => by
  rw [List.reverse_cons, List.reverse_cons]
  exact (W8 t).append (.cons r .nil)
end
end L2
set_option Elab.async false
set_option linter.all false
set_option maxRecDepth 100000
namespace L2
open PySem PySem.Spec PyProof.Rows SeqAt
section
variable {X : Cx}
def frTo (i : Int) (n : Nat) : List Int := (List.range n).map fun (k : Nat) => i + (k : Int)
theorem WC {x : V} : ∀ {xs : List V} {us : List Value}, Vals xs us → xs.all flatV = true → us.countP (eqU x) = xs.countP fun y => eqV y x
 | _, _, .nil, _ => rfl
 | y :: xs, u :: us, .cons r t, f => by
  rw [List.all_cons, Bool.and_eq_true] at f
  rw [List.countP_cons, List.countP_cons, W2 r f.1, WC t f.2]
def rLCnt (K : PySem.W.Frag) : V → List V → Hp → VK → Prop := fun v vs H Q => ∃ (a : Addr) (xs : List V) (x : V), v = .ref a ∧ vs = [x] ∧ SqL K H a xs ∧ flatV x = true ∧ xs.all flatV = true ∧ Q (.int ((xs.countP fun y => eqV y x : Nat) : Int)) H
theorem Zan {its : List Value} {h : Heap} {a : Addr} (pl : h.IsList a its.toArray) : ∃ dd n sl, h.get? a = some { cls := .type "list", dict := dd, data := .seq its.toArray n, slots := sl } := by
 obtain ⟨o, ho, hc, n, hd⟩ := pl
 obtain ⟨cls, dd, dt, sl⟩ := o
 replace hc : cls = .type "list" := hc
 replace hd : dt = .seq its.toArray n := hd
 subst hc hd
 exact ⟨_, _, _, ho⟩
theorem ZbN : MtR X "list.count" (rLCnt X.K) := by
 intro pins s σ H v vs u us Q I rv rvs h
 obtain ⟨a, xs, x, rfl, rfl, hq, fx, fs, q⟩ := h
 cases rv
 obtain ⟨ux, rfl, rx⟩ := vals1 rvs
 obtain ⟨its, r, pl, hz⟩ := I.list hq
 obtain ⟨dd, n, sl, ho⟩ := Zan pl.isList
 refine call_meets F.slot_list_count ⟨_, ho, rfl⟩ F.entry_list_count (F.args_list_count_2 _ _) (list_countAt a its.toArray n dd sl ux (eqU x)) ⟨ho, fun y hy => YM rx fx r fs y (by simpa using hy), ?_⟩
 exact ⟨.int _, H, I.tok _, ⟨_, by rw [show its.toArray.toList = its by simp, WC r fs]⟩, q⟩
def rLIdx (K : PySem.W.Frag) : V → List V → Hp → VK → Prop := fun v vs H Q => ∃ (a : Addr) (xs : List V) (x : V) (j : Nat), v = .ref a ∧ vs = [x] ∧ SqL K H a xs ∧ flatV x = true ∧ xs.all flatV = true ∧ (∃ y, xs[j]? = some y ∧ eqV y x = true) ∧ (∀ m y, m < j → xs[m]? = some y → eqV y x = false) ∧ Q (.int (j : Int)) H
theorem ZaQ : MtR X "list.index" (rLIdx X.K) := by
 intro pins s σ H v vs u us Q I rv rvs h
 obtain ⟨a, xs, x, j, rfl, rfl, hq, fx, fs, ⟨y, hy, ey⟩, hno, q⟩ := h
 cases rv
 obtain ⟨ux, rfl, rx⟩ := vals1 rvs
 obtain ⟨its, r, pl, hz⟩ := I.list hq
 obtain ⟨dd, n, sl, ho⟩ := Zan pl.isList
 have hlen := r.length
 have ans : ∀ k z (hk : k < its.length), xs[k]? = some z → eqU x its[k] = eqV z x := fun k z hk hz' => by
  obtain ⟨w, hw, rw'⟩ := r.get hz'
  rw [List.getElem?_eq_getElem hk] at hw
  cases hw
  exact W2 rw' (List.all_eq_true.mp fs z (List.mem_of_getElem? hz'))
 have hj : j < its.length := by have := (List.getElem?_eq_some_iff.mp hy).1; omega
 refine call_meets F.slot_list_index ⟨_, ho, rfl⟩ F.entry_list_index (F.args_list_index_2 _ _)
  (list_indexAt a its.toArray n dd sl ux (eqU x) j (by simpa using hj) (by rw [sizeLine_eq] at hz; omega) (by simpa [ey] using ans j y hj hy) (fun m hm hmj => ?_)) ⟨ho, fun y hy => YM rx fx r fs y (by simpa using hy), ?_⟩
 ·have hm' : m < its.length := by simpa using hm
  have hx : m < xs.length := by omega
  have e := ans m _ hm' (List.getElem?_eq_getElem hx)
  rw [hno m _ hmj (List.getElem?_eq_getElem hx)] at e
  simpa using e
 ·exact ⟨.int (j : Int), H, I.tok _, ⟨_, rfl⟩, q⟩
end
end L2
set_option Elab.async false
set_option linter.all false
set_option maxRecDepth 100000
namespace L2
open PySem PySem.Spec PyProof.Rows
structure One (base : Heap) (scope : Scope) (cl : List (Str × Addr)) (x : Str) (vx : V) : Prop where
 kx : scope.names.lookup x = some .free
 only : ∀ z, scope.names.lookup z = some .cell ∨ scope.names.lookup z = some .free → z = x
 cx : ∃ c u, cl.lookup x = some c ∧ base.IsCell c (some u) ∧ RelV vx u
 mem : ∀ z c, cl.lookup z = some c → z = x
end L2
set_option Elab.async false
set_option linter.all false
set_option maxRecDepth 100000
namespace L2
open PySem PySem.Spec PyProof.Rows
structure Src (prog : Program) (w : World) (i l : Addr) (n : Nat) (f : Nat → Value) (S : Nat → Heap → Prop) : Prop where
 here : ∀ k h, S k h → ∃ o, h.get? i = some o
 stay : ∀ k h h', S k h → (∀ c, c = i ∨ c = l → ∀ o, h.get? c = some o → h'.get? c = some o) → S k h'
 item : ∀ (A : Around) k (s : Shared) (Q : Value → Shared → Prop) (E : Value → Shared → Prop), k < n → S k s.heap → (∀ h', S (k + 1) h' → Heap.SameBut i s.heap h' → Q (f k) { s with heap := h' }) → wpAny (model prog w) A (Builtin.SmallTypes.nextOf (.ref i)) Q E s
 stop : ∀ (A : Around) (s : Shared) (Q : Value → Shared → Prop) (E : Value → Shared → Prop), A.handled = none → S n s.heap → (∀ h' e, Heap.ExtBut i s.heap h' → (∃ o, h'.get? e = some o ∧ o.cls = .type "StopIteration") → E (.ref e) { s with heap := h' }) → wpAny (model prog w) A (Builtin.SmallTypes.nextOf (.ref i)) Q E s
theorem Yh (prog : Program) (w : World) {i l : Addr} (its : Array Value) (hne : l ≠ i) : Src prog w i l its.size (fun k => its.getD k .none) (fun k h => IsTupIter h i l k ∧ IsTup h l its) where
 here := fun k h ⟨⟨o, ho, _⟩, _⟩ => ⟨o, ho⟩
 stay := fun k h h' ⟨⟨o, ho, r⟩, ⟨u, hu, r'⟩⟩ st => ⟨⟨o, st i (.inl rfl) o ho, r⟩, ⟨u, st l (.inr rfl) u hu, r'⟩⟩
 item := fun A k s Q E hk ⟨hi, ht⟩ q => by
  obtain ⟨oi, gi, ci, di⟩ := id hi
  obtain ⟨ot, gt, ct, nt, dt⟩ := id ht
  have hx : its[k]? = some (its.getD k .none) := by simp [hk]
  unfold Builtin.SmallTypes.nextOf
  refine wpAny_bind (wpAny_callSpecial?_slot (name := Str.ofString "__next__") hi.typeIs slot_tupleiter_next (wpAny_call_entry slot_tupleiter_next hi.typeIs entry_tupleiter_next ?_ (args_tupleiter_next _)))
  refine (show wpAny _ _ (field (.ref i) 0 >>= _) _ _ s from wpAny_bind (wpAny_field gi di (x := .ref l) rfl ?_))
  refine (show wpAny _ _ (if (Value.ref l == Value.none) = true then _ else _) _ _ s from ?_)
  rw [if_neg (by exact Bool.false_ne_true)]
  refine (show wpAny _ _ (field (.ref i) 1 >>= _) _ _ s from wpAny_bind (wpAny_field gi di (x := .int k 0) rfl ?_))
  refine (show wpAny _ _ (seqItems? (.ref l) >>= _) _ _ s from wpAny_bind (wpAny_seqItems gt dt ?_))
  simp only [Int.toNat_natCast, hx]
  refine wpAny_bind (wpAny_setField gi di (by simp) (wpAny_pure ⟨_, rfl, wpAny_pure (q _ ⟨⟨_, Heap.get?_update_self _ gi (Obj.isFreed_of_fields (Obj.data_mapFields di _)), (Obj.cls_mapFields ..).trans ci, ?_⟩, ?_⟩ (Heap.SameBut.update ..))⟩))
  ·rw [Obj.data_mapFields di]; simp [rawInt]
  ·exact ⟨ot, (Heap.SameBut.update ..).extBut _ _ hne gt, ct, nt, dt⟩
 stop := fun A s Q E hh ⟨hi, ht⟩ q => by
  obtain ⟨oi, gi, ci, di⟩ := id hi
  obtain ⟨ot, gt, ct, nt, dt⟩ := id ht
  have hx : its[its.size]? = none := by simp
  unfold Builtin.SmallTypes.nextOf
  refine wpAny_bind (wpAny_callSpecial?_slot (name := Str.ofString "__next__") hi.typeIs slot_tupleiter_next (wpAny_call_entry slot_tupleiter_next hi.typeIs entry_tupleiter_next ?_ (args_tupleiter_next _)))
  refine (show wpAny _ _ (field (.ref i) 0 >>= _) _ _ s from wpAny_bind (wpAny_field gi di (x := .ref l) rfl ?_))
  refine (show wpAny _ _ (if (Value.ref l == Value.none) = true then _ else _) _ _ s from ?_)
  rw [if_neg (by exact Bool.false_ne_true)]
  refine (show wpAny _ _ (field (.ref i) 1 >>= _) _ _ s from wpAny_bind (wpAny_field gi di (x := .int its.size 0) rfl ?_))
  refine (show wpAny _ _ (seqItems? (.ref l) >>= _) _ _ s from wpAny_bind (wpAny_seqItems gt dt ?_))
  simp only [Int.toNat_natCast, hx]
  refine wpAny_bind (wpAny_rule (wpAny_bind (wpAny_setField gi di (by simp) ?_)))
  refine (show wpAny _ _ (newExc (.type "StopIteration") [] >>= _) _ _ _ from wpAny_bind ?_)
  simp only [newExc, newTuple]
  refine wpAny_bind (wpAny_newObj_type ?_ (by size_fits))
  refine wpAny_bind (m := firstArgMember _ _) (wpAny_of_eq (a := Value.none) (by first | rfl | (simp only [firstArgMember]; rfl)) ?_)
  refine wpAny_newObj_type ?_ (by size_fits)
  simp only [raiseNew]
  refine wpAny_bind (wpAny_handled ?_)
  first | rw [show A.in1.handled = none from hh] | rw [hh]
  refine wpAny_bind (wpAny_pure (wpAny_throw ?_))
  exact q _ _ (((Heap.SameBut.update ..).extBut.push _).push _) ⟨_, Heap.get?_push_size _ rfl, rfl⟩
section
variable {prog : Program} {w : World} {A : Around} {E : Value → Shared → Prop} {s : Shared} {z TI TO i1 i2 l1 l2 : Addr} {n k : Nat} {f g : Nat → Value} {S1 S2 : Nat → Heap → Prop}
theorem Zcd {a b : Value} {Q : Value → Shared → Prop} (U1 : Src prog w i1 l1 n f S1) (U2 : Src prog w i2 l2 n g S2) (D : ZipApart z TI TO i1 i2 l1 l2) (hk : k < n) (hz : IsZip s.heap z TI TO .none) (hI : IsPair s.heap TI (.ref i1) (.ref i2)) (hO : IsPair s.heap TO a b) (h1 : S1 k s.heap) (h2 : S2 k s.heap)
    (q : ∀ h', IsZip h' z TI TO (rawInt s.heap.objs.size) → IsPair h' TO (f k) (g k) → S1 (k + 1) h' → S2 (k + 1) h' → IsPair h' s.heap.objs.size (f k) (g k) → h'.objs.size = s.heap.objs.size + 1 →
      (∀ c o, c ≠ z → c ≠ TO → c ≠ i1 → c ≠ i2 → s.heap.get? c = some o → h'.get? c = some o) → Q (.ref s.heap.objs.size) { s with heap := h' }) :
    wpAny (model prog w) A (Builtin.«zip.__next__» ⟨[.ref z], []⟩) (fun fin s' => ∃ v, fin = .done (.ret v) ∧ Q v s') E s := by
  refine (show wpAny _ _ (field (.ref z) 2 >>= _) _ _ _ from wpAny_bind (wpAny_field hz rfl (x := .bool false) rfl ?_))
  refine (show wpAny _ _ (field (.ref z) 3 >>= _) _ _ _ from wpAny_bind (wpAny_field hz rfl (x := .ref TI) rfl (wpAny_bind (wpAny_seqItems hI rfl ?_))))
  refine (show wpAny _ _ (Builtin.SmallTypes.ownedTupleIsFree (.ref z) >>= _) _ _ _ from wpAny_bind ?_)
  unfold Builtin.SmallTypes.ownedTupleIsFree
  refine wpAny_bind (wpAny_field hz rfl (x := .none) rfl (wpAny_pure ?_))
  simp only [if_true]
  refine wpAny_bind (wpAny_rule (wpAny_bind (wpAny_field hz rfl (x := .ref TO) rfl (wpAny_bind (wpAny_setField_rec hz (by simp) fun m1 zz1 e1 => ?_)))))
  replace zz1 : IsZip m1 z TI TO .ellipsis := zz1
  have b1 := e1.extBut
  refine wpAny_bind ?_
  simp only [List.zipIdx_cons, List.zipIdx_nil, List.forIn_cons, List.forIn_nil]
  refine wpAny_bind (wpAny_bind (wpAny_onRaise ?_))
  have st1 : S1 k m1 := U1.stay _ _ _ h1 fun c hc o ho => by rcases hc with rfl | rfl <;> first | exact b1 _ _ D.i1z ho | exact b1 _ _ D.l1z ho
  refine (show wpAny _ _ (Builtin.SmallTypes.nextOf (.ref i1) >>= _) _ _ _ from wpAny_bind (U1.item _ k _ _ _ hk st1 fun m2 st2 e2 => wpAny_pure ?_))
  have b2 := e2.extBut
  have o2 : IsPair m2 TO a b := b2 _ _ D.TOi1 (b1 _ _ D.TOz hO)
  refine wpAny_bind (wpAny_seqItems o2 rfl (wpAny_bind (wpAny_updateSeq_pair o2 fun m3 o3 e3 => ?_)))
  replace o3 : IsPair m3 TO (f k) b := o3
  have b3 := e3.extBut
  refine wpAny_bind (wpAny_letGo (wpAny_pure (wpAny_bind (wpAny_bind (wpAny_onRaise ?_)))))
  have w3 : S2 k m3 := U2.stay _ _ _ h2 fun c hc o ho => by
    rcases hc with rfl | rfl
    · exact b3 _ _ D.TOi2.symm (b2 _ _ D.i12.symm (b1 _ _ D.i2z ho))
    · exact b3 _ _ D.l2TO (b2 _ _ D.l2i1 (b1 _ _ D.l2z ho))
  refine (show wpAny _ _ (Builtin.SmallTypes.nextOf (.ref i2) >>= _) _ _ _ from wpAny_bind (U2.item _ k _ _ _ hk w3 fun m4 w4 e4 => wpAny_pure ?_))
  have b4 := e4.extBut
  have o4 : IsPair m4 TO (f k) b := b4 _ _ D.TOi2 o3
  refine wpAny_bind (wpAny_seqItems o4 rfl (wpAny_bind (wpAny_updateSeq_pair o4 fun m5 o5 e5 => ?_)))
  replace o5 : IsPair m5 TO (f k) (g k) := o5
  have b5 := e5.extBut
  refine wpAny_bind (wpAny_letGo (wpAny_pure (wpAny_pure (wpAny_bind (wpAny_seqItems o5 rfl (wpAny_bind (wpAny_newTuple ?_)))))))
  have sz : m5.objs.size = s.heap.objs.size := by rw [e5.1, e4.1, e3.1, e2.1, e1.1]
  have z5 : IsZip m5 z TI TO .ellipsis := b5 _ _ D.TOz.symm (b4 _ _ D.i2z.symm (b3 _ _ D.TOz.symm (b2 _ _ D.i1z.symm zz1)))
  have kp : ∀ c o, c ≠ z → c ≠ TO → c ≠ i1 → c ≠ i2 → s.heap.get? c = some o → m5.get? c = some o := fun c o c1 c2 c3 c4 e => b5 _ _ c2 (b4 _ _ c4 (b3 _ _ c2 (b2 _ _ c3 (b1 _ _ c1 e))))
  have st5 : S1 (k + 1) m5 := U1.stay _ _ _ st2 fun c hc o ho => by
    rcases hc with rfl | rfl
    · exact b5 _ _ D.TOi1.symm (b4 _ _ D.i12 (b3 _ _ D.TOi1.symm ho))
    · exact b5 _ _ D.l1TO (b4 _ _ D.l1i2 (b3 _ _ D.l1TO ho))
  have w5 : S2 (k + 1) m5 := U2.stay _ _ _ w4 fun c hc o ho => by rcases hc with rfl | rfl <;> first | exact b5 _ _ D.TOi2.symm ho | exact b5 _ _ D.l2TO ho
  have zlt : z < m5.objs.size := Heap.lt_size z5
  refine (show wpAny _ _ (Builtin.SmallTypes.ownedTupleHandOut (.ref z) (.ref m5.objs.size) >>= _) _ _ _ from wpAny_bind ?_)
  unfold Builtin.SmallTypes.ownedTupleHandOut
  have z6 : IsZip (m5.push { cls := .type "tuple", data := .seq #[f k, g k] }) z TI TO .ellipsis := Heap.get?_push_of_some _ z5
  refine wpAny_bind (wpAny_setField_rec z6 (by simp) fun m7 z7 e7 => ?_)
  replace z7 : IsZip m7 z TI TO (rawInt m5.objs.size) := z7
  refine wpAny_setField_rec z7 (by simp) fun m8 z8 e8 => ?_
  replace z8 : IsZip m8 z TI TO (rawInt m5.objs.size) := z8
  have up : ∀ c o, c ≠ z → m5.get? c = some o → m8.get? c = some o := fun c o c1 e => e8.extBut _ _ c1 (e7.extBut _ _ c1 (Heap.get?_push_of_some _ e))
  have t8 : IsPair m8 m5.objs.size (f k) (g k) := e8.extBut _ _ (Nat.ne_of_gt zlt) (e7.extBut _ _ (Nat.ne_of_gt zlt) (Heap.get?_push_size _ rfl))
  have s8 : m8.objs.size = m5.objs.size + 1 := by rw [e8.1, e7.1, Heap.size_push]
  rw [sz] at z8 t8 s8
  refine wpAny_pure ⟨_, rfl, ?_⟩
  show Q (.ref m5.objs.size) _
  rw [sz]
  refine q m8 z8 (up _ _ D.TOz o5) (U1.stay _ _ _ st5 fun c hc o ho => ?_) (U2.stay _ _ _ w5 fun c hc o ho => ?_) t8 s8 fun c o c1 c2 c3 c4 e => up c o c1 (kp c o c1 c2 c3 c4 e)
  · rcases hc with rfl | rfl <;> first | exact up _ _ D.i1z ho | exact up _ _ D.l1z ho
  · rcases hc with rfl | rfl <;> first | exact up _ _ D.i2z ho | exact up _ _ D.l2z ho
theorem ZcQ {a b : Value} {Q : PySem.Fin → Shared → Prop} (hh : A.handled = none) (U1 : Src prog w i1 l1 n f S1) (D : ZipApart z TI TO i1 i2 l1 l2) (hz : IsZip s.heap z TI TO .none) (hI : IsPair s.heap TI (.ref i1) (.ref i2)) (hO : IsPair s.heap TO a b) (h1 : S1 n s.heap)
  (q : ∀ h' e, (∀ c o, c ≠ z → c ≠ TO → c ≠ i1 → c ≠ i2 → s.heap.get? c = some o → h'.get? c = some o) → (∃ o, h'.get? e = some o ∧ o.cls = .type "StopIteration") → E (.ref e) { s with heap := h' }) :
  wpAny (model prog w) A (Builtin.«zip.__next__» ⟨[.ref z], []⟩) Q E s := by
 refine (show wpAny _ _ (field (.ref z) 2 >>= _) _ _ _ from wpAny_bind (wpAny_field hz rfl (x := .bool false) rfl ?_))
 refine (show wpAny _ _ (field (.ref z) 3 >>= _) _ _ _ from wpAny_bind (wpAny_field hz rfl (x := .ref TI) rfl (wpAny_bind (wpAny_seqItems hI rfl ?_))))
 refine (show wpAny _ _ (Builtin.SmallTypes.ownedTupleIsFree (.ref z) >>= _) _ _ _ from wpAny_bind ?_)
 unfold Builtin.SmallTypes.ownedTupleIsFree
 refine wpAny_bind (wpAny_field hz rfl (x := .none) rfl (wpAny_pure ?_))
 simp only [if_true]
 refine wpAny_bind (wpAny_rule (wpAny_bind (wpAny_field hz rfl (x := .ref TO) rfl (wpAny_bind (wpAny_setField_rec hz (by simp) fun m1 zz1 e1 => ?_)))))
 replace zz1 : IsZip m1 z TI TO .ellipsis := zz1
 have b1 := e1.extBut
 refine wpAny_bind ?_
 simp only [List.zipIdx_cons, List.zipIdx_nil, List.forIn_cons, List.forIn_nil]
 refine wpAny_bind (wpAny_bind (wpAny_onRaise ?_))
 have st1 : S1 n m1 := U1.stay _ _ _ h1 fun c hc o ho => by rcases hc with rfl | rfl <;> first | exact b1 _ _ D.i1z ho | exact b1 _ _ D.l1z ho
 refine (show wpAny _ _ (Builtin.SmallTypes.nextOf (.ref i1) >>= _) _ _ _ from wpAny_bind (U1.stop _ _ _ _ hh st1 fun m2 e e2 he => ?_))
 obtain ⟨oe, ge, ce⟩ := he
 have z2 : IsZip m2 z TI TO .ellipsis := e2 _ _ D.i1z.symm zz1
 have nez : e ≠ z := fun y => by subst y; rw [z2] at ge; cases ge; simp at ce
 refine wpAny_setField_rec z2 (by simp) fun m3 _ e3 => q m3 e (fun c o c1 _ c3 _ x => e3.extBut _ _ c1 (e2 _ _ c3 (b1 _ _ c1 x))) ⟨oe, e3.extBut _ _ nez ge, ce⟩
end
end L2
set_option Elab.async false
set_option linter.all false
set_option maxRecDepth 100000
namespace L2
open PySem PySem.Spec PyProof.Rows
section
variable {prog : Program} {w : World} {A : Around} {z TI TO i1 i2 l1 l2 : Addr} {n : Nat} {f g : Nat → Value} {S1 S2 : Nat → Heap → Prop}
theorem Y8 (hh : A.handled = none) (U1 : Src prog w i1 l1 n f S1) (U2 : Src prog w i2 l2 n g S2) (D : ZipApart z TI TO i1 i2 l1 l2) :
  WalksT prog w A z [z, TI, TO, i1, i2, l1, l2] [z, TO, i1, i2] n (fun k vals => vals = #[f k, g k])
   (fun k h => IsZip h z TI TO .none ∧ IsPair h TI (.ref i1) (.ref i2) ∧ (∃ a b, IsPair h TO a b) ∧ S1 k h ∧ S2 k h)
   (fun k T h => IsZip h z TI TO (rawInt T) ∧ IsPair h TI (.ref i1) (.ref i2) ∧ (∃ a b, IsPair h TO a b) ∧ S1 (k + 1) h ∧ S2 (k + 1) h ∧ T ∉ [z, TO, i1, i2]) where
 sub := fun c hc => by
  simp only [List.mem_cons, List.not_mem_nil, or_false] at hc ⊢
  rcases hc with rfl | rfl | rfl | rfl <;> simp
 frame := fun k h h' ⟨a1, a2, ⟨a, b, a3⟩, a4, a5⟩ kp => ⟨kp z (by simp) _ a1, kp TI (by simp) _ a2, ⟨a, b, kp TO (by simp) _ a3⟩, U1.stay _ _ _ a4 fun c hc o => kp c (by rcases hc with rfl | rfl <;> simp) o, U2.stay _ _ _ a5 fun c hc o => kp c (by rcases hc with rfl | rfl <;> simp) o⟩
 item := fun k s Q E hk ⟨a1, a2, ⟨a, b, a3⟩, a4, a5⟩ q => by
  have ty : s.TypeIs (.ref z) "zip" := ⟨_, a1, rfl⟩
  have ne : ∀ {c o}, s.heap.get? c = some o → s.heap.objs.size ≠ c := fun e => Nat.ne_of_gt (Heap.lt_size e)
  obtain ⟨o1, g1⟩ := U1.here _ _ a4
  obtain ⟨o2, g2⟩ := U2.here _ _ a5
  unfold pyNext
  refine wpAny_bind (wpAny_attempt (wpAny_callSpecial?_slot (name := Str.ofString "__next__") ty F.slot_zip_next (wpAny_call_entry F.slot_zip_next ty F.entry_zip_next (Zcd U1 U2 D hk a1 a2 a3 a4 a5 fun h' c1 c2 c3 c4 c5 c6 c7 => wpAny_pure ?_) (F.args_zip_next_1 _))))
  refine q s.heap.objs.size #[f k, g k] h' s.toks rfl (Nat.le_refl _) ⟨_, c5, rfl, _, rfl⟩ ⟨c1, c7 _ _ D.TIz D.TITO D.TIi1 D.TIi2 a2, ⟨_, _, c2⟩, c3, c4, fun m => ?_⟩ fun c o hc e => c7 c o (fun x => hc (by simp [x])) (fun x => hc (by simp [x])) (fun x => hc (by simp [x])) (fun x => hc (by simp [x])) e
  simp only [List.mem_cons, List.not_mem_nil, or_false] at m
  rcases m with m | m | m | m
  ·exact ne a1 m
  ·exact ne a3 m
  ·exact ne g1 m
  ·exact ne g2 m
 go := fun elts kk pos k T s Q E ⟨a1, a2, ⟨a, b, a3⟩, a4, a5, _⟩ q => wpAny_letOwnedTupleGo_zip a1 fun h' z' s' => by
  have ex := s'.extBut
  refine q h' ⟨z', ex _ _ D.TIz a2, ⟨a, b, ex _ _ D.TOz a3⟩, U1.stay _ _ _ a4 fun c hc o ho => ?_, U2.stay _ _ _ a5 fun c hc o ho => ?_⟩ fun c o hc e => ex _ _ (fun x => hc (by simp [x])) e
  ·rcases hc with rfl | rfl <;> first | exact ex _ _ D.i1z ho | exact ex _ _ D.l1z ho
  ·rcases hc with rfl | rfl <;> first | exact ex _ _ D.i2z ho | exact ex _ _ D.l2z ho
 apart := fun k T h ⟨_, _, _, _, _, t⟩ => t
 done := fun s Q E ⟨a1, a2, ⟨a, b, a3⟩, a4, a5⟩ q => by
  have ty : s.TypeIs (.ref z) "zip" := ⟨_, a1, rfl⟩
  unfold pyNext
  refine wpAny_bind (wpAny_attempt (wpAny_callSpecial?_slot (name := Str.ofString "__next__") ty F.slot_zip_next (wpAny_call_entry F.slot_zip_next ty F.entry_zip_next (ZcQ hh U1 D a1 a2 a3 a4 fun h' e kp he => ?_) (F.args_zip_next_1 _))))
  obtain ⟨o, ho, hc⟩ := he
  refine wpAny_bind (wpAny_isInstance (T := "StopIteration") (b := true) ⟨o, ho, hc⟩ isSubtype_stop (wpAny_pure (q _ s.toks fun c o hc e => ?_)))
  exact kp c o (fun x => hc (by simp [x])) (fun x => hc (by simp [x])) (fun x => hc (by simp [x])) (fun x => hc (by simp [x])) e
 self := fun k s Q E st q => wpAny_pyIter_zip st.1 q
end
abbrev zt1 (h : Heap) (l1 : Addr) : Heap := h.push { cls := .type "tuple_iterator", data := .fields #[.ref l1, .int 0 0] }
abbrev zt2 (h : Heap) (l1 l2 : Addr) : Heap := (zt1 h l1).push { cls := .type "tuple_iterator", data := .fields #[.ref l2, .int 0 0] }
abbrev zt3 (h : Heap) (l1 l2 : Addr) : Heap := (zt2 h l1 l2).push { cls := .type "tuple", data := .seq #[.ref h.objs.size, .ref (zt1 h l1).objs.size] }
abbrev zt4 (h : Heap) (l1 l2 : Addr) : Heap := (zt3 h l1 l2).push { cls := .type "tuple", data := .seq #[.none, .none] }
abbrev zt5 (h : Heap) (l1 l2 : Addr) : Heap := (zt4 h l1 l2).push { cls := .type "zip", data := .fields #[.none, .bool false, .bool false, .ref (zt2 h l1 l2).objs.size, .ref (zt3 h l1 l2).objs.size] }
theorem UX {h : Heap} {l : Addr} {xs : Array Value} (t : IsTup h l xs) (o : Obj) : IsTup (h.push o) l xs := let ⟨u, hu, r⟩ := t; ⟨u, Heap.get?_push_of_some _ hu, r⟩
theorem ZcP (l1 l2 : Addr) (xs ys : Array Value) : Meets (Builtin.«zip.__new__» ⟨[.type "zip", .ref l1, .ref l2], []⟩) (fun _ R s => IsTup s.heap l1 xs ∧ IsTup s.heap l2 ys ∧ R (.ok (.ret (.ref (zt4 s.heap l1 l2).objs.size))) { s with heap := zt5 s.heap l1 l2 }) :=
 .of_wp fun prog w A R s h => by
  obtain ⟨hp, gg, d, tk, os⟩ := s
  obtain ⟨t1, t2, h⟩ := h
  have hsub := sub_zip
  have T1 : IsTup (Shared.heap ⟨hp, gg, d, tk, os⟩) l1 xs := t1
  have T2 : IsTup (Shared.heap ⟨hp.push { cls := .type "tuple_iterator", data := .fields #[.ref l1, .int 0 0] }, gg, d, tk, os⟩) l2 ys := UX t2 _
  wp_walk using iter_tuple T1, iter_tuple T2
  exact ⟨_, rfl, h⟩
theorem ZcD {prog : Program} {w : World} {A : Around} {E : Value → Shared → Prop} {s : Shared} {l1 l2 : Addr} {xs ys : Array Value} {Q : Value → Shared → Prop} (t1 : IsTup s.heap l1 xs) (t2 : IsTup s.heap l2 ys)
    (q : ∀ h', IsZip h' (s.heap.objs.size + 4) (s.heap.objs.size + 2) (s.heap.objs.size + 3) .none → IsPair h' (s.heap.objs.size + 2) (.ref s.heap.objs.size) (.ref (s.heap.objs.size + 1)) → IsPair h' (s.heap.objs.size + 3) .none .none →
      IsTupIter h' s.heap.objs.size l1 0 → IsTupIter h' (s.heap.objs.size + 1) l2 0 → (∀ c o, s.heap.get? c = some o → h'.get? c = some o) → Q (.ref (s.heap.objs.size + 4)) { s with heap := h' }) :
    wpAny (model prog w) A (call (.type "zip") [.ref l1, .ref l2]) Q E s := by
  refine callType_new F.called_zip (by decide) (F.typeCall_zip_2 _ _) (F.newCall_zip_2 _ _) (fun obj => F.args_object_init_3 obj _ _) F.entry_zip_new (ZcP l1 l2 xs ys) ⟨t1, t2, ?_⟩
  have y1 : (zt1 s.heap l1).objs.size = s.heap.objs.size + 1 := Heap.size_push ..
  have y2 : (zt2 s.heap l1 l2).objs.size = s.heap.objs.size + 2 := by rw [Heap.size_push, y1]
  have y3 : (zt3 s.heap l1 l2).objs.size = s.heap.objs.size + 3 := by rw [Heap.size_push, y2]
  have y4 : (zt4 s.heap l1 l2).objs.size = s.heap.objs.size + 4 := by rw [Heap.size_push, y3]
  have p : ∀ {h : Heap} {c : Addr} {o u : Obj}, h.get? c = some o → (h.push u).get? c = some o := fun e => Heap.get?_push_of_some _ e
  have x5 : (zt5 s.heap l1 l2).get? (zt4 s.heap l1 l2).objs.size = some _ := Heap.get?_push_size _ rfl
  have x4 : (zt5 s.heap l1 l2).get? (zt3 s.heap l1 l2).objs.size = some _ := p (Heap.get?_push_size _ rfl)
  have x3 : (zt5 s.heap l1 l2).get? (zt2 s.heap l1 l2).objs.size = some _ := p (p (Heap.get?_push_size _ rfl))
  have x2 : (zt5 s.heap l1 l2).get? (zt1 s.heap l1).objs.size = some _ := p (p (p (Heap.get?_push_size _ rfl)))
  have x1 : (zt5 s.heap l1 l2).get? s.heap.objs.size = some _ := p (p (p (p (Heap.get?_push_size _ rfl))))
  show _ ∧ _
  rw [y2, y3, y4] at x5
  rw [y1, y2] at x3
  rw [y3] at x4
  rw [y1] at x2
  rw [y4]
  exact ⟨⟨_, x5, rfl⟩, q _ x5 x3 x4 ⟨_, x1, rfl, rfl⟩ ⟨_, x2, rfl, rfl⟩ fun c o x => p (p (p (p (p x))))⟩
end L2
set_option Elab.async false
set_option linter.all false
set_option maxRecDepth 100000
namespace L2
open PySem PySem.Spec PyProof.Rows
def ItzT (K : PySem.W.Frag) (l1 l2 : Addr) : It :=
 ⟨fun i H => ∃ xs ys x y, SqT K H l1 xs ∧ SqT K H l2 ys ∧ xs.length = ys.length ∧ xs[i]? = some x ∧ ys[i]? = some y,
  fun i H v H' => ∃ (T : Addr) (x y : V), v = .ref T ∧ H T = none ∧ H' = upd H T (.par [x, y]) ∧ ∀ xs ys, SqT K H l1 xs → SqT K H l2 ys → xs[i]? = some x ∧ ys[i]? = some y,
  fun i H => ∃ xs ys, SqT K H l1 xs ∧ SqT K H l2 ys ∧ xs.length = i ∧ ys.length = i⟩
theorem Zaz {P : Program} {w : World} {K : PySem.W.Frag} {elts : List Expr} {kk : Nat} {pos : Pos} (z TI TO i1 i2 l1 l2 : Addr) (D : ZipApart z TI TO i1 i2 l1 l2) :
  Turn P w K (.Tuple elts kk pos) (ItzT K l1 l2) [z, TI, TO, i1, i2] z (fun i h => IsZip h z TI TO .none ∧ IsPair h TI (.ref i1) (.ref i2) ∧ (∃ a b, IsPair h TO a b) ∧ IsTupIter h i1 l1 i ∧ IsTupIter h i2 l2 i) where
 mem := by simp
 obj := fun i h st b hb => by
  obtain ⟨a1, a2, ⟨u, v, a3⟩, ⟨o4, h4, _, d4⟩, ⟨o5, h5, _, d5⟩⟩ := st
  simp only [List.mem_cons, List.not_mem_nil, or_false] at hb
  rcases hb with rfl | rfl | rfl | rfl | rfl
  ·exact ⟨_, a1, fun v z => by cases z⟩
  ·exact ⟨_, a2, fun v z => by cases z⟩
  ·exact ⟨_, a3, fun v z => by cases z⟩
  ·exact ⟨_, h4, fun v z => by rw [d4] at z; cases z⟩
  ·exact ⟨_, h5, fun v z => by rw [d5] at z; cases z⟩
 keep := fun i h h' st k => by
  obtain ⟨a1, a2, ⟨u, v, a3⟩, a4, a5⟩ := st
  exact ⟨k z (by simp) _ a1, k TI (by simp) _ a2, ⟨u, v, k TO (by simp) _ a3⟩, (let ⟨o, ho, r⟩ := a4; ⟨o, k i1 (by simp) o ho, r⟩), let ⟨o, ho, r⟩ := a5; ⟨o, k i2 (by simp) o ho, r⟩⟩
 item := by
  intro X hP hw hK hc i pins s σ H E I hf st hg
  subst hP hw hK
  obtain ⟨xs, ys, x, y, hq1, hq2, hln, hx, hy⟩ := hg
  obtain ⟨is1, rv1, pl1, hz1⟩ := I.tuple hq1
  obtain ⟨is2, rv2, pl2, hz2⟩ := I.tuple hq2
  obtain ⟨u, hu, ru⟩ := rv1.get hx
  obtain ⟨v, hv, rv⟩ := rv2.get hy
  have hs12 : is2.toArray.size = is1.toArray.size := by
   have e1 := rv1.length
   have e2 := rv2.length
   simp only [List.size_toArray]
   omega
  have hil : i < is1.toArray.size := by
   have e1 := (List.getElem?_eq_some_iff.mp hu).1
   simp only [List.size_toArray]
   omega
  have U2 := Yh X.prog X.w is2.toArray D.l2i2
  rw [hs12] at U2
  have W := Y8 (A := X.A) (I.ok.hd hc) (Yh X.prog X.w is1.toArray D.l1i1) U2 D
  obtain ⟨a1, a2, a3, a4, a5⟩ := st
  refine W.item i s _ _ hil ⟨a1, a2, a3, ⟨a4, pl1⟩, ⟨a5, pl2⟩⟩ fun T vals h' tk hP hTs hTup hmid hk => ⟨_, rfl, W.go elts kk pos i T _ _ _ hmid fun h'' st'' hk'' => ?_⟩
  have hx2 : is1.toArray.getD i .none = u := by simp [List.getD_eq_getElem?_getD, hu]
  have hy2 : is2.toArray.getD i .none = v := by simp [List.getD_eq_getElem?_getD, hv]
  rw [hx2, hy2] at hP
  subst hP
  have hTn : H T = none := I.hok.fresh hTs
  have both : ∀ b o, b ∉ [z, TO, i1, i2] → s.heap.get? b = some o → h''.get? b = some o := fun b o hb q => hk'' b o hb (hk b o hb q)
  have sub : ∀ b, b ∉ [z, TI, TO, i1, i2] → b ∉ [z, TO, i1, i2] := fun b hb hm => hb (by
   simp only [List.mem_cons, List.not_mem_nil, or_false] at hm ⊢
   rcases hm with h | h | h | h
   ·exact .inl h
   ·exact .inr (.inr (.inl h))
   ·exact .inr (.inr (.inr (.inl h)))
   ·exact .inr (.inr (.inr (.inr h))))
  have hTw : T ∉ [z, TO, i1, i2] := W.apart _ _ _ hmid
  have hTT : h''.IsTuple T #[u, v] := hTup.at fun o q => hk'' T o hTw q
  have neT : ∀ b o, s.heap.get? b = some o → b ≠ T := fun b o q => Nat.ne_of_lt (Nat.lt_of_lt_of_le (Heap.lt_size q) hTs)
  have neT' : ∀ b o, H b = some o → b ≠ T := fun b o q => Zj q hTn
  have trk : ∀ b o, H b = some o → b ∉ [z, TI, TO, i1, i2] := fun b o q hm => by
   have := (hf b hm).1
   rw [this] at q; cases q
  refine ⟨.ref T, upd H T (.par [x, y]), ?_, rfl, ⟨T, x, y, rfl, hTn, rfl, fun as bs ha hb => by rw [I.tuple_inj ha hq1, I.tuple_inj hb hq2]; exact ⟨hx, hy⟩⟩, ⟨st''.1, st''.2.1, st''.2.2.1, st''.2.2.2.1.1, st''.2.2.2.2.1⟩, fun b hb => ?_⟩
  ·refine (show Inv X pins σ (upd H T (.par [x, y])) { s with heap := h'', toks := tk } from ?_)
   refine I.call (g' := s.gens) (d' := s.drawn) (t' := tk) (h' := h'') (ch := [z, TI, TO, i1, i2]) ⟨fun b o q _ _ hx => both b o (sub b hx) q, fun b o q _ _ hx => ⟨o.slots, both b o (sub b hx) q⟩, fun b o q n hx => by rw [Zg (neT b o q)]; exact n, fun b o q hx => ⟨o, both b o (sub b hx) q⟩,
    fun b ys q => by rw [Zg (neT' b _ q)]; exact q, fun b o u q => by rw [Zg (neT' b _ q)]; exact q, fun b ps q => ⟨#[], by rw [Zg (neT' b _ q), q]; simp⟩⟩ (fun b o q => ?_) I.bare fun b hb => ?_
   ·by_cases hb : b = T
    ·subst hb
     rw [Zc] at q
     cases q
     exact ⟨by show 2 ≤ sizeLine; decide, [u, v], .cons ru (.cons rv .nil), hTT⟩
    ·rw [Zg hb] at q
     refine (I.hok b o q).stay (fun c ob hc' q' => both c ob ?_ q') (fun c q' => by rw [Zg (neT' c _ q')]; exact q') fun c ys q' => by rw [Zg (neT' c _ q')]; exact q'
     rcases hc' with z' | z'
     ·rw [z']; exact sub _ (trk b o q)
     ·exact sub _ (trk c _ z')
   ·obtain ⟨f0, f1, f2, f3, f4, f5⟩ := hf b hb
    exact ⟨f3, f1, f4, f5⟩
  ·have hne : b ≠ T := by
    obtain ⟨f0, _⟩ := hf b hb
    have : ∃ o, s.heap.get? b = some o := by
     obtain ⟨u', v', a3'⟩ := a3
     obtain ⟨o4, h4, _⟩ := a4
     obtain ⟨o5, h5, _⟩ := a5
     simp only [List.mem_cons, List.not_mem_nil, or_false] at hb
     rcases hb with rfl | rfl | rfl | rfl | rfl
     ·exact ⟨_, a1⟩
     ·exact ⟨_, a2⟩
     ·exact ⟨_, a3'⟩
     ·exact ⟨_, h4⟩
     ·exact ⟨_, h5⟩
    obtain ⟨o, ho⟩ := this
    exact neT b o ho
   rw [Zg hne]
   exact (hf b hb).1
 done := by
  intro X hP hw hK hc i pins s σ H E I hf st hg
  subst hP hw hK
  obtain ⟨xs, ys, hq1, hq2, hx, hy⟩ := hg
  obtain ⟨is1, rv1, pl1, hz1⟩ := I.tuple hq1
  obtain ⟨is2, rv2, pl2, hz2⟩ := I.tuple hq2
  have e1 := rv1.length
  have e2 := rv2.length
  have hs12 : is2.toArray.size = is1.toArray.size := by simp only [List.size_toArray]; omega
  have U2 := Yh X.prog X.w is2.toArray D.l2i2
  rw [hs12] at U2
  have W := Y8 (A := X.A) (I.ok.hd hc) (Yh X.prog X.w is1.toArray D.l1i1) U2 D
  have hn : i = is1.toArray.size := by simp only [List.size_toArray]; omega
  obtain ⟨a1, a2, a3, a4, a5⟩ := st
  rw [hn] at a4 a5
  have sub : ∀ b, b ∉ [z, TI, TO, i1, i2] → b ∉ [z, TO, i1, i2] := fun b hb hm => hb (by
   simp only [List.mem_cons, List.not_mem_nil, or_false] at hm ⊢
   rcases hm with h | h | h | h
   ·exact .inl h
   ·exact .inr (.inr (.inl h))
   ·exact .inr (.inr (.inr (.inl h)))
   ·exact .inr (.inr (.inr (.inr h))))
  refine W.done s _ _ ⟨a1, a2, a3, ⟨a4, pl1⟩, ⟨a5, pl2⟩⟩ fun h' tk hk => ⟨rfl, ?_⟩
  have trk : ∀ b o, H b = some o → b ∉ [z, TI, TO, i1, i2] := fun b o q hm => by
   have := (hf b hm).1
   rw [this] at q; cases q
  refine I.call (g' := s.gens) (d' := s.drawn) (t' := tk) (h' := h') (ch := [z, TI, TO, i1, i2]) ⟨fun b o q _ _ hx => hk b o (sub b hx) q, fun b o q _ _ hx => ⟨o.slots, hk b o (sub b hx) q⟩, fun b o q n hx => n, fun b o q hx => ⟨o, hk b o (sub b hx) q⟩, fun b ys q => q, fun b o u q => q, fun b ps q => ⟨#[], by rw [q]; simp⟩⟩ (fun b o q => ?_) I.bare fun b hb => ?_
  ·refine (I.hok b o q).stay (fun c ob hc' q' => hk c ob ?_ q') (fun _ q' => q') fun _ _ q' => q'
   rcases hc' with z' | z'
   ·rw [z']; exact sub _ (trk b o q)
   ·exact sub _ (trk c _ z')
  ·obtain ⟨f0, f1, f2, f3, f4, f5⟩ := hf b hb
   exact ⟨f3, f1, f4, f5⟩
 self := fun A i s Q E st h => wpAny_pyIter_zip st.1 h
section
variable {X : Cx} {elts : List Expr} {kk : Nat} {tp : Pos}
def iZipT (K : PySem.W.Frag) (ta : TA) : TI := fun σ H R => ta σ H fun vs H1 => ∃ l1 l2, vs = [.ref l1, .ref l2] ∧ (∃ xs ys, SqT K H1 l1 xs ∧ SqT K H1 l2 ys) ∧ R (ItzT K l1 l2) H1
theorem WT {a b : Expr} {ta : TA} {p pos : Pos} (hg : Gl X "zip") (hm : X.mg "zip" = none) (ha : PA X [a, b] ta) (hs : starEach [a, b] X.env = [(false, eval a X.env), (false, eval b X.env)] := by rfl) (hs2 : starEach [b] X.env = [(false, eval b X.env)] := by rfl) :
  PI X (.Tuple elts kk tp) (.Call (.Name "zip" p) [a, b] [] pos) (iZipT X.K ta) := by
 intro pins s σ H R I h
 refine Call_ (YE I hg hm PyProof.Rows.Boot.«zip» (PyProof.Rows.callWith_type1 (thn (ha pos pins s σ H _ I h) fun us s1 ⟨vs, H1, I1, r1, q1⟩ => ?_) (by rw [hs, hs2]) (by rw [hs2]; rfl)))
 obtain ⟨l1, l2, e, ⟨xs, ys, hq1, hq2⟩, q⟩ := q1
 subst e
 obtain ⟨u, v, rfl, ru, rv⟩ := vals2 r1
 cases ru
 cases rv
 obtain ⟨is1, rv1, pl1, hz1⟩ := I1.tuple hq1
 obtain ⟨is2, rv2, pl2, hz2⟩ := I1.tuple hq2
 have t1 : l1 < s1.heap.objs.size := by obtain ⟨o, ho, _⟩ := id pl1; exact Heap.lt_size ho
 have t2 : l2 < s1.heap.objs.size := by obtain ⟨o, ho, _⟩ := id pl2; exact Heap.lt_size ho
 have D := Jm s1.heap.objs.size l1 l2 t1 t2
 refine ZcD pl1 pl2 fun h' b1 b2 b3 b4 b5 hk => wpAny_pyIter_zip b1 ?_
 have I2 : Inv X pins σ H1 { s1 with heap := h' } := I1.kept (t' := s1.toks) hk
 refine ⟨s1.heap.objs.size + 4, [s1.heap.objs.size + 4, s1.heap.objs.size + 2, s1.heap.objs.size + 3, s1.heap.objs.size, s1.heap.objs.size + 1], _, _, H1, rfl, I2,
  Zaz _ _ _ _ _ l1 l2 D, ⟨b1, b2, ⟨_, _, b3⟩, b4, b5⟩, fun b hb => ?_, q⟩
 have hbs : s1.heap.objs.size ≤ b := by
  simp only [List.mem_cons, List.not_mem_nil, or_false] at hb
  rcases hb with z | z | z | z | z <;> rw [z] <;> first | exact Nat.le_refl _ | exact Nat.le_add_right _ _
 exact I1.fpOk hbs (I1.hok.fresh hbs)
end
theorem Js {K : PySem.W.Frag} {l1 l2 : Addr} {xs zs : List V} {g : TG} {tt : TT} {ti : TC} {ys : List V} {σ : St} {H : Hp} {Q : List V → St → Hp → Prop} (hlen : xs.length = zs.length) (Pv : Nat → List V → St → Hp → Prop) (h0 : Pv 0 ys σ H)
  (hl : ∀ i ys σ H, i ≤ xs.length → Pv i ys σ H → SqT K H l1 xs ∧ SqT K H l2 zs)
  (hs : ∀ i x y T ys σ H, xs[i]? = some x → zs[i]? = some y → H T = none → Pv i ys σ H → g (.ref T) σ (upd H T (.par [x, y])) fun σ2 H2 => tt σ2 H2 fun b H3 => if b = true then ti ys σ2 H3 (Pv (i + 1)) else Pv (i + 1) ys σ2 H3)
  (hd : ∀ ys σ H, Pv xs.length ys σ H → Q ys σ H) : tNestW g tt ti (ItzT K l1 l2) ys σ H Q := by
 refine ⟨fun i m ys σ H => m = xs.length - i ∧ i ≤ xs.length ∧ Pv i ys σ H, ⟨xs.length, by simp, Nat.zero_le _, h0⟩, ?_⟩
 rintro i m ys σ H ⟨rfl, hi, p⟩
 obtain ⟨q1, q2⟩ := hl i ys σ H hi p
 by_cases hlt : i < xs.length
 ·refine .inr ⟨⟨xs, zs, xs[i], zs[i]'(by omega), q1, q2, hlen, by simp [hlt], by simp [hlen ▸ hlt]⟩, Pv (i + 1), fun ys' σ' H' p' => ⟨xs.length - (i + 1), by omega, rfl, hlt, p'⟩, fun x H' y => ?_⟩
  obtain ⟨T, a, b, e1, e2, e3, e4⟩ := y
  subst e1 e3
  obtain ⟨f1, f2⟩ := e4 xs zs q1 q2
  exact hs i a b T ys σ H f1 f2 e2 p
 ·have e : i = xs.length := by omega
  subst e
  exact .inl ⟨⟨xs, zs, q1, q2, rfl, hlen.symm⟩, hd ys σ H p⟩
end L2
set_option Elab.async false
set_option linter.all false
set_option maxRecDepth 100000
namespace L2
open PySem PySem.Spec PyProof.Rows SeqAt
section
variable {X : Cx}
theorem Yd {a b : String} : CallR X (.builtin "isinstance") (fun xs H Q => ∃ (x : V) (t : Addr) (T : Value) (r : Bool), xs = [x, .ref t] ∧ SqT X.K H t [.ty a, .ty b] ∧ ((∃ i, x = .int i ∧ T = .type "int") ∨ (x = .non ∧ T = .type "NoneType") ∨ (∃ l ys, x = .ref l ∧ H l = some (.lst ys) ∧ T = .type "list") ∨ ∃ l ys, x = .ref l ∧ H l = some (.tup ys) ∧ T = .type "tuple") ∧
  PySem.W.kitAny X.K T [.type a, .type b] = some r ∧ Q (.bl r) H) := by
 intro pins s σ H xs us Q I rv h
 obtain ⟨x, t, T, r, rfl, hq, hx, hk, q⟩ := h
 obtain ⟨u, v, rfl, ru, rv⟩ := vals2 rv
 cases rv
 obtain ⟨its, rt, pl, hz⟩ := I.tuple hq
 cases rt with
 | cons r1 r2 =>
  cases r2 with
  | cons r3 r4 =>
   cases r4
   cases r1
   cases r3
   obtain ⟨o, ho, hc, n, hd⟩ := id pl
   obtain ⟨cls, dd, dt, sl⟩ := o
   replace hc : cls = .type "tuple" := hc
   replace hd : dt = .seq [Value.type a, Value.type b].toArray n := hd
   subst hc hd
   rcases hx with ⟨i, rfl, rfl⟩ | ⟨rfl, rfl⟩ | ⟨l, ys, rfl, hl, rfl⟩ | ⟨l, ys, rfl, hl, rfl⟩
   ·obtain ⟨tk, rfl⟩ := ru
    exact PySem.W.kia_tup PySem.W.kitx_int I.kIn True.intro ho hk (fun z => nomatch z) fun tk => ⟨.bl r, H, I.tok _, rfl, q⟩
   ·cases ru
    exact PySem.W.kia_tup PySem.W.kitx_none I.kIn True.intro ho hk (fun z => nomatch z) fun tk => ⟨.bl r, H, I.tok _, rfl, q⟩
   ·cases ru
    obtain ⟨_, _, n, _, h1⟩ := (show ObjOk X.prog X.w H s.heap l (.lst ys) from I.hok l _ hl)
    exact PySem.W.kia_tup PySem.W.kitx_list I.kIn ⟨_, h1, rfl⟩ ho hk (fun z => nomatch z) fun tk => ⟨.bl r, H, I.tok _, rfl, q⟩
   ·cases ru
    obtain ⟨_, _, _, p, _⟩ := (show ObjOk X.prog X.w H s.heap l (.tup ys) from I.hok l _ hl)
    obtain ⟨o, h1, h2, _⟩ := p
    exact PySem.W.kia_tup PySem.W.kitx_tuple I.kIn ⟨o, h1, h2⟩ ho hk (fun z => nomatch z) fun tk => ⟨.bl r, H, I.tok _, rfl, q⟩
end
structure Cells (base : Heap) (scope : Scope) (cl : List (Str × Addr)) (N : List Str) (vs : List V) : Prop where
 len : vs.length = N.length
 only : ∀ z, scope.names.lookup z = some .cell ∨ scope.names.lookup z = some .free → z ∈ N
 at_ : ∀ (i : Nat) x v, N[i]? = some x → vs[i]? = some v → scope.names.lookup x = some .free ∧ ∃ c u, cl.lookup x = some c ∧ base.IsCell c (some u) ∧ RelV v u
 mem : ∀ z c, cl.lookup z = some c → z ∈ N
 inj : ∀ x y c, cl.lookup x = some c → cl.lookup y = some c → x = y
theorem Zcw {P : Program} {w : World} {K : PySem.W.Frag} {mg : Str → Option Value} {base : Heap} {f : Addr} {q : Str} {params : Arguments} {body : Expr} {scope : Scope} {cl : List (Str × Addr)} {pm : Value} {c : Addr} {ct : Value} {k : Nat} {N : List Str} {ws : List V} {sp : Sp}
    (T : Cells base scope cl N ws) (hk : scope.kind = .function) (hco : scope.isCoroutine = false) (hgen : scope.isGenerator = false) (hcell : ∀ z ∈ scope.names, z.2 ≠ .cell)
    (hsp : ∀ vs H Q E, sp vs H Q E → vs = [] ∧ H f = some (lamO f q params body scope cl pm c ct) ∧ H c = some (codeO c q))
    (hb : ∀ (A : Around) (outer : List Env) (s : Shared) (H : Hp) (Q : VK) (E : XK), Room k (A.deeper (PySem.W.envX q scope s.heap.objs.size f (.ref c) cl)) → sp [] H Q E →
      ∃ t, PE (cxL P w K mg base N q scope f (.ref c) cl A outer s H E) body t ∧ t (ws.map some) H Q) :
    FnOk P w K mg base (CXR P w) (k + 1) f (PySem.W.kla_fn "<lambda>" q params body scope cl pm (.ref c) ct) [] sp := by
  refine ⟨fun vs H Q E h => by rw [(hsp vs H Q E h).1]; rfl, fun A outer s H args us vs Q E hr e0 hbd rv h => ?_⟩
  obtain ⟨rfl, hf, hc⟩ := hsp _ _ _ _ h
  have of : s.heap.get? f = some (PySem.W.kla_obj "<lambda>" q params body scope cl pm c ct) := (e0.hok f _ hf).1
  have oc : s.heap.CodeRec (.ref c) q := (e0.hok c _ hc).1
  have lim : s.heap.NoLimit := e0.mod.nolimit.keeps fun b o e => (e0.bs b o e).1
  refine PySem.W.kla_callFunE hr.depth of rfl hco hgen rfl oc (hbd _ _ _ _ ?_)
  refine wpAny_newFunctionEnv hcell (fun z hz => by cases rv; exact absurd hz (by simp)) (fun h1 hns hsb => ?_) hk
  have k1 : ∀ b o, s.heap.get? b = some o → h1.get? b = some o := fun b o e => hsb.extBut b o (Nat.ne_of_lt (Heap.lt_size e)) (Heap.get?_push_of_some _ e)
  refine ⟨lim.keeps k1, ?_⟩
  show codeAny _ A (.expr body (PySem.W.envX q scope s.heap.objs.size f (.ref c) cl)) _ _
  obtain ⟨t, ht, hq⟩ := hb A outer s H Q E (hr.deeper _) h
  have cellB : ∀ {a : Addr} {v : Option Value}, base.IsCell a v → h1.IsCell a v ∧ H a = none := fun {a v} ⟨o, ho, hd⟩ => ⟨⟨o, k1 _ _ (e0.bs _ _ ho).1, hd⟩, (e0.bs _ _ ho).2⟩
  have atN : ∀ z, z ∈ N → ∃ c u, cl.lookup z = some c ∧ base.IsCell c (some u) := fun z hz => by
    obtain ⟨i, hi, e⟩ := List.getElem_of_mem hz
    have hi' : i < ws.length := by rw [T.len]; exact hi
    obtain ⟨_, c, u, h1, h2, _⟩ := T.at_ i z ws[i] (by rw [← e]; exact List.getElem?_eq_getElem hi) (List.getElem?_eq_getElem hi')
    exact ⟨c, u, h1, h2⟩
  have cells : ∀ z a, cl.lookup z = some a → ∃ v, base.IsCell a v := fun z a hz => by
    obtain ⟨c, u, h1, h2⟩ := atN z (T.mem z a hz)
    rw [hz] at h1; cases h1; exact ⟨_, h2⟩
  have I : Inv (cxL P w K mg base N q scope f (.ref c) cl A outer s H E) [] (ws.map some) H { s with heap := h1, toks := s.toks + (([] : List Str).zip us).length } := by
    refine ⟨⟨e0.mod, hk, rfl, rfl, Nat.le_refl _, fun a b cc h2 h3 => ?_, fun a ha => ?_, fun a cc hn => Bool.noConfusion hn, fun _ => hr.hd, Around.frames_deeper e0.frames, .inr ⟨rfl, rfl⟩, fun b z => absurd (show b ∈ ([] : List Addr) from z) (by simp), e0.bs, e0.bsz, fun b _ _ z => absurd (show b ∈ ([] : List Addr) from z) (by simp), fun b z => absurd (show b ∈ ([] : List Addr) from z) (by simp), e0.funs, e0.frf⟩,
      rfl, e0.bare, Un.kept k1, ⟨_, hns, fun i z v h2 h3 h4 => ?_⟩, fun z a hz => ?_, e0.hok.fresh (Nat.le_refl _), fun z a hz => ?_, fun p hp => absurd (show p ∈ ([] : List (Addr × Obj)) from hp) (by simp), e0.hok.kept k1, (by rw [List.length_map]; exact T.len)⟩
    · have h2 : cl.lookup a = some cc := h2
      have h3 : cl.lookup b = some cc := h3
      exact T.inj _ _ _ h2 h3
    · obtain ⟨c, _, h1, _⟩ := atN a (T.only a ha)
      exact ⟨c, h1⟩
    · have h3' : (ws.map some)[i]? = some (some v) := h3
      rw [List.getElem?_map] at h3'
      obtain ⟨v', e', e''⟩ := Option.map_eq_some_iff.mp h3'
      cases e''
      obtain ⟨kx, c, u, h5, h6, h7⟩ := T.at_ i z v h2 e'
      exact ⟨u, h7, .inr ⟨.inr kx, c, h5, (cellB h6).1⟩⟩
    · obtain ⟨v, b⟩ := cells z a hz
      exact ⟨v, (cellB b).1⟩
    · obtain ⟨v, b⟩ := cells z a hz
      exact (cellB b).2
  refine PySem.W.kla_codeExpr (wpAny_mono (ht [] _ _ H _ I hq) (fun u s' hs => ?_) fun e s' hs => hs)
  obtain ⟨v, H', J, r, z⟩ := hs
  exact ⟨v, H', J.os, J.bare, J.base, J.hok, r, z⟩
end L2
set_option Elab.async false
set_option linter.all false
set_option maxRecDepth 100000
namespace L2
open PySem PySem.Spec PyProof.Rows
section
variable {prog : Program} {w : World} {A : Around} {E : Value → Shared → Prop} {s : Shared}
theorem Jh {t sl : Addr} {items : Array Value} {vl vu : Value} {lo hi : Option Int} {Q : Value → Shared → Prop} (ht : IsTup s.heap t items) (hs : s.heap.IsSliceOf sl vl vu .none) (pl : IsPart vl lo) (pu : IsPart vu hi)
  (hw : HT.sIx items.size 0 lo = 0 ∧ HT.sIx items.size items.size hi = items.size) (h : Q (.ref t) s) : wpAny (model prog w) A (getItem (.ref t) (.ref sl)) Q E s := by
 obtain ⟨os, hos, hcs, hds⟩ := id hs
 have tyS : s.TypeIs (.ref sl) "slice" := ⟨os, hos, hcs⟩
 unfold getItem
 try with_reducible refine wpAny_holding ?_
 first | refine wpAny_bind (wpAny_pure ?_) | skip
 refine wpAny_bind (wpAny_sequenceKey ht.typeIs (by decide) (wpAny_bind (wpAny_callSpecial?_slot (name := Str.ofString "__getitem__") ht.typeIs PyProof.Rows.slot_tuple_getitem (wpAny_call_entry PyProof.Rows.slot_tuple_getitem ht.typeIs entry_tuple_getitem ?_ (args_tuple_getitem _ _)))))
 refine (show wpAny _ _ (Builtin.Tuple.tupleItemsOf (.ref t) >>= _) _ _ s from wpAny_bind (tupleItemsOf_ ht (wpAny_bind (wpAny_typeOf tyS ?_))))
 rw [if_pos (by decide)]
 refine wpAny_bind (HT.sliceApplied_gen hs pl pu ?_)
 rw [hw.1, hw.2]
 refine (show wpAny _ _ (if ((((0 : Nat) : Int) == 0 && (1 : Int) == 1 && (items.size - 0) == items.size) = true) then _ else _) _ _ s from ?_)
 rw [if_pos (by simp)]
 unfold Builtin.Tuple.tupleIsExact
 refine wpAny_bind ?_
 wp_walk using wpAny_typeOf ht.typeIs
 exact ⟨_, rfl, wpAny_pure h⟩
end
section
variable {X : Cx}
def rSlA (K : PySem.W.Frag) : V → Option Int → Option Int → Hp → VK → Prop := fun x lo hi H Q => ∃ a xs, x = .ref a ∧ H a = some (.tup xs) ∧ ∀ (c : Addr) H', Same H H' → H' c = some (.tup (cutV xs lo hi)) → Q (.ref c) H'
theorem WL : SlR X (rSlA X.K) := by
 intro pins s σ H x v vl vu lo hi sl Q I rx hs pl pu h
 obtain ⟨a, xs, rfl, ha, q⟩ := h
 have hx : SqT X.K H a xs := SqT.of ha
 by_cases hw : HT.sIx xs.length 0 lo = 0 ∧ HT.sIx xs.length xs.length hi = xs.length
 ·cases rx
  obtain ⟨its, r, ht, hz⟩ := I.tuple hx
  have hlen : its.toArray.size = xs.length := by rw [List.size_toArray]; exact r.length.symm
  refine ⟨"tuple", _, PyProof.Rows.slot_tuple_getitem.lookup, ht.typeIs, ?_⟩
  refine Jh ht hs pl pu (by rw [hlen]; exact hw) ⟨.ref a, H, I, rfl, q a H (Same.refl _) ?_⟩
  rw [ha]
  unfold cutV
  rw [hw.1, hw.2, List.drop_zero, Nat.sub_zero, List.take_length]
 ·exact ZcT pins s σ H (.ref a) v vl vu lo hi sl Q I rx hs pl pu ⟨a, xs, rfl, hx, hw, fun p hp => q p _ (fun b u hb => by rw [Zg (Zj hb hp)]; exact hb) Zc⟩
end
end L2
set_option Elab.async false
set_option linter.all false
set_option maxRecDepth 100000
set_option maxHeartbeats 40000000
namespace L2
open PySem PySem.Spec PyProof.Rows
theorem ZaS : typeLookup (.type "list") "keys" = pure none := by rw [typeLookup_type, builtinLookup_eq_fast]; kernel_rfl
theorem WB : entryFor table "dict.update.loop" = some Builtin.«dict.update.loop» := entryFor_of_tree (by kernel_rfl)
theorem YU : plainId "dict.update.loop" = true := by decide +kernel
section
variable {prog : Program} {w : World} {A : Around} {E : Value → Shared → Prop} {s : Shared}
theorem getAttr?_miss_list {a : Addr} {o : Obj} {xs : Array Value} {k : Nat} {Q : Option Value → Shared → Prop}
  (hx : s.heap.get? a = some o) (hc : o.cls = .type "list") (hdat : o.data = .seq xs k) (hd : o.dict = none) (hA : A.handled = none)
  (h : ∀ h' tk e, Heap.NewExcOf s.heap h' e "AttributeError" → Q none { s with heap := h', toks := tk }) :
  wpAny (model prog w) A (getAttr? (.ref a) "keys") Q E s := by
 obtain ⟨c, dct, dat, sl⟩ := o
 simp only at hc hdat hd
 subst hc hdat hd
 obtain ⟨hp, g, d, tk, os⟩ := s
 have hT : ∀ tk', (⟨hp, g, d, tk', os⟩ : Shared).TypeIs (.ref a) "list" := fun _ => ⟨_, hx, rfl⟩
 have f1 := sub_AttributeError
 have f3 := F.slot_list_getattribute.lookup
 have f4 := F.slot_list_getattribute.bind (.ref a)
 have f5 := am_list_getattr_none
 unfold getAttr? getAttrBy? getAttrBy
 repeat (any_goals (first | assumption | exact hT _ | ((with_reducible show wpAny _ _ (call (Value.builtin "list.__getattribute__") _ _) _ _ _); refine call_meets F.slot_list_getattribute (hT _) am_entry_list_getattribute (F.args_list_getattribute_2 _ _) (meets_getattribute_miss_list a xs k sl "keys" _ ZaS (by decide) (by decide)) ⟨hx, hA, fun h' tk' e hx' => ?_⟩) | wp_step))
 obtain ⟨t', u', he⟩ := hx'.there
 show wpAny _ _ (getattributeRaised _ _ _ _ _ _ _) _ _ _
 unfold getattributeRaised
 repeat (any_goals (first | assumption | wp_step))
 exact h _ _ _ hx'.of
def PairAt (h : Heap) (b : Addr) (u v : Value) : Prop := ∃ o : Obj, h.get? b = some o ∧ o.cls = .type "tuple" ∧ ∃ n, o.data = .seq #[u, v] n
theorem JE {b : Addr} {u v : Value} {Q : List Value → Shared → Prop} (hp : PairAt s.heap b u v) (h : Q [u, v] s) : wpAny (model prog w) A (Builtin.Dict.pairItems (.ref b)) Q E s := by
 obtain ⟨o, ho, hc, n, hd⟩ := hp
 unfold Builtin.Dict.pairItems
 refine wpAny_bind (wpAny_typeOf (show s.TypeIs (.ref b) "tuple" from ⟨o, ho, hc⟩) ?_)
 rw [if_pos (by decide)]
 refine wpAny_bind (wpAny_seqItems ho hd ?_)
 exact wpAny_pure h
variable {K : Type} [DecidableEq K] {knd : KeyKind prog w K}
def Prs (knd : KeyKind prog w K) (h : Heap) (d it : Addr) (us : List Value) (rs : List (K × Value)) : Prop := Paired (fun u (r : K × Value) => ∃ b k, u = .ref b ∧ b ≠ d ∧ b ≠ it ∧ PairAt h b k r.2 ∧ knd.is r.1 k = true) us rs
theorem Prs.keep {h h' : Heap} {d it : Addr} {us : List Value} {rs : List (K × Value)} (p : Prs knd h d it us rs) (k : ∀ b o, b ≠ d → b ≠ it → h.get? b = some o → h'.get? b = some o) : Prs knd h' d it us rs := by
 unfold Prs at p ⊢
 induction p with
 | nil => exact .nil
 | cons a _ ih =>
  obtain ⟨b, kk, e, n1, n2, ⟨o, ho, r⟩, z⟩ := a
  exact .cons ⟨b, kk, e, n1, n2, ⟨o, k _ _ n1 n2 ho, r⟩, z⟩ ih
theorem Uz {d it l : Addr} {R : Result → Shared → Prop} {items : Array Value} (hdi : d ≠ it) (hdl : l ≠ d) (hli : l ≠ it) (hA : A.handled = none) :
  ∀ (us : List Value) (rs : List (K × Value)) (i : Nat) (z : Int) (t : Tok) (kvs : List (K × Value)) (s : Shared), items.toList.drop i = us → Prs knd s.heap d it us rs → s.heap.IsListIter it l i → s.heap.IsList l items → s.heap.DictOf knd d kvs → kvs.length + rs.length ≤ sizeLine →
   (∀ h' t', (∀ b o, b ≠ d → b ≠ it → s.heap.get? b = some o → h'.get? b = some o) → h'.DictOf knd d (merged kvs rs) → R (.ok (.ret .none)) { s with heap := h', toks := t' }) →
   codeAny (model prog w) A (.builtin "dict.update.loop" ⟨[.ref d, .ref it, .int z t, .none], []⟩) R s
 | [], rs, i, z, t, kvs, s, hu, hp, hit, hl, hd, hz, hR => by
  cases hp
  refine codeAny_builtin WB ?_
  rw [Around.under_plainId YU _]
  show wpAny _ A.in1 (pyNext (.ref it) >>= _) _ _ s
  refine wpAny_bind (wpAny_pyNext_list_end (A := A.in1) hA hit hl ?_ fun h' eb => ?_)
  ·have : items.toList.length ≤ i := List.drop_eq_nil_iff.mp hu
   rw [Array.getElem?_eq_none_iff]
   simpa using this
  ·show wpAny _ A.in1 (Builtin.Dict.addKeywords d [] >>= _) _ _ _
   refine wpAny_bind (wpAny_pure (wpAny_pure ?_))
   exact hR h' s.toks (fun b o _ h2 e => eb b o h2 e) (hd.extBut eb hdi)
 | u :: us, rs, i, z, t, kvs, s, hu, hp, hit, hl, hd, hz, hR => by
  cases hp with
  | @cons _ r _ rs' a ps =>
   obtain ⟨b, k, rfl, nbd, nbi, pr, hk⟩ := a
   have hlt : i < items.toList.length := by
    apply Nat.lt_of_not_le
    intro h
    rw [List.drop_eq_nil_of_le h] at hu
    cases hu
   rw [List.drop_eq_getElem_cons hlt] at hu
   obtain ⟨e1, e2⟩ := List.cons.inj hu
   refine codeAny_builtin WB ?_
   rw [Around.under_plainId YU _]
   show wpAny _ A.in1 (pyNext (.ref it) >>= _) _ _ s
   refine wpAny_bind (wpAny_pyNext_list_item hit hl (x := .ref b) ?_ fun h' hit' sb => ?_)
   ·rw [← Array.getElem?_toList, List.getElem?_eq_getElem hlt, e1]
   have pr' : PairAt h' b k r.2 := by
    obtain ⟨o, ho, rest⟩ := pr
    exact ⟨o, (sb.2 b nbi).trans ho, rest⟩
   have hl' : h'.IsList l items := by
    obtain ⟨o, ho, rest⟩ := hl
    exact ⟨o, (sb.2 l hli).trans ho, rest⟩
   have hd' : h'.DictOf knd d kvs := by
    obtain ⟨o, es, ep, ho, rest⟩ := hd
    exact ⟨o, es, ep, (sb.2 d hdi).trans ho, rest⟩
   show wpAny _ A.in1 (holding [Value.ref b] _ >>= _) _ _ _
   refine wpAny_bind (wpAny_holding ?_)
   refine wpAny_bind (wpAny_tryCatch (JE pr' ?_))
   show wpAny _ A.in1 (holding [k, r.2] (dictSet d k r.2)) _ _ _
   refine wpAny_holding ?_
   refine wpAny_dictSet_pairs (s := { s with heap := h' }) hk hd' (fun h2 hd2 sb2 => ?_) (by rw [List.length_cons] at hz; omega)
   refine wpAny_pure ⟨plainId_quiet YU _, ?_⟩
   have kp : ∀ c o, c ≠ d → c ≠ it → s.heap.get? c = some o → h2.get? c = some o := fun c o h1 h2' e => (sb2.2 c h1).trans ((sb.2 c h2').trans e)
   refine Uz hdi hdl hli hA us rs' (i + 1) (z + 1) 0 (stored kvs r.1 r.2) _ e2 ((show Prs knd s.heap d it us rs' from ps).keep kp) ?_ ?_ hd2 ?_ ?_
   ·obtain ⟨o, ho, rest⟩ := hit'
    exact ⟨o, (sb2.2 it (Ne.symm hdi)).trans ho, rest⟩
   ·obtain ⟨o, ho, rest⟩ := hl'
    exact ⟨o, (sb2.2 l hdl).trans ho, rest⟩
   ·have := stored_length_le kvs r.1 r.2
    rw [List.length_cons] at hz
    omega
   ·intro h3 t3 k3 d3
    exact hR h3 t3 (fun c o h1 h2' e => k3 c o h1 h2' (kp c o h1 h2' e)) d3
theorem Wf {o : Addr} {ob : Obj} {items : Array Value} {n : Nat} {rs : List (K × Value)} {Q : Value → Shared → Prop} (ho : s.heap.get? o = some ob) (hcl : ob.cls = .type "list") (hdt : ob.dict = none) (hdata : ob.data = .seq items n) (hA : A.handled = none)
  (hp : Paired (fun u (r : K × Value) => ∃ b k, u = .ref b ∧ PairAt s.heap b k r.2 ∧ knd.is r.1 k = true) items.toList rs) (hz : rs.length ≤ sizeLine)
  (h : ∀ h' t', h'.DictOf knd s.heap.objs.size (merged [] rs) → (∀ b o, s.heap.get? b = some o → h'.get? b = some o) → Q (.ref s.heap.objs.size) { s with heap := h', toks := t' }) :
  wpAny (model prog w) A (call (.type "dict") [.ref o]) Q E s := by
 refine callType_codes (Q₁ := fun obj s₁ => obj = .ref s.heap.objs.size ∧ s₁ = { s with heap := s.heap.push { cls := .type "dict", data := .dict #[] } }) PySem.F.kt_called_dict (PySem.F.kt_typeCall_dict_1 _) PySem.F.entry_dict_init (kt_code_dict_new _ ⟨rfl, rfl⟩) ?_
 rintro obj s₁ ⟨rfl, rfl⟩
 have hnew : (s.heap.push { cls := .type "dict", data := .dict #[] }).DictOf knd s.heap.objs.size [] := Heap.DictOf.new s.heap
 have ho1 := Heap.get?_push_of_some { cls := .type "dict", data := .dict #[] } ho
 refine ⟨hnew.typeIs, PySem.F.args_dict_init_2 _ _, ?_⟩
 unfold Builtin.«dict.__init__»
 refine wpAny_bind ?_
 unfold Builtin.Dict.selfAndRest
 refine wpAny_bind (wpAny_notOrdered_dict hnew.typeIs ?_)
 show wpAny _ _ (pure (s.heap.objs.size, [Value.ref o])) _ _ _
 refine wpAny_pure ?_
 show wpAny _ _ (Builtin.Dict.updateFrom "dict.__init__" s.heap.objs.size (.ref o) [] .none) _ _ _
 unfold Builtin.Dict.updateFrom
 refine wpAny_bind (wpAny_typeOf (T := "list") ⟨ob, ho1, hcl⟩ ?_)
 rw [if_pos (by decide)]
 refine wpAny_bind (getAttr?_miss_list ho1 hcl hdata hdt hA fun h2 t2 e2 x2 => ?_)
 rw [if_pos (by rfl)]
 refine wpAny_bind (wpAny_rule ?_)
 have ho2 := x2.keeps _ _ ho1
 refine wpAny_bind (wpAny_pyIter_list (items := items) ⟨ob, ho2, hcl, n, hdata⟩ ?_)
 have lt1 : s.heap.objs.size < h2.objs.size := by
  obtain ⟨od, _, _, hod, _⟩ := id hnew
  exact Heap.lt_size (x2.keeps _ _ hod)
 have lt0 : o < s.heap.objs.size := Heap.lt_size ho
 have kp : ∀ b u, s.heap.get? b = some u → (h2.push { cls := .type "list_iterator", data := .fields #[.ref o, .int 0 0] }).get? b = some u := fun b u e => Heap.get?_push_of_some _ (x2.keeps _ _ (Heap.get?_push_of_some _ e))
 refine wpAny_pure ⟨plainId_quiet YU _, ?_⟩
 refine Uz (A := A.in1) (knd := knd) (items := items) (l := o) (d := s.heap.objs.size) (it := h2.objs.size) (Nat.ne_of_lt lt1) (Nat.ne_of_lt lt0) (Nat.ne_of_lt (Nat.lt_trans lt0 lt1)) hA items.toList rs 0 0 0 [] _ List.drop_zero ?_ ?_ ?_ ?_ (by rw [List.length_nil]; omega) ?_
 ·unfold Prs
  have key : ∀ {us : List Value} {ts : List (K × Value)}, Paired (fun u (r : K × Value) => ∃ b k, u = .ref b ∧ PairAt s.heap b k r.2 ∧ knd.is r.1 k = true) us ts → Paired (fun u (r : K × Value) => ∃ b k, u = .ref b ∧ b ≠ s.heap.objs.size ∧ b ≠ h2.objs.size ∧ PairAt (h2.push { cls := .type "list_iterator", data := .fields #[.ref o, .int 0 0] }) b k r.2 ∧ knd.is r.1 k = true) us ts := by
   intro us ts p
   induction p with
   | nil => exact .nil
   | cons a _ ih =>
    obtain ⟨b, k, e, ⟨q, hq, rest⟩, z⟩ := a
    have := Heap.lt_size hq
    exact .cons ⟨b, k, e, Nat.ne_of_lt this, Nat.ne_of_lt (Nat.lt_trans this lt1), ⟨q, kp _ _ hq, rest⟩, z⟩ ih
  exact key hp
 ·exact ⟨_, Heap.get?_push_size _ rfl, rfl, rfl⟩
 ·exact ⟨ob, Heap.get?_push_of_some _ ho2, hcl, n, hdata⟩
 ·obtain ⟨od, es, ep, hod, rest⟩ := hnew
  exact ⟨od, es, ep, Heap.get?_push_of_some _ (x2.keeps _ _ hod), rest⟩
 ·intro h3 t3 k3 d3
  refine ⟨rfl, h h3 t3 d3 fun b u e => ?_⟩
  have := Heap.lt_size e
  exact k3 b u (Nat.ne_of_lt this) (Nat.ne_of_lt (Nat.lt_trans this lt1)) (kp b u e)
end
section
variable {X : Cx}
abbrev PrV (H : Hp) : List V → List (Key × V) → Prop := Paired fun y (kv : Key × V) => ∃ b, y = .ref b ∧ H b = some (.tup [kV kv.1, kv.2])
theorem Wk (hc : X.calm = true := by rfl) : CallR X (.type "dict") (fun xs H Q => ∃ (p : Addr) (ys : List V) (kvs : List (Key × V)), xs = [.ref p] ∧ H p = some (.lst ys) ∧ PrV H ys kvs ∧ kvs.length ≤ 1000 ∧ ∀ q, H q = none → Q (.ref q) (upd H q (.dK (mergeK [] kvs)))) := by
 intro pins s σ H xs us Q I r h
 obtain ⟨p, ys, kvs, rfl, hp, pv, hz, q⟩ := h
 obtain ⟨u, rfl, ru⟩ := vals1 r
 cases ru
 obtain ⟨its, rv, ⟨ob, n, ho, hcl, hdt, hdata⟩, _⟩ := I.list (SqL.of hp)
 have key : ∀ {ys : List V} {kvs : List (Key × V)} {its : List Value}, PrV H ys kvs → Vals ys its → ∃ rs : List (Key × Value), KV kvs rs ∧ Paired (fun u (r : Key × Value) => ∃ b k, u = .ref b ∧ PairAt s.heap b k r.2 ∧ (mixKind X.prog X.w).is r.1 k = true) its rs := by
  intro ys kvs its pv
  induction pv generalizing its with
  | nil => intro r; cases r; exact ⟨[], .nil, .nil⟩
  | @cons y kv ys kvs a _ ih =>
   intro r
   cases r with
   | @cons _ u _ us ry rr =>
    obtain ⟨rs, k1, k2⟩ := ih rr
    obtain ⟨b, rfl, hb⟩ := a
    cases ry
    obtain ⟨ps, pr, pt, _⟩ := I.tuple (SqT.of hb)
    cases pr with
    | @cons _ pu _ pus r1 r2 =>
     cases r2 with
     | @cons _ pw _ pws r3 r4 =>
      cases r4
      obtain ⟨o, ho, hc', m, hd'⟩ := pt
      exact ⟨(kv.1, pw) :: rs, .cons ⟨rfl, r3⟩ k1, .cons ⟨b, pu, rfl, ⟨o, ho, hc', m, hd'⟩, ZbY r1⟩ k2⟩
 obtain ⟨rs, k1, k2⟩ := key pv rv
 have lr : kvs.length = rs.length := KV.length k1
 refine Wf (knd := mixKind X.prog X.w) (items := its.toArray) ho hcl hdt hdata (I.ok.hd hc) (by simpa using k2) (by rw [sizeLine_eq]; omega) fun h' t' dd kp => ?_
 have hz' : (mergeK [] kvs).length ≤ sizeLine := by
  have h1 := Y2 kvs []
  rw [List.length_nil] at h1
  rw [sizeLine_eq]; omega
 exact ⟨.ref s.heap.objs.size, _, I.laid (a := s.heap.objs.size) (o := .dK (mergeK [] kvs)) (t' := t') kp (Nat.le_refl _) (Zdu hz' (beq_eq_false_iff_ne.mpr (Ne.symm (Nat.ne_of_lt I.big))) (k1.merge .nil) dd), rfl, q _ I.fresh⟩
end
end L2
set_option Elab.async false
set_option linter.all false
set_option maxRecDepth 100000
set_option maxHeartbeats 40000000
namespace L2
open PySem PySem.Spec PyProof.Rows
theorem Jr : fillsNumberSlot (.type "tuple") "mul" = pure false :=
 PySem.fillsNumberSlot_seq (id := "tuple.__mul__") (r := some (.builtin "tuple.__rmul__")) PySem.F.slot_tuple_mul.lookup (by decide +kernel) PySem.F.slot_tuple_rmul.lookup (by decide +kernel)
theorem WN : seqRepeat? (.type "tuple") = pure (some (.builtin "tuple.__mul__")) := by
 unfold seqRepeat?
 rw [PySem.seqSlot_of (T := "tuple") (name := "__mul__") (id := "tuple.__mul__") PySem.F.slot_tuple_mul.lookup (by decide +kernel), PySem.seqSlot_of (T := "tuple") (name := "__rmul__") (id := "tuple.__rmul__") PySem.F.slot_tuple_rmul.lookup (by decide +kernel)]
 rfl
theorem JO (a : Int) (t : Tok) (l : Addr) (items : Array Value) (n : Nat) (d : Option Addr) (sl : Array (Option Value)) :
  Meets (Builtin.«int.__rmul__» ⟨[.int a t, .ref l], []⟩) (fun _ R s => s.heap.get? l = some { cls := .type "tuple", dict := d, data := .seq items n, slots := sl } ∧ R (.ok (.ret Value.notImplemented)) s) :=
 .of_wp fun prog w A R s h => by obtain ⟨hp, g, d, tk, os⟩ := s; obtain ⟨hl, h⟩ := h; wp_walk; exact ⟨_, rfl, h⟩
theorem Wh (l : Addr) (items : Array Value) (n : Nat) (d : Option Addr) (sl : Array (Option Value)) (u : Tok) :
  Meets (Builtin.«tuple.__mul__» ⟨[.ref l, .int 1 u], []⟩) (fun _ R s => s.heap.get? l = some { cls := .type "tuple", dict := d, data := .seq items n, slots := sl } ∧ R (.ok (.ret (.ref l))) s) :=
 .of_wp fun prog w A R s h => by
  obtain ⟨hp, g, d, tk, os⟩ := s; obtain ⟨hl, h⟩ := h
  wp_walk; exact ⟨_, rfl, h⟩
theorem J1 (l : Addr) (items : Array Value) (n : Nat) (d : Option Addr) (sl : Array (Option Value)) (x : Int) (u : Tok) (h0 : items.isEmpty = false) (h1 : (x == 1) = false) (h2 : 1 ≤ x) (hs : items.size * x.toNat ≤ 1000) (hx : x ≤ 1000) (hz : (List.foldl (fun x1 x2 => x1 ++ x2) #[] (List.replicate x.toNat items)).size ≤ sizeLine) :
  Meets (Builtin.«tuple.__mul__» ⟨[.ref l, .int x u], []⟩) (fun _ R s => s.heap.get? l = some { cls := .type "tuple", dict := d, data := .seq items n, slots := sl } ∧ R (.ok (.ret (Value.ref s.heap.objs.size))) { s with heap := s.heap.push { cls := Value.type "tuple", data := Data.seq (List.foldl (fun x1 x2 => x1 ++ x2) #[] (List.replicate x.toNat items)) }, toks := s.toks }) :=
 .of_wp fun prog w A R s h => by
  obtain ⟨hp, g, d, tk, os⟩ := s; obtain ⟨hl, h⟩ := h
  have a1 : decide (x < -(2 ^ 63)) = false := decide_eq_false (by omega)
  have a2 : decide (x ≥ 2 ^ 63) = false := decide_eq_false (by omega)
  have a3 : decide (x ≤ 0) = false := decide_eq_false (by omega)
  have hn : (items.size : Int) * x ≤ 1000 := by
   have e : x = (x.toNat : Int) := by omega
   rw [e]
   exact_mod_cast hs
  have a4 : ¬ ((items.size : Int) * x > (2 ^ 63 - 1) / 8) := by omega
  have a5 : Builtin.Tuple.tupleTooMany ((items.size : Int) * x) = false := by
   unfold Builtin.Tuple.tupleTooMany
   have e := sizeLine_eq
   simp
   omega
  wp_walk
  rw [if_neg (by rw [a1, a2]; decide)]
  have ht : IsTup hp l items := ⟨_, hl, rfl, n, rfl⟩
  refine wpAny_bind (tupleItemsOf_ ht ?_)
  dsimp only
  rw [if_neg (by rw [h0, h1]; decide), if_neg (by rw [a3, h0]; decide), if_neg a4, a5, if_neg Bool.false_ne_true]
  wp_walk; exact ⟨_, rfl, h⟩
section
variable {X : Cx}
def rRepT : R2 := fun x y H Q => ∃ a k xs, x = .ref a ∧ y = .int k ∧ H a = some (.tup xs) ∧ xs ≠ [] ∧ 1 ≤ k ∧ k ≤ 1000 ∧ xs.length * k.toNat ≤ 1000 ∧ ∀ (c : Addr) H', Same H H' → H' c = some (.tup (List.replicate k.toNat xs).flatten) → Q (.ref c) H'
theorem Zai : OpR X (binaryOp .Mult) rRepT := by
  intro pins s σ H x y v u Q I rx ry h
  obtain ⟨l, k, xs, rfl, rfl, hH, hne, h1, h2, hz, q⟩ := h
  cases rx
  obtain ⟨t, rfl⟩ := ry
  obtain ⟨its, r, pl, _⟩ := I.tuple (SqT.of hH)
  have hl := r.length
  obtain ⟨⟨cls, dd, data, sl⟩, ho, hcl, n, hd⟩ := id pl
  simp only at hcl hd
  subst hcl hd
  have f0 : ∀ m : Nat, List.foldl (fun x1 x2 => x1 ++ x2) #[] (List.replicate m its.toArray) = (List.replicate m its).flatten.toArray := fun m => by
    have := Ju its m []
    rw [List.nil_append] at this
    exact this
  have hsz : its.toArray.size * k.toNat ≤ 1000 := by rw [List.size_toArray, ← hl]; exact hz
  have h0 : its.toArray.isEmpty = false := by
    cases its with
    | nil =>
      cases xs with
      | nil => exact absurd rfl hne
      | cons a b => cases hl
    | cons a b => rfl
  refine wpAny_binaryOp_repeat_ref (T := "tuple") (U := "int") (by decide) ⟨_, ho, rfl⟩ (fun s' => typeIs_int s' k t) Jr PySem.F.fills_int_mul PySem.F.slot_int_rmul WN PySem.F.slot_int_index.lookup
    (call_meets PySem.F.slot_int_rmul (typeIs_int s k t) PySem.F.entry_int_rmul (PySem.F.args_int_rmul_2 _ _) (JO k t l its.toArray n dd sl)
      ⟨ho, rfl, ⟨_, ho, rfl⟩, ?_⟩)
  by_cases hk : k = 1
  · subst hk
    refine call_meets PySem.F.slot_tuple_mul ⟨_, ho, rfl⟩ PySem.F.entry_tuple_mul (PySem.F.args_tuple_mul_2 _ _) (Wh l its.toArray n dd sl t) ⟨ho, ⟨.ref l, H, I, rfl, q l H (Same.refl _) ?_⟩⟩
    rw [hH]
    simp
  · refine call_meets PySem.F.slot_tuple_mul ⟨_, ho, rfl⟩ PySem.F.entry_tuple_mul (PySem.F.args_tuple_mul_2 _ _) (J1 l its.toArray n dd sl k t h0 (by simpa using hk) h1 hsz h2 ?_) ⟨ho, ?_⟩
    · rw [f0, List.size_toArray, WX, sizeLine_eq]
      rw [List.size_toArray, Nat.mul_comm] at hsz
      omega
    · rw [f0]
      refine ⟨.ref s.heap.objs.size, upd H s.heap.objs.size (.tup (List.replicate k.toNat xs).flatten), ?_, rfl, q _ _ (fun b o hb => by rw [Zg (Zj hb I.fresh)]; exact hb) Zc⟩
      refine I.laid (t' := s.toks) (fun b o e => Heap.get?_push_of_some _ e) (Nat.le_refl _) ⟨by rw [WX, sizeLine_eq, Nat.mul_comm]; omega, _, r.rep k.toNat, ?_⟩
      exact ⟨⟨_, Heap.get?_push_size s.heap rfl, rfl, 0, rfl⟩, _, Heap.get?_push_size s.heap rfl, rfl⟩
end
end L2
set_option Elab.async false
set_option linter.all false
set_option maxRecDepth 100000
set_option maxHeartbeats 4000000
namespace PyProof.Rows.Tim
open PySem
structure Ord (r : Keyed → Keyed → Bool) : Prop where
 asy : ∀ x y, r x y = true → r y x = false
 ntr : ∀ x y z, r y x = false → r z y = false → r z x = false
end PyProof.Rows.Tim
set_option Elab.async false
set_option linter.all false
set_option maxRecDepth 100000
set_option maxHeartbeats 4000000
namespace PyProof.Rows.Tim
open PySem
abbrev Pw (r : Keyed → Keyed → Bool) (l : List Keyed) : Prop := l.Pairwise fun x y => r y x = false
structure JW (r : Keyed → Keyed → Bool) (a b out : Array Keyed) (ia ib : Nat) : Prop where
 perm : (out.toList ++ (a.toList.drop ia ++ b.toList.drop ib)).Perm (a.toList ++ b.toList)
 srt : Pw r out.toList
 bel : ∀ x ∈ out.toList, ∀ y ∈ a.toList.drop ia ++ b.toList.drop ib, r y x = false
structure MCx (r : Keyed → Keyed → Bool) (a b : Array Keyed) : Prop where
 o : Ord r
 sa : Pw r a.toList
 sb : Pw r b.toList
end PyProof.Rows.Tim
set_option Elab.async false
set_option linter.all false
set_option maxRecDepth 100000
set_option maxHeartbeats 4000000
namespace PyProof.Rows.Tim
open PySem
structure JH (r : Keyed → Keyed → Bool) (a b out : Array Keyed) (na nb : Nat) : Prop where
 la : na ≤ a.size
 lb : nb ≤ b.size
 perm : ((a.toList.take na ++ b.toList.take nb) ++ out.toList.reverse).Perm (a.toList ++ b.toList)
 srt : Pw r out.toList.reverse
 bel : ∀ y ∈ a.toList.take na ++ b.toList.take nb, ∀ x ∈ out.toList, r x y = false
end PyProof.Rows.Tim
set_option Elab.async false
set_option linter.all false
set_option maxRecDepth 100000
set_option maxHeartbeats 4000000
namespace PyProof.Rows.Tim
open PySem
structure CB (a₀ : Array Keyed) (κ : SortKind) (lo : Nat) (st st' : SortSt) : Prop where
 kind : kindOf st' = κ
 pend : pendingOf st' = pendingOf st
 fail : failedOf st' = failedOf st
 perm : (arrOf st').Perm a₀
 pre : ∀ k, k < lo → (arrOf st')[k]? = (arrOf st)[k]?
end PyProof.Rows.Tim
set_option Elab.async false
set_option linter.all false
set_option maxRecDepth 100000
set_option maxHeartbeats 4000000
namespace PyProof.Rows.Tim
open PySem
end PyProof.Rows.Tim
set_option Elab.async false
set_option linter.all false
set_option maxRecDepth 100000
set_option maxHeartbeats 4000000
namespace PyProof.Rows.Tim
open PySem
def seg (L : List Keyed) (s n : Nat) : List Keyed := (L.drop s).take n
def Runs (r : Keyed → Keyed → Bool) (L : List Keyed) : List (Nat × Nat × Nat) → Nat → Nat → Prop
 | [], p, q => p = q
 | x :: rest, p, q => x.1 = p ∧ 1 ≤ x.2.1 ∧ Pw r (seg L x.1 x.2.1) ∧ Runs r L rest (p + x.2.1) q
end PyProof.Rows.Tim
set_option Elab.async false
set_option linter.all false
set_option maxRecDepth 100000
set_option maxHeartbeats 4000000
namespace PyProof.Rows.Tim
open PySem
section
variable {prog : Program} {w : World} {A : Around} {E : Value → Shared → Prop} {s : Shared} {κ : SortKind} {a₀ : Array Keyed} {r : Keyed → Keyed → Bool}
structure RS (a₀ : Array Keyed) (κ : SortKind) (r : Keyed → Keyed → Bool) (st : SortSt) (lo : Nat) : Prop where
 kind : kindOf st = κ
 perm : (arrOf st).Perm a₀
 fail : failedOf st = none
 runs : Runs r (arrOf st).toList (pendingOf st).toList 0 lo
 le : lo ≤ a₀.size
end
end PyProof.Rows.Tim
set_option Elab.async false
set_option linter.all false
set_option maxRecDepth 100000
set_option maxHeartbeats 4000000
namespace PyProof.Rows.Tim
open PySem PySem.W
def lexB : List Int → List Int → Bool
 | [], [] => false
 | [], _ :: _ => true
 | _ :: _, [] => false
 | a :: l, b :: m => if a = b then lexB l m else decide (a < b)
theorem Je : ∀ x y, lexB x y = true → lexB y x = false
 | [], [], h => by cases h
 | [], _ :: _, _ => rfl
 | _ :: _, [], h => by cases h
 | a :: l, b :: m, h => by
  unfold lexB at h ⊢
  by_cases e : a = b
  ·rw [if_pos e] at h
   rw [if_pos e.symm]
   exact Je l m h
  ·rw [if_neg e] at h
   rw [if_neg (Ne.symm e)]
   have := of_decide_eq_true h
   exact decide_eq_false (by omega)
theorem J3 : ∀ x y z, lexB y x = false → lexB z y = false → lexB z x = false
 | [], [], [], _, _ => rfl
 | [], [], _ :: _, _, _ => rfl
 | [], _ :: _, [], _, h => by cases h
 | [], _ :: _, _ :: _, _, _ => rfl
 | _ :: _, [], _, h, _ => by cases h
 | _ :: _, _ :: _, [], _, h => by cases h
 | a :: l, b :: m, c :: n, h1, h2 => by
  unfold lexB at h1 h2 ⊢
  by_cases e1 : b = a
  ·rw [if_pos e1] at h1
   by_cases e2 : c = b
   ·rw [if_pos e2] at h2
    rw [if_pos (e2.trans e1)]
    exact J3 l m n h1 h2
   ·rw [if_neg e2] at h2
    have := of_decide_eq_false h2
    rw [if_neg (by omega)]
    exact decide_eq_false (by omega)
  ·rw [if_neg e1] at h1
   have q1 := of_decide_eq_false h1
   by_cases e2 : c = b
   ·rw [if_neg (by omega)]
    exact decide_eq_false (by omega)
   ·rw [if_neg e2] at h2
    have q2 := of_decide_eq_false h2
    rw [if_neg (by omega)]
    exact decide_eq_false (by omega)
theorem Zao : ∀ x y, lexB x y = false → lexB y x = false → x = y
 | [], [], _, _ => rfl
 | [], _ :: _, h, _ => by cases h
 | _ :: _, [], _, h => by cases h
 | a :: l, b :: m, h1, h2 => by
  unfold lexB at h1 h2
  by_cases e : a = b
  ·rw [if_pos e] at h1
   rw [if_pos e.symm] at h2
   rw [e, Zao l m h1 h2]
  ·rw [if_neg e] at h1
   rw [if_neg (Ne.symm e)] at h2
   have q1 := of_decide_eq_false h1
   have q2 := of_decide_eq_false h2
   omega
end PyProof.Rows.Tim
set_option Elab.async false
set_option linter.all false
set_option maxRecDepth 100000
set_option maxHeartbeats 40000000
namespace L2
open PySem PySem.Spec PyProof.Rows PyProof.Rows.Tim
end L2
set_option Elab.async false
set_option linter.all false
set_option maxRecDepth 100000
set_option maxHeartbeats 40000000
namespace L2
open PySem PySem.Spec PyProof.Rows PyProof.Rows.Tim
abbrev I4 := Int × Int × Int × Int
theorem Uo (a b a' b' : Int) (l m : List Int) : lexB (a :: b :: l) (a' :: b' :: m) = if [a, b] = [a', b'] then lexB l m else HT.lexLt [a, b] [a', b'] := by
 by_cases e1 : a = a'
 ·subst e1
  by_cases e2 : b = b'
  ·subst e2
   simp [lexB]
  ·simp [lexB, e2, HT.lexLt]
 ·simp [lexB, e1, HT.lexLt]
end L2
set_option Elab.async false
set_option linter.all false
set_option maxRecDepth 100000
set_option maxHeartbeats 40000000
namespace PyProof.Rows.Tim
open PySem
end PyProof.Rows.Tim
namespace L2
open PySem PySem.Spec PyProof.Rows PyProof.Rows.Tim
theorem YD : ∀ a b : List Int, HT.lexLt a b = lexB a b
 | [], [] => rfl
 | [], _ :: _ => rfl
 | _ :: _, [] => rfl
 | x :: a, y :: b => by
  unfold lexB
  rw [HT.lexLt_cons, YD a b]
end L2
set_option Elab.async false
set_option linter.all false
set_option maxRecDepth 100000
namespace L2
open PySem PySem.Spec PyProof.Rows
end L2
set_option Elab.async false
set_option linter.all false
set_option maxRecDepth 100000
namespace L2
open PySem PySem.Spec PyProof.Rows
mutual
inductive Sh (H : Hp) : V → PyData → Prop
 | non : Sh H .non .none
 | bl (b : Bool) : Sh H (.bl b) (.bool b)
 | int (i : Int) : Sh H (.int i) (.int i)
 | str (x : Str) : Sh H (.str x) (.str x)
 | tup {a : Addr} {xs : List V} {ds : List PyData} : H a = some (.tup xs) → ShAll H xs ds → Sh H (.ref a) (.tuple ds)
 | lst {a : Addr} {xs : List V} {ds : List PyData} : H a = some (.lst xs) → ShAll H xs ds → Sh H (.ref a) (.list ds)
 | dct {a : Addr} : H a = some (.dK []) → Sh H (.ref a) (.dict [])
inductive ShAll (H : Hp) : List V → List PyData → Prop
 | nil : ShAll H [] []
 | cons {v : V} {vs : List V} {d : PyData} {ds : List PyData} : Sh H v d → ShAll H vs ds → ShAll H (v :: vs) (d :: ds)
end
section
variable {X : Cx} {pins : List (Addr × Obj)} {σ : St} {H : Hp} {s : Shared}
mutual
theorem Zbk (I : Inv X pins σ H s) : ∀ {v : V} {d : PyData} {u : Value}, Sh H v d → RelV v u → ∃ as, Reads s.heap u d as ∧ ((∃ a, v = .ref a ∧ H a = some (.dK [])) → sysModules ∉ as)
 | _, _, u, .non, r => by
  have e : u = .none := r
  subst e
  exact ⟨[], .none, fun _ h => nomatch h⟩
 | _, _, u, .bl b, r => by
  have e : u = .bool b := r
  subst e
  exact ⟨[], .bool b, fun _ h => nomatch h⟩
 | _, _, u, .int i, r => by
  obtain ⟨t, rfl⟩ := r
  exact ⟨[], .int i t, fun _ h => nomatch h⟩
 | _, _, u, .str x, r => by
  obtain ⟨t, rfl⟩ := r
  exact ⟨[], .str x t, fun _ h => nomatch h⟩
 | _, _, u, .tup (a := a) h rs, r => by
  have e : u = .ref a := r
  subst e
  obtain ⟨its, rv, ⟨o, ho, hc, n, hd⟩, _⟩ := I.tuple (SqT.of h)
  obtain ⟨as, q⟩ := readsAll_of I rs rv
  exact ⟨as, .tuple ho hc hd (by simpa using q), fun ⟨b, e, hb⟩ => by cases e; rw [h] at hb; cases hb⟩
 | _, _, u, .lst (a := a) h rs, r => by
  have e : u = .ref a := r
  subst e
  obtain ⟨_, its, n, rv, ho⟩ := (show ObjOk X.prog X.w H s.heap a (.lst _) from I.hok a _ h)
  obtain ⟨as, q⟩ := readsAll_of I rs rv
  exact ⟨a :: as, .list ho rfl rfl (by simpa using q), fun ⟨b, e, hb⟩ => by cases e; rw [h] at hb; cases hb⟩
 | _, _, u, .dct (a := a) h, r => by
  have e : u = .ref a := r
  subst e
  obtain ⟨_, hs, vs, kv, hm⟩ := (show ObjOk X.prog X.w H s.heap a (.dK []) from I.hok a _ h)
  cases kv
  obtain ⟨o, es, ep, ho, hc, hd, hk, hp, hn⟩ := hm
  have hz : es.toList = [] := by
   have := hp.length
   simp at this
   simpa using this
  refine ⟨a :: [] ++ [], .dict (kvs := []) ho hc.1 hd (by rw [hz]; exact .nil) (by rw [hz]; exact .nil), fun _ hm => ?_⟩
  simp only [List.append_nil, List.mem_singleton] at hm
  rw [hm] at hs
  simp at hs
theorem readsAll_of (I : Inv X pins σ H s) : ∀ {vs : List V} {ds : List PyData} {us : List Value}, ShAll H vs ds → Vals vs us → ∃ as, ReadsAll s.heap us ds as
 | _, _, _, .nil, .nil => ⟨[], .nil⟩
 | _, _, _, .cons h t, .cons r rs => by
  obtain ⟨as, q, _⟩ := Zbk I h r
  obtain ⟨bs, qs⟩ := readsAll_of I t rs
  exact ⟨as ++ bs, .cons q qs⟩
end
end
end L2
set_option Elab.async false
set_option linter.all false
set_option maxRecDepth 100000
namespace L2
open PySem PySem.Spec PyProof.Rows
end L2
set_option Elab.async false
set_option linter.all false
set_option maxRecDepth 100000
set_option maxHeartbeats 4000000
namespace L2
open PySem PySem.Spec PyProof.Rows SeqAt
section
variable {X : Cx}
def niV : V → Bool
 | .non => true
 | .int _ => true
 | _ => false
theorem ZdQ {A : Around} {s : Shared} {x y : V} {u v : Value} (hx : niV x = true) (hy : niV y = true) (ru : RelV x u) (rv : RelV y v) : EqAt A s u v (decide (x = y)) := by
 cases x with
 | non =>
  cases ru
  cases y with
  | non => cases rv; exact EqAt.same _
  | int j => obtain ⟨t, rfl⟩ := rv; exact EqAt.none_int j t
  | _ => cases hy
 | int i =>
  obtain ⟨t, rfl⟩ := ru
  cases y with
  | non => cases rv; exact EqAt.int_none i t
  | int j =>
   obtain ⟨t', rfl⟩ := rv
   rw [W3]
   exact EqAt.int_int i t j t'
  | _ => cases hy
 | _ => cases hx
theorem UR {A : Around} {s : Shared} {xs ys : List V} {us vs : List Value} (hx : xs.all niV = true) (hy : ys.all niV = true) (r1 : Vals xs us) (r2 : Vals ys vs) :
  ∀ j (h1 : j < us.toArray.size) (h2 : j < vs.toArray.size), EqAt A s us.toArray[j] vs.toArray[j] (decide (xs.getD j .non = ys.getD j .non)) := fun j h1 h2 => by
 have l1 := r1.length
 have l2 := r2.length
 have k1 : j < xs.length := by simp at h1; omega
 have k2 : j < ys.length := by simp at h2; omega
 obtain ⟨u, hu, ru⟩ := r1.get (List.getElem?_eq_getElem k1)
 obtain ⟨v, hv, rv⟩ := r2.get (List.getElem?_eq_getElem k2)
 have e1 : us.toArray[j] = u := by simpa using (List.getElem?_eq_some_iff.mp hu).2
 have e2 : vs.toArray[j] = v := by simpa using (List.getElem?_eq_some_iff.mp hv).2
 rw [e1, e2, List.getD_eq_getElem?_getD, List.getD_eq_getElem?_getD, List.getElem?_eq_getElem k1, List.getElem?_eq_getElem k2]
 exact ZdQ (List.all_eq_true.mp hx _ (List.getElem_mem k1)) (List.all_eq_true.mp hy _ (List.getElem_mem k2)) ru rv
theorem ZbK {xs ys : List V} {us vs : List Value} (r1 : Vals xs us) (r2 : Vals ys vs) : ((List.range (min us.toArray.size vs.toArray.size)).all (fun j => decide (xs.getD j .non = ys.getD j .non)) && us.toArray.size == vs.toArray.size) = decide (xs = ys) := by
 have l1 := r1.length
 have l2 := r2.length
 rw [Bool.eq_iff_iff, Bool.and_eq_true, List.all_eq_true, decide_eq_true_eq, beq_iff_eq, List.size_toArray, List.size_toArray]
 constructor
 ·rintro ⟨h, hl⟩
  refine List.ext_getElem (by omega) fun i h1 h2 => ?_
  have := h i (by rw [List.mem_range]; omega)
  simpa [h1, h2] using this
 ·rintro rfl
  exact ⟨fun j _ => by simp, by omega⟩
def rTN (K : PySem.W.Frag) (r : Bool) : R2 := fun x y H Q => ∃ (a b : Addr) (xs ys : List V), x = .ref a ∧ y = .ref b ∧ H a = some (.tup xs) ∧ H b = some (.tup ys) ∧ xs.all niV = true ∧ ys.all niV = true ∧ Q (.bl (xor r (decide (xs = ys)))) H
theorem Zaj (hu : X.A.units < cLine) : OpR X (compareOp .Eq) (rTN X.K false) := by
 intro pins s σ H x y u v Q I rx ry h
 obtain ⟨a, b, xs, ys, rfl, rfl, ha, hb, hx, hy, q⟩ := h
 cases rx
 cases ry
 obtain ⟨us, r1, p1, _⟩ := I.tuple (SqT.of ha)
 obtain ⟨vs, r2, p2, _⟩ := I.tuple (SqT.of hb)
 refine eq_tupleAt p1 p2 hu (UR hx hy r1 r2) ?_
 rw [ZbK r1 r2]
 exact ⟨.bl _, H, I, rfl, by rw [Bool.false_xor] at q; exact q⟩
theorem Yb (ns : List Int) : (ns.map V.int).all niV = true := by
 rw [List.all_map, List.all_eq_true]
 exact fun _ _ => rfl
end
end L2
set_option Elab.async false
set_option linter.all false
set_option maxRecDepth 100000
namespace U
open PySem L2 PyProof.Rows
def ScrAt (K : PySem.W.Frag) (H : Hp) (a : Addr) (ns : List Int) : Prop := (∃ o, H a = some (.frz o (.lst (ns.map V.int)))) ∨ ∃ (o : Obj) (its : Array Value) (n : Nat), K.lookup a = some o ∧ o.cls = .type "list" ∧ o.dict = none ∧ o.data = .seq its n ∧ its.size ≤ sizeLine ∧ Vals (ns.map V.int) its.toList
theorem ScrAt.sq {K : PySem.W.Frag} {H : Hp} {a : Addr} {ns : List Int} (h : ScrAt K H a ns) : SqL K H a (ns.map V.int) := by
 rcases h with ⟨o, h⟩ | h
 ·exact .inl (.inr ⟨o, h⟩)
 ·exact .inr h
theorem ScrAt.same {K : PySem.W.Frag} {H H' : Hp} {a : Addr} {ns : List Int} (h : ScrAt K H a ns) (s : Same H H') : ScrAt K H' a ns := by
 rcases h with ⟨o, h⟩ | h
 ·exact .inl ⟨o, s _ _ h⟩
 ·exact .inr h
theorem ScrAt.x {K : PySem.W.Frag} {H H' : Hp} {a p : Addr} {ns : List Int} {o : HO} (h : ScrAt K H a ns) (s : SameX p H H') (hp : H p = some o) (hn : ∀ ob u, o ≠ .frz ob u) : ScrAt K H' a ns := by
 rcases h with ⟨ob, h⟩ | h
 ·exact .inl ⟨ob, s _ _ h fun z => by rw [z, hp] at h; cases h; exact hn _ _ rfl⟩
 ·exact .inr h
end U
set_option Elab.async false
set_option linter.all false
set_option maxRecDepth 100000
namespace U
open PySem L2 PyProof.Rows PySem.Spec
def BmAt (mg : Str → Option Value) (h : Heap) : Prop := ∃ bm ob, mg "__builtins__" = some (.ref bm) ∧ bm ≠ builtinsNs ∧ h.get? bm = some ob ∧ ob.cls = .type "module" ∧ ob.dict = some builtinsNs ∧ ob.data = .plain
theorem UW {P : Program} {w : World} {K : PySem.W.Frag} {mg mb : Str → Option Value} {k : Nat} {fa a : Addr} {Pts : List Addr} {fd : FuncData} {x : Str} {sp : Sp} {s₁ : Shared} {vs : List Value} {ns : List Int}
  (KX : K.In s₁.heap) (hns : s₁.heap.Ns mainGlobals mg) (hb : s₁.heap.Ns builtinsNs mb) (hbb : ∀ x : Str, x ≠ "__name__" → mb x = bootBuiltins x) (hlim : s₁.heap.NoLimit) (hg : s₁.gens = #[])
  (ha : s₁.heap.get? a = some { cls := .type "list", data := .seq vs.toArray }) (hi : IntsAre vs ns) (hl : ns.length ≤ sizeLine) (hr : Room k callerA)
  (hTs : ∀ Pt ∈ Pts, s₁.heap.get? Pt = some (PySem.W.tabObj #[])) (hCs : ∀ Pt ∈ Pts, ∃ c, PySem.W.CodeHd s₁.heap c Pt) (hKPs : ∀ Pt ∈ Pts, K.lookup Pt = none) (hbm : BmAt mg s₁.heap)
  (F : ∀ base : Heap, K.In base → base.Ns mainGlobals mg → BmAt mg base → FnOk P w K mg base CX0 k fa fd [x] sp) (hbind : ∀ (s : Shared) (u : Value), BindsTo s fd ⟨[u], []⟩ [(x, u)])
  (hsp : ∀ H : Hp, ScrAt K H a ns → (∀ Pt ∈ Pts, H Pt = some (.tbl #[])) → sp [.ref a] H (fun v _ => v = .bl true) fun _ _ _ => False) :
  codeAny (model P w) callerA (.call (.ref fa) ⟨[.ref a], []⟩) (fun r s' => r = .ok (.ret (.bool true)) ∧ OldK s₁.heap s'.heap ∧ s'.os = s₁.os ∧ AllBare s'.gens) s₁ := by
 have rv := Wl hi
 have lenV := hi.length
 have hT' : ∀ {Pt : Addr}, Pt ∈ Pts → s₁.heap.get? Pt = some { cls := .none, data := .fields #[] } := fun h => hTs _ h
 have hPa : a ∉ Pts := fun z => by have h := hT' z; rw [ha] at h; cases h
 have core : ∀ H : Hp, (∀ b, b ∉ Pts → H b = none ∨ ∃ o xs, H b = some (.frz o (.lst xs))) → ScrAt K H a ns → (∀ Pt ∈ Pts, H Pt = some (.tbl #[])) → HOk P w H s₁.heap → (∀ b, H b ≠ none → b = a ∨ b ∈ Pts) → (H a ≠ none → K.lookup a = none) →
   codeAny (model P w) callerA (.call (.ref fa) ⟨[.ref a], []⟩) (fun r s' => r = .ok (.ret (.bool true)) ∧ OldK s₁.heap s'.heap ∧ s'.os = s₁.os ∧ AllBare s'.gens) s₁ := by
  intro H hO hS hP hok hA hK
  have base_of : ∀ {b : Addr} {o : Obj}, s₁.heap.get? b = some o → H b = none → (hidT s₁.heap H).get? b = some o := fun e n => Uw e n
  have noA : ∀ {b : Addr} {o : Obj}, s₁.heap.get? b = some o → (∀ vs n, o.data ≠ .seq vs n) → (∀ ps, o.data ≠ .fields ps) → H b = none := fun {b o} e d1 d2 => by
   cases q : H b with
   | none => rfl
   | some u =>
    rcases hA b (by rw [q]; simp) with e' | e'
    ·subst e'
     rw [ha] at e; cases e
     exact absurd rfl (d1 _ _)
    ·rw [hT' e'] at e; cases e
     exact absurd rfl (d2 _)
  have nsK : ∀ {b : Addr} {m : Str → Option Value}, s₁.heap.Ns b m → (hidT s₁.heap H).Ns b m := fun {b m} ⟨o, es, ep, e, d, r⟩ => ⟨o, es, ep, base_of e (noA e (fun _ _ z => by rw [d] at z; cases z) fun _ z => by rw [d] at z; cases z), d, r⟩
  have hKb : K.In (hidT s₁.heap H) := fun b o e => base_of (KX b o e) (by
   cases q : H b with
   | none => rfl
   | some u =>
    rcases hA b (by rw [q]; simp) with e' | e'
    ·subst e'
     rw [hK (by rw [q]; simp)] at e; cases e
    ·rw [hKPs _ e'] at e; cases e)
  have hM : Mod K mg (hidT s₁.heap H) := ⟨hKb, nsK hns, ⟨mb, nsK hb, hbb⟩, let ⟨mc, h1, h2⟩ := hlim; ⟨mc, nsK h1, h2⟩⟩
  have hbm' : BmAt mg (hidT s₁.heap H) := let ⟨bm, ob, b1, b2, b3, b4, b5, b6⟩ := hbm; ⟨bm, ob, b1, b2, base_of b3 (noA b3 (fun _ _ z => by rw [b6] at z; cases z) fun _ z => by rw [b6] at z; cases z), b4, b5, b6⟩
  have e0 : Env0 P w K mg (hidT s₁.heap H) callerA [] s₁ H := ⟨rfl, hM, fun b o e => Zak e, Nat.le_of_eq (Wz _ _), trivial, fun b hb => absurd (show b ∈ ([] : List Addr) from hb) (by simp), hok, .of_eq hg⟩
  refine codeAny_mono ((F _ hKb (nsK hns) hbm').run callerA [] s₁ H ⟨[.ref a], []⟩ [.ref a] [.ref a] _ _ hr e0 (hbind s₁ (.ref a)) (.cons rfl .nil) (hsp H hS hP)) fun r s' h => ?_
  cases r with
  | error e => exact False.elim h
  | ok fl =>
   cases fl with
   | next => exact False.elim h
   | brk => exact False.elim h
   | cont => exact False.elim h
   | ret u =>
    obtain ⟨v, H', os, bare, un, hok', r', q⟩ := h
    have q' : v = .bl true := q
    subst q'
    obtain rfl : u = Value.bool true := r'
    have old : ∀ b o, s₁.heap.get? b = some o → asItWas s₁.heap s'.heap b o := fun b o e => by
     cases q : H b with
     | none => exact .inl (un.keep b o e q (by intro z; exact absurd (show b ∈ ([] : List Addr) from z) (by simp)) (by simp))
     | some u =>
      by_cases hbP : b ∈ Pts
      ·obtain ⟨more, z⟩ := un.tbls b _ (hP b hbP)
       have e2 : s'.heap.get? b = some { cls := .none, data := .fields (#[] ++ more) } := hok' b _ z
       rw [hT' hbP] at e
       cases e
       obtain ⟨c, hC⟩ := hCs b hbP
       exact .inr (.inl ⟨(hC.tab (hTs b hbP)).isCodeTable, rfl, #[], more, rfl, e2⟩)
      ·rcases hO b hbP with z | ⟨ob, xs, z⟩
       ·rw [q] at z; cases z
       ·have z2 := un.frzs b ob _ z
        obtain ⟨e1, _⟩ := hok b _ z
        obtain ⟨e2, _⟩ := hok' b _ z2
        rw [e] at e1; cases e1
        exact .inl e2
    exact ⟨rfl, ⟨old, fun b o e => un.there b o e (by simp)⟩, os, bare⟩
 cases hk : K.lookup a with
 | some o =>
  have e := KX a o hk
  rw [ha] at e
  cases e
  refine core (fun b => if b ∈ Pts then some (.tbl #[]) else none) (fun b n => .inl (if_neg n)) (.inr ⟨_, vs.toArray, _, hk, rfl, rfl, rfl, by rw [List.size_toArray, lenV]; exact hl, by simpa using rv⟩) (fun Pt h => if_pos h) (fun b u z => ?_) (fun b z => ?_) fun z => absurd (if_neg hPa) z
  ·by_cases hb : b ∈ Pts
   ·have z' := (if_pos hb).symm.trans z
    cases z'
    exact hT' hb
   ·have z' := (if_neg hb).symm.trans z
    cases z'
  ·by_cases hb : b ∈ Pts
   ·exact .inr hb
   ·exact absurd (if_neg hb) z
 | none =>
  refine core (fun b => if b ∈ Pts then some (.tbl #[]) else if b = a then some (.frz { cls := .type "list", data := .seq vs.toArray } (.lst (ns.map V.int))) else none) (fun b n => ?_) (.inl ⟨{ cls := .type "list", data := .seq vs.toArray }, (if_neg hPa).trans (if_pos rfl)⟩) (fun Pt h => if_pos h) (fun b u z => ?_) (fun b z => ?_) fun _ => hk
  ·by_cases hb : b = a
   ·exact .inr ⟨_, _, (if_neg n).trans (if_pos hb)⟩
   ·exact .inl ((if_neg n).trans (if_neg hb))
  ·by_cases hP : b ∈ Pts
   ·have z' := (if_pos hP).symm.trans z
    cases z'
    exact hT' hP
   ·by_cases hb : b = a
    ·have z' := ((if_neg hP).trans (if_pos hb)).symm.trans z
     cases z'
     subst hb
     exact ⟨ha, by rw [List.length_map]; exact hl, vs, _, rv, ha⟩
    ·have z' := ((if_neg hP).trans (if_neg hb)).symm.trans z
     cases z'
  ·by_cases hP : b ∈ Pts
   ·exact .inr hP
   ·by_cases hb : b = a
    ·exact .inl hb
    ·exact absurd ((if_neg hP).trans (if_neg hb)) z
theorem walk_ofTs {l : PySem.W.OpenLaw} {n k : Nat} {q : Program} {loose : List Str} {XP : (Str → Option Value) → Heap → Prop} {YP : World → Heap → Prop} {d : DefRec} {K : Params → PySem.W.Frag} {sp : PySem.W.Frag → Sp} {x : Str} {Pts : List Addr}
    (hn : l.most = some n) (hn2 : n ≤ sizeLine) (hdf : d.params.defaults = []) (hr : Room k callerA)
    (hY : ∀ (w : World) (h : Heap), YP w h → (K w.params).In h) (hYT : ∀ (w : World) (h : Heap), YP w h → ∀ Pt ∈ Pts, h.get? Pt = some (PySem.W.tabObj #[]))
    (hC : ∀ (w : World) (h : Heap), (K w.params).In h → ∀ Pt ∈ Pts, ∃ c, PySem.W.CodeHd h c Pt) (hKP : ∀ w : World, ∀ Pt ∈ Pts, (K w.params).lookup Pt = none)
    (F : ∀ (w : World) (mg : Str → Option Value) (fa : Addr) (h : Heap), (K w.params).In h → h.Ns mainGlobals mg → mg d.name = some (.ref fa) →
      ∃ fd : FuncData, (∀ (s : Shared) (u : Value), BindsTo s fd ⟨[u], []⟩ [(x, u)]) ∧
        ∀ base : Heap, (K w.params).In base → base.Ns mainGlobals mg → BmAt mg base → FnOk l.prog w (K w.params) mg base CX0 k fa fd [x] (sp (K w.params)))
    (hsp : ∀ (K : PySem.W.Frag) (H : Hp) (a : Addr) (ns : List Int), ns.length ≤ n → ScrAt K H a ns → (∀ Pt ∈ Pts, H Pt = some (.tbl #[])) → sp K [.ref a] H (fun v _ => v = .bl true) fun _ _ _ => False) :
    PySem.W.WalkO q loose XP YP l.row.toRowW d [] (fun f vs => PySem.call f vs) := by
  refine Att.attach_call hn hdf fun w s₀ s₁ mg mb fa o pm cd doc a vs ns G Y ho hd hcd hmg hobj hints hlen hg => ?_
  have KX := hY w _ Y
  obtain ⟨fd, hb, hF⟩ := F w mg fa _ KX G.T.g hmg
  exact UW KX G.T.g G.T.b G.T.builtins G.T.nolimit hg hobj hints (Nat.le_trans hlen hn2) hr (hYT w _ Y) (hC w _ KX) (hKP w) G.T.bmain hF hb (fun H hS hP => hsp (K w.params) H a ns hlen hS hP)
end U
set_option Elab.async false
set_option linter.all false
set_option maxRecDepth 100000
namespace U
open PySem L2 PyProof.Rows PySem.Spec
def DefAt (K : PySem.W.Frag) (x : Str) (st : Stmt) : Prop := ∃ f fd, PySem.W.nsIn K mainGlobals x = some (some (.ref f)) ∧ Fun K x x st f fd
theorem defAt_mk {K : PySem.W.Frag} {x : Str} {st : Stmt} {f : Addr} {oc : Value} {od an : Option Addr} {osl : Array (Option Value)} {kV doc pm cdv ct : Value} (e1 : PySem.W.nsIn K mainGlobals x = some (some (.ref f)))
  (e2 : K.lookup f = some ⟨oc, od, .func (PySem.W.fnOf x x (defArgs st) (defBody st) (defScope st) .none kV doc pm an cdv ct), osl⟩) (e3 : PySem.W.codeIn K cdv x = true) (e4 : PySem.W.keepIn K (.ref f) = true) : DefAt K x st := ⟨f, _, e1, Zdp e2 e3 e4⟩
section
variable {P : Program} {w : World} {K : PySem.W.Frag} {mg : Str → Option Value} {base : Heap}
abbrev BindsAs (x : Str) (st : Stmt) (ps : List Str) : Prop := ∀ (kV doc pm : Value) (an : Option Addr) (cdv ct : Value) (us : List Value), us.length = ps.length → bindArgs (PySem.W.fnOf x x (defArgs st) (defBody st) (defScope st) .none kV doc pm an cdv ct) ⟨us, []⟩ = pure (ps.zip us)
theorem DefAt.to {h : Heap} {x : Str} {st : Stmt} {ps : List Str} {k : Nat} {sp : Sp} (d : DefAt K x st) (KX : K.In h) (G : h.Ns mainGlobals mg) (hb : BindsAs x st ps) (ok : ∀ f fd, Fun K x x st f fd → FnOk P w K mg base CX0 k f fd ps sp) : Def P w K mg base k x ps sp := by
 obtain ⟨f, fd, e, F⟩ := d
 exact ⟨f, fd, ok f fd F, PySem.W.mg_of KX G e, F.kp, F.binds hb⟩
theorem DefAt.toR {h : Heap} {x : Str} {st : Stmt} {ps : List Str} {k : Nat} {sp : Sp} (d : DefAt K x st) (KX : K.In h) (G : h.Ns mainGlobals mg) (hb : BindsAs x st ps) (ok : ∀ f fd, Fun K x x st f fd → FnOk P w K mg base (CXR P w) k f fd ps sp) : DefR P w K mg base k x ps sp := by
 obtain ⟨f, fd, e, F⟩ := d
 exact ⟨f, fd, ok f fd F, PySem.W.mg_of KX G e, F.kp, F.binds hb⟩
def noneAt (K : PySem.W.Frag) (x : Str) : Bool := match PySem.W.nsIn K mainGlobals x with | some none => true | _ => false
theorem ZaN {h : Heap} {x : Str} (KX : K.In h) (G : h.Ns mainGlobals mg) (e : noneAt K x = true) : mg x = none := by
 unfold noneAt at e
 split at e
 ·rename_i q
  exact PySem.W.mg_none_of KX G q
 ·cases e
abbrev Binds1 (x a : Str) (st : Stmt) : Prop := ∀ (kV doc pm : Value) (an : Option Addr) (cdv ct u : Value), bindArgs (PySem.W.fnOf x x (defArgs st) (defBody st) (defScope st) .none kV doc pm an cdv ct) ⟨[u], []⟩ = pure [(a, u)]
theorem b0 {x : Str} {st : Stmt} (h : ∀ (kV doc pm : Value) (an : Option Addr) (cdv ct : Value), bindArgs (PySem.W.fnOf x x (defArgs st) (defBody st) (defScope st) .none kV doc pm an cdv ct) ⟨[], []⟩ = pure []) : BindsAs x st [] := fun kV doc pm an cdv ct us hl => match us, hl with | [], _ => h kV doc pm an cdv ct
theorem b1 {x a : Str} {st : Stmt} (h : Binds1 x a st) : BindsAs x st [a] := fun kV doc pm an cdv ct us hl => match us, hl with | [u], _ => h kV doc pm an cdv ct u
theorem b2 {x a b : Str} {st : Stmt} (h : ∀ (kV doc pm : Value) (an : Option Addr) (cdv ct u v : Value), bindArgs (PySem.W.fnOf x x (defArgs st) (defBody st) (defScope st) .none kV doc pm an cdv ct) ⟨[u, v], []⟩ = pure [(a, u), (b, v)]) : BindsAs x st [a, b] := fun kV doc pm an cdv ct us hl => match us, hl with | [u, v], _ => h kV doc pm an cdv ct u v
theorem b3 {x a b c : Str} {st : Stmt} (h : ∀ (kV doc pm : Value) (an : Option Addr) (cdv ct u v w : Value), bindArgs (PySem.W.fnOf x x (defArgs st) (defBody st) (defScope st) .none kV doc pm an cdv ct) ⟨[u, v, w], []⟩ = pure [(a, u), (b, v), (c, w)]) : BindsAs x st [a, b, c] := fun kV doc pm an cdv ct us hl => match us, hl with | [u, v, w], _ => h kV doc pm an cdv ct u v w
end
end U
set_option Elab.async false
set_option linter.all false
set_option maxRecDepth 100000
set_option maxHeartbeats 4000000
namespace HS
open PySem PySem.SetTable
abbrev Ris (l : List Nat) : Prop := l.Pairwise (· < ·)
abbrev tb (m : Nat) : SetTable := { mask := m, place := #[], dummies := #[], finger := 0, led := false, moves := 0, plain := false }
def adv (m : Nat) (p : Probe) : Probe := (tb m).advance p
def it (m : Nat) (p : Probe) : Nat → Probe
 | 0 => p
 | k + 1 => adv m (it m p k)
end HS
set_option Elab.async false
set_option linter.all false
set_option maxRecDepth 100000
set_option maxHeartbeats 4000000
namespace HS
open PySem PySem.SetTable
abbrev fr (m i pt : Nat) : Probe := { j := i, more := runEnd m i - i, i, perturb := pt, dummy := none }
abbrev st (m : Nat) (h : Int) : Probe := fr m (bits h % (m + 1)) (bits h)
def lp (m : Nat) (x : Nat × Nat) : Nat × Nat := leap m x.1 x.2
def lps (m : Nat) (x : Nat × Nat) : Nat → Nat × Nat
 | 0 => x
 | k + 1 => lp m (lps m x k)
def nx (m i : Nat) : Nat := (i * 5 + 1) % (m + 1)
def Leads (m : Nat) (occ : Nat → Prop) (p : Probe) (j : Nat) : Prop := ∃ n, (it m p n).j = j ∧ ∀ k < n, occ (it m p k).j
end HS
set_option Elab.async false
set_option linter.all false
set_option maxRecDepth 100000
set_option maxHeartbeats 4000000
namespace HS
open PySem PySem.SetTable
structure T0 (t : SetTable) (es : Array (Int × Value)) : Prop where
 sz : t.place.size = es.size
 ris : Ris t.place.toList
 dum : t.dummies = #[]
 le : ∀ j ∈ t.place.toList, j < t.mask + 1
 ld : ∀ z ∈ t.place.toList.zip es.toList, Leads t.mask (· ∈ t.place.toList) (st t.mask z.2.1) z.1
def Roomy (m n : Nat) : Prop := (m = 7 ∧ n ≤ 4) ∨ (m = 31 ∧ n ≤ 18) ∨ (m = 127 ∧ n ≤ 76) ∨ (m = 511 ∧ n ≤ 306)
structure LInv (m : Nat) (hs : List Int) (owner : Array (Option Nat)) : Prop where
 sz : owner.size = m + 1
 lt : ∀ (j k : Nat), owner[j]? = some (some k) → k < hs.length
 at_ : ∀ (k : Nat) (h : Int), hs[k]? = some h → ∃ j : Nat, owner[j]? = some (some k) ∧ Leads m (fun x => ∃ k, owner[x]? = some (some k)) (st m h) j
 inj : ∀ (j j' k : Nat), owner[j]? = some (some k) → owner[j']? = some (some k) → j = j'
def live (m : Nat) (owner : Array (Option Nat)) : List (Nat × Nat) := (List.range (m + 1)).filterMap fun j => (owner.getD j none).map (j, ·)
end HS
set_option Elab.async false
set_option linter.all false
set_option maxRecDepth 100000
set_option maxHeartbeats 4000000
namespace HS
open PySem PySem.SetTable
end HS
set_option Elab.async false
set_option linter.all false
set_option maxRecDepth 100000
set_option maxHeartbeats 4000000
namespace HS
open PySem PySem.SetTable
section
variable {prog : Program} {w : World} {K : Type} [DecidableEq K]
structure HK (knd : HeapKind prog w K) : Prop where
 byVal : ∀ {A : Around} {E : Value → Shared → Prop} {s : Shared} {k : K} {a : Addr} {Q : Bool → Shared → Prop}, knd.is s.heap k a → (∀ b, Q b s) → wpAny (model prog w) A (hashByValue 8 (.ref a)) Q E s
 notCls : ∀ {A : Around} {E : Value → Shared → Prop} {s : Shared} {k : K} {a : Addr} {Q : Bool → Shared → Prop}, knd.is s.heap k a → Q false s → wpAny (model prog w) A (ofAClassStatement 8 (.ref a)) Q E s
 keepsS : ∀ {h h' : Heap} {k : K} {a d : Addr} {o : Obj} {es ep t}, knd.is h k a → h.get? d = some o → o.data = .set es ep t → Heap.SameBut d h h' → knd.is h' k a
variable {knd : HeapKind prog w K} {A : Around} {E : Value → Shared → Prop} {s : Shared}
def Elem (knd : HeapKind prog w K) (h : Heap) (k : K) (e : Int × Value) : Prop := ∃ a, e.2 = .ref a ∧ knd.is h k a ∧ e.1 = knd.hash k
end
end HS
set_option Elab.async false
set_option linter.all false
set_option maxRecDepth 100000
set_option maxHeartbeats 4000000
namespace HS
open PySem PySem.SetTable
section
variable {prog : Program} {w : World} {K : Type} [DecidableEq K] {knd : HeapKind prog w K} {A : Around} {E : Value → Shared → Prop} {s : Shared}
structure SetH (knd : HeapKind prog w K) (h : Heap) (S : Addr) (ks : List K) (o : Obj) (es : Array (Int × Value)) (ep : Nat) (t : SetTable) : Prop where
 ho : h.get? S = some o
 ex : o.ExactSet
 hd : o.data = .set es ep t
 T : T0 t es
 room : Roomy t.mask es.size
 el : ∀ e ∈ es.toList, ∃ k ∈ ks, Elem knd h k e
 all : ∀ k ∈ ks, ∃ e ∈ es.toList, Elem knd h k e
 sz : es.size = ks.length
end
end HS
set_option Elab.async false
set_option linter.all false
set_option maxRecDepth 100000
set_option maxHeartbeats 4000000
namespace HS
open PySem PySem.SetTable PySem.Spec
section
variable {K : Type} [DecidableEq K]
def met (val : Nat → K) : Nat → List K
 | 0 => []
 | n + 1 => if val n ∈ met val n then met val n else met val n ++ [val n]
variable {prog : Program} {w : World} {kk : KeyKind prog w K} {A : Around} {E : Value → Shared → Prop} {s : Shared} {R : Result → Shared → Prop} {I : Addr} {fp wr : List Addr} {G : Array GenState → Array GenState → Prop} {n : Nat} {P : Nat → Value → Prop} {St : Nat → Shared → Prop}
end
end HS
set_option Elab.async false
set_option linter.all false
set_option maxRecDepth 100000
set_option maxHeartbeats 8000000
namespace HS
open PySem PySem.SetTable PySem.Spec
end HS
set_option Elab.async false
set_option linter.all false
set_option maxRecDepth 100000
set_option maxHeartbeats 4000000
namespace L2
open PySem PySem.Spec PyProof.Rows
end L2
set_option Elab.async false
set_option linter.all false
set_option maxRecDepth 100000
set_option maxHeartbeats 4000000
namespace L2
open PySem PySem.Spec PyProof.Rows SeqAt
end L2
set_option Elab.async false
set_option linter.all false
set_option maxRecDepth 100000
set_option maxHeartbeats 4000000
namespace L2
open PySem PySem.Spec PyProof.Rows SeqAt
section
variable {X : Cx} {e : Expr} {te : TE} {p1 p2 p3 pos : Pos} {j : Nat}
def tRevL (K : PySem.W.Frag) (te : TE) : TE := fun σ H Q => te σ H fun x H1 => ∃ a xs, x = .ref a ∧ SqL K H1 a xs ∧ ∀ p, H1 p = none → Q (.ref p) (upd H1 p (.lst xs.reverse))
theorem Zaf (he : PE X e te) : PE X (.Subscript e (.Slice none none (some (.UnaryOp .USub (.Constant (.int 1) j p1) p2)) p3) pos) (tRevL X.K te) := by
 intro pins s σ H Q I h
 refine Subscript_ (thn (he pins s σ H _ I h) fun v s1 ⟨x, H1, I1, r1, a, xs, ex, hq, q⟩ => ?_)
 subst ex
 cases r1
 refine wpAny_Slice ?_
 rw [evalPart_none]
 refine wpAny_pure (wpAny_pure ?_)
 rw [evalPart_some]
 refine thn (Zae WK Zf pins s1 σ H1 (fun v H2 => v = .int (-1) ∧ H2 = H1) I1 ⟨_, rfl, rfl, rfl⟩) fun vk s2 ⟨y, H2, I2, r2, ey, eh⟩ => ?_
 subst ey eh
 obtain ⟨tk, rfl⟩ := r2
 have I4 : Inv X pins σ H2 { s2 with heap := s2.heap.push { cls := .type "slice", data := .fields #[.none, .none, .int (-1) tk] } } := I2.kept (t' := s2.toks) fun b ob q => Heap.get?_push_of_some _ q
 obtain ⟨its, r, pl, hz⟩ := I4.list hq
 refine tail_any (ops := [.ref a, .ref s2.heap.objs.size]) pl.isList.typeIs slot_list_getitem.lookup ?_ (by with_unfolding_all rfl)
 have hlen := r.length
 refine wpAny_getItem_list_slice pl.isList (Heap.IsSliceOf.new ..) .none .none (.int (-1) tk) (by decide) ?_ (by rw [List.size_toArray]; omega)
 rw [PySem.W.krv_pick]
 refine ⟨.ref _, _, I4.laid (a := (s2.heap.push { cls := .type "slice", data := .fields #[.none, .none, .int (-1) tk] }).objs.size) (o := .lst xs.reverse) (t' := s2.toks) (fun b u z => Heap.get?_push_of_some _ z) (Nat.le_refl _) ?_, rfl, q _ (I4.hok.fresh (Nat.le_refl _))⟩
 exact ⟨by rw [List.length_reverse]; exact hz, its.reverse, 0, W8 r, Heap.get?_push_size _ rfl⟩
end
end L2
set_option Elab.async false
set_option linter.all false
set_option maxRecDepth 100000
set_option maxHeartbeats 4000000
namespace L2
open PySem PySem.Spec PyProof.Rows
end L2
set_option Elab.async false
set_option linter.all false
set_option maxRecDepth 100000
set_option maxHeartbeats 4000000
namespace L2
open PySem PySem.Spec PyProof.Rows
end L2
set_option Elab.async false
set_option linter.all false
set_option maxRecDepth 100000
set_option maxHeartbeats 4000000
namespace L2
open PySem PySem.Spec PyProof.Rows SeqAt
end L2
namespace L2
open PySem PySem.Spec PyProof.Rows
section
variable {X : Cx} {CX : CXT} {k : Nat} {f : Addr} {fd : FuncData} {ps : List Str} {ds : List Value} {dvs : List V} {sp : Sp} {E : XK} {x : Str} {p pos : Pos} {e : Expr} {es : List Expr} {t : TA}
theorem UM {i : Nat} (F : FnOk X.prog X.w X.K X.mg X.base CX k f fd ps sp) (hr : Room k X.A) (hv : PE X (.Name x p) (tVar i)) (hk : PySem.W.keepIn X.K (.ref f) = true) (hb : Binds X.K fd ps ds) (hd : Vals dvs ds) (hx : Passes CX X E)
  (ha : PA X (e :: es) t) (he : starEach (e :: es) X.env = (false, eval e X.env) :: starEach es X.env := by rfl) (hpl : (backTo pos (starEach es X.env)).any (·.1) = false := by rfl) :
  PE X (.Call (.Name x p) (e :: es) [] pos) (fun σ H Q => σ[i]? = some (some (.ref f)) ∧ tCall sp dvs E t σ H Q) := by
 intro pins s σ H Q I h
 obtain ⟨hσ, h⟩ := h
 refine wpAny_Call_Name_kw (thn (hv pins s σ H (fun v H1 => v = .ref f ∧ H1 = H) I ⟨_, hσ, rfl, rfl⟩) fun u s1 ⟨v, H1, I1, rv, e1, e2⟩ => ?_)
 subst e1 e2
 cases rv
 refine PySem.W.callWith_K (h₀ := X.base) I1.ok.mod.kin hk (thn (ha pos pins s1 σ H1 _ I1 h) fun us s2 ⟨vs, H2, I2, r, q⟩ => ⟨I2.kIn, ?_⟩) he hpl
 exact WM F hr hb hd hx I2 r q
end
end L2
set_option Elab.async false
set_option linter.all false
set_option maxRecDepth 100000
set_option maxHeartbeats 4000000
namespace L2
open PySem PySem.Spec PyProof.Rows
end L2
set_option Elab.async false
set_option linter.all false
set_option maxRecDepth 100000
namespace L2
open PySem PySem.Spec PyProof.Rows
def blkX (X : Cx) (N' : List Str) (scope : Scope) (C : Addr) (s2 : Shared) (H2 : Hp) (fp : List Addr) (XE : Value → Shared → Prop) : Cx := { blk X N' scope C s2 H2 fp with xe := XE }
theorem Zdo {X : Cx} {pins : List (Addr × Obj)} {σ : St} {H : Hp} {s : Shared} {XE : Value → Shared → Prop} (I : Inv X pins σ H s) : Inv { X with xe := XE } pins σ H s :=
 ⟨⟨I.ok.mod, I.ok.kind, I.ok.glob, I.ok.blt, I.ok.above, I.ok.inj, I.ok.has, I.ok.cab, I.ok.hd, I.ok.frames, I.ok.stk, I.ok.exf, I.ok.bs, I.ok.bsz, I.ok.noex, I.ok.exfs, I.ok.funs, I.ok.frf⟩,
  I.os, I.bare, I.base, I.loc, I.cell, I.free, I.freeC, I.pin, I.hok, I.len⟩
section
variable {M : Model} {A : Around} {E : Value → Shared → Prop} {s : Shared} {base : Heap} {e : Addr} {cls a0 fl : Value}
theorem UY {l : List Env} {fr : Option Addr} {Q : Unit → Shared → Prop} (kb : base.StaysIn s.heap) (ff : s.heap.FunFrames base l) (tr : s.heap.TracedAtW base e cls a0 fl)
  (q : ∀ h', base.StaysIn h' → h'.FunFrames base l → h'.TracedAtW base e cls a0 (fr.elim .none fun f => rawInt f) → (∀ b o, s.heap.get? b = some o → (∀ vs, o.data ≠ .fields vs) → h'.get? b = some o) → Q () { s with heap := h' }) : wpAny M A (setFlight (.ref e) fr) Q E s := by
 obtain ⟨oe, vs, T, oT, ts, ge, gc, gd, g1, gn, gne, gT, gdT, g3⟩ := tr
 have sz : 3 < ts.size := (Array.getElem?_eq_some_iff.mp g3).1
 generalize hu : (fr.elim Value.none fun f => rawInt f) = u at q
 have oth : ∀ b, b ≠ T → (s.heap.update T (Obj.mapFields (·.setIfInBounds 3 u))).get? b = s.heap.get? b := fun b z => Heap.get?_update_other s.heap _ (Ne.symm z)
 have nT : ∀ b o, s.heap.get? b = some o → (∀ vs, o.data ≠ .fields vs) → b ≠ T := fun b o hb nf z => by
  rw [z, gT] at hb
  cases hb
  exact nf ts gdT
 unfold setFlight
 refine wpAny_bind (wpAny_field ge gd g1 ?_)
 rw [if_pos (by simp), hu]
 refine wpAny_setField gT gdT sz (q _ (fun b o hb => (oth b fun z => ?_).trans (kb b o hb)) (ff.of_keeps fun b o hb nf => ⟨o, (oth b (nT b o hb nf)).trans hb, rfl⟩) ?_ fun b o hb nf => (oth b (nT b o hb nf)).trans hb)
 ·rw [z, gn] at hb
  cases hb
 ·exact ⟨oe, vs, T, _, _, (oth e (Ne.symm gne)).trans ge, gc, gd, g1, gn, gne, Heap.get?_update_self _ gT (Obj.isFreed_of_fields (Obj.data_mapFields gdT _)), Obj.data_mapFields gdT _, by simp [sz]⟩
theorem ZbG {env : Env} {outer : List Env} {L : Addr} {Q : Unit → Shared → Prop} (fr : A.frames = some (env :: outer)) (ff : s.heap.FunFrames base (env :: outer)) (ef : env.frame = some L) (tr : s.heap.TracedAtW base e cls a0 fl) (kb : base.StaysIn s.heap) (en : base.get? e = none)
  (q : ∀ h', Heap.NotedW base (env :: outer) e cls a0 (rawInt L) s.heap h' → Q () { s with heap := h' }) : wpAny M A (noteFrame (.ref e) env) Q E s := by
 by_cases z : fl = rawInt L
 ·subst z
  exact wpAny_noteFrame_againW ef tr (q s.heap ⟨kb, ff, tr, fun b o hb _ => ⟨o.slots, hb⟩⟩)
 ·obtain ⟨oe, vs, T, oT, ts, ge, ⟨rfl, g0⟩, gd, g1, gn, gne, gT, gdT, g3⟩ := tr
  have oth : ∀ b, b ≠ T → (s.heap.update T (Obj.mapFields (·.setIfInBounds 3 Value.none))).get? b = s.heap.get? b := fun b z => Heap.get?_update_other s.heap _ (Ne.symm z)
  have nT : ∀ b o, s.heap.get? b = some o → (∀ vs, o.data ≠ .fields vs) → b ≠ T := fun b o hb nf z => by
   rw [z, gT] at hb
   cases hb
   exact nf ts gdT
  unfold noteFrame
  simp only [ef]
  refine wpAny_bind (wpAny_field ge gd g1 ?_)
  rw [if_pos (by simp)]
  refine wpAny_bind (wpAny_field gT gdT g3 ?_)
  rw [if_neg (by simpa using z)]
  refine wpAny_bind (wpAny_setField gT gdT (Array.getElem?_eq_some_iff.mp g3).1 ?_)
  refine wpAny_entryW fr (ff.of_keeps fun b o hb nf => ⟨o, (oth b (nT b o hb nf)).trans hb, rfl⟩) ef ((oth e (Ne.symm gne)).trans ge) (fun b o hb => (oth b fun z => ?_).trans (kb b o hb)) en gd (Array.getElem?_eq_some_iff.mp g1).1 g0
   fun h' ⟨x1, x2, x3, x4⟩ => q h' ⟨x1, x2, x3, fun b o hb nf => x4 b o ((oth b (nT b o hb nf)).trans hb) nf⟩
  rw [z, gn] at hb
  cases hb
theorem J5 {C : Addr} {h h' base' : Heap} (sb : Heap.SameBut C h h') (hb : ∀ b, base.get? b = none → base'.get? b = none) : ∀ {l : List Env}, C ∉ frs l → h.FunFrames base l → h'.FunFrames base' l
 | [], _, _ => trivial
 | env :: r, nc, ⟨k, ⟨L, o, ef, n, ho, nd⟩, rest⟩ => by
  have hm : frs (env :: r) = L :: frs r := List.filterMap_cons_some (f := fun (x : Env) => x.frame) ef
  rw [hm] at nc
  exact ⟨k, ⟨L, o, ef, hb L n, (sb.2 L fun z => nc (by rw [z]; exact List.mem_cons_self)).trans ho, nd⟩, J5 sb hb (fun z => nc (List.mem_cons_of_mem _ z)) rest⟩
end
theorem ZcR {fs : List Addr} {H0 H1 : Hp} {h0 h1 h' B : Heap} (u : Un fs [] H0 H1 h0 h1) (fz : ∀ b ∈ fs, H0 b = none) (cov : ∀ b o, h0.get? b = some o → b ∉ fs → ∃ v, B.get? b = some v) (k1 : B.StaysIn h1) (k2 : B.StaysIn h')
  (up : ∀ b ∈ fs, ∀ o, h1.get? b = some o → ∃ sl, h'.get? b = some { o with slots := sl }) : Un fs [] H0 H1 h0 h' := by
 have kp : ∀ b o u, h1.get? b = some o → B.get? b = some u → h'.get? b = some o := fun b o u h hu => by
  have e1 := k1 b u hu
  rw [h] at e1
  cases e1
  exact k2 b _ hu
 refine ⟨fun b o h n hf hx => ?_, fun b o h n hf hx => ?_, u.free, fun b o h hx => ?_, u.tups, u.frzs, u.tbls⟩
 ·obtain ⟨v, hv⟩ := cov b o h hf
  exact kp b o v (u.keep b o h n hf hx) hv
 ·obtain ⟨sl, q⟩ := u.slot b o h n hf hx
  obtain ⟨sl', q'⟩ := up b hf _ q
  exact ⟨sl', q'⟩
 ·by_cases hf : b ∈ fs
  ·obtain ⟨sl, q⟩ := u.slot b o h (fz b hf) hf hx
   obtain ⟨sl', q'⟩ := up b hf _ q
   exact ⟨_, q'⟩
  ·obtain ⟨v, hv⟩ := cov b o h hf
   exact ⟨v, k2 b v hv⟩
section
variable {P : Program} {w : World} {K : PySem.W.Frag} {mg : Str → Option Value} {base : Heap} {N : List Str} {qual : Str} {scope : Scope} {f : Addr} {cd : Value} {A : Around} {outer : List Env} {s : Shared} {H : Hp} {E : XK}
abbrev compXE (P : Program) (w : World) (K : PySem.W.Frag) (mg : Str → Option Value) (base : Heap) (N : List Str) (qual : Str) (scope : Scope) (f : Addr) (cd : Value) (A : Around) (outer : List Env) (s : Shared) (H : Hp) (E : XK) (env' : Env) (C : Addr) : Value → Shared → Prop :=
 notedBy (model P w) (A.deeper (envOfC qual scope s.heap.objs.size f cd)) env' fun x s' => ∃ m, s'.heap.Ns C m ∧ ∀ h', Heap.SameBut C s'.heap h' → ∀ cenv : Env, cenv.locals = C → wpAny (model P w) (A.deeper (envOfC qual scope s.heap.objs.size f cd)) (PySem.passOn "comprehension.variables-let-go" x cenv : Sem Value) (fun _ _ => False) (cxOf (CXR P w) P w K mg base N qual scope f cd A outer s H E).xe { s' with heap := h' }
theorem passBlk {N' : List Str} {sc : Scope} {C : Addr} {s2 : Shared} {H2 : Hp} {fp : List Addr} {pins : List (Addr × Obj)} {σ : St} (I2 : Inv (cxOf (CXR P w) P w K mg base N qual scope f cd A outer s H E) pins σ H2 s2) (hf : ∀ b ∈ fp, FpOk (cxOf (CXR P w) P w K mg base N qual scope f cd A outer s H E) pins H2 b) (hC : s2.heap.objs.size ≤ C) :
  Passes (CXR P w) (blkX (cxOf (CXR P w) P w K mg base N qual scope f cd A outer s H E) N' sc C s2 H2 fp (compXE P w K mg base N qual scope f cd A outer s H E (blk (cxOf (CXR P w) P w K mg base N qual scope f cd A outer s H E) N' sc C s2 H2 fp).env C)) E := by
 intro pl σ1 H1 s1 ev s3 J h
 obtain ⟨e, Cc, H', rfl, F, hE⟩ := h
 obtain ⟨B, a0, fl, cov, covT⟩ := F.fly
 generalize hX : envOfC qual scope s.heap.objs.size f cd = env at *
 have ef : env.frame = some s.heap.objs.size := by rw [← hX]; rfl
 have u1 : Un (frs (env :: outer)) fp H2 H1 s2.heap s1.heap := by rw [← hX]; exact J.base
 have u3 : Un (frs (env :: outer)) [] H1 H' s1.heap s3.heap := by rw [← hX]; exact F.un
 have IX : Inv (cxOf (CXR P w) P w K mg base N qual scope f cd A outer s H E) pins σ H' s3 := by
  refine I2.call' (ch := fp) (F.os.trans J.os) ?_ F.hok F.bare fun b hb => ?_
  ·have u := u1.trans (u3.mono (fun _ z => z) fun b z => absurd z (by simp))
   rw [← hX] at u
   exact u
  ·obtain ⟨f0, f1, f2, f3, f4, f5⟩ := hf b hb
   exact ⟨f3, f1, f4, f5⟩
 have nC : C ∉ frs (env :: outer) := fun z => by
  rw [← hX] at z
  obtain ⟨_, o, ho, _⟩ := I2.stack.mem z
  exact absurd (Nat.lt_of_lt_of_le (Heap.lt_size ho) hC) (Nat.lt_irrefl _)
 have fC1 : H1 C = none := J.free
 obtain ⟨m, nsC, _⟩ := J.loc
 have nsC : s1.heap.Ns C m := nsC
 obtain ⟨oC, es, ep, gC, dC, rC⟩ := nsC
 have fC3 : H' C = none := u3.free C oC gC fC1 (by simp)
 have gC3 := u3.keep C oC gC fC1 nC (by simp)
 have covC := cov C oC gC (by show C ∉ frs ((cxOf (CXR P w) P w K mg base N qual scope f cd A outer s H E).stack); rw [show (cxOf (CXR P w) P w K mg base N qual scope f cd A outer s H E).stack = env :: outer by rw [← hX]; rfl]; exact nC)
 obtain ⟨uC, bC⟩ := covC
 have frA : (A.deeper env).frames = some (env :: outer) := by have := I2.ok.frames; rw [← hX]; exact this
 have fl : Heap.FlyingW B (env :: outer) e (.ref Cc) a0 s3.heap := by rw [← hX]; exact fl
 have enf : noteFrame (.ref e) (blk (cxOf (CXR P w) P w K mg base N qual scope f cd A outer s H E) N' sc C s2 H2 fp).env = noteFrame (.ref e) env := by rw [← hX]; rfl
 show wpAny (model P w) (A.deeper (envOfC qual scope s.heap.objs.size f cd)) (noteFrame (.ref e) (blk (cxOf (CXR P w) P w K mg base N qual scope f cd A outer s H E) N' sc C s2 H2 fp).env) _ _ s3
 rw [enf, hX]
 refine wpAny_looks_onW frA ef fl fun h1 hh up1 => ?_
 obtain ⟨hk1, hn1, hfF1, ht1⟩ := hh
 have gC1 : h1.get? C = some oC := by
  have e1 := fl.1 C uC bC
  rw [gC3] at e1
  cases e1
  exact hk1 C _ bC
 refine ⟨m, ⟨oC, es, ep, gC1, dC, rC⟩, fun h2 sb cenv _ => ?_⟩
 have bN : ∀ b, B.get? b = none → (PySem.W.hideAll B [C]).get? b = none := fun b z => by
  cases hq : (PySem.W.hideAll B [C]).get? b with
  | none => rfl
  | some o => rw [PySem.W.of_hideAll _ hq] at z; cases z
 have bS : ∀ b o, (PySem.W.hideAll B [C]).get? b = some o → b ≠ C ∧ B.get? b = some o := fun b o z => by
  refine ⟨fun y => ?_, PySem.W.of_hideAll _ z⟩
  rw [y, PySem.W.hideAll_none [C] (by simp)] at z
  cases z
 have bG : ∀ b u, B.get? b = some u → b ≠ C → (PySem.W.hideAll B [C]).get? b = some u := fun b u z y => PySem.W.hideAll_get [C] z (by simpa using y)
 have neC : ∀ b, B.get? b = none → b ≠ C := fun b z y => by rw [y, bC] at z; cases z
 have k2 : (PySem.W.hideAll B [C]).StaysIn h2 := fun b o z => by
  obtain ⟨y1, y2⟩ := bS b o z
  exact (sb.2 b y1).trans (hk1 b o y2)
 have k3 : (PySem.W.hideAll B [C]).StaysIn s3.heap := fun b o z => fl.1 b o (bS b o z).2
 have t2 : h2.TracedAtW (PySem.W.hideAll B [C]) e (.ref Cc) a0 (rawInt s.heap.objs.size) := by
  obtain ⟨oe, vs, T, oT, ts, ge, gc, gd, g1, gn, gne, gT, gdT, g3⟩ := ht1
  exact ⟨oe, vs, T, oT, ts, (sb.2 e (neC e hn1)).trans ge, gc, gd, g1, bN T gn, gne, (sb.2 T (neC T gn)).trans gT, gdT, g3⟩
 have ff2 : h2.FunFrames (PySem.W.hideAll B [C]) (env :: outer) := J5 sb bN nC hfF1
 have go : wpAny (model P w) (A.deeper env) (setFlight (.ref e) cenv.frame) (fun _ s' => (cxOf (CXR P w) P w K mg base N qual scope f cd A outer s H E).xe (.ref e) s') (cxOf (CXR P w) P w K mg base N qual scope f cd A outer s H E).xe { s3 with heap := h2 } := by
  refine UY (s := { s3 with heap := h2 }) k2 ff2 t2 fun h4 k4 ff4 t4 up4 => ?_
  show wpAny (model P w) (A.deeper (envOfC qual scope s.heap.objs.size f cd)) (leaving (envOfC qual scope s.heap.objs.size f cd) (.ref e)) _ _ _
  rw [hX]
  unfold leaving
  refine wpAny_bind (ZbG (s := { s3 with heap := h4 }) frA ff4 ef t4 k4 (bN e hn1) fun h5 ⟨k5, ff5, t5, up5⟩ => ?_)
  refine wpAny_setFlight_noneW (s := { s3 with heap := h5 }) k5 ff5 t5 fun h6 k6 ff6 t6 up6 => ?_
  have hf0 : frs (env :: outer) = s.heap.objs.size :: frs outer := List.filterMap_cons_some (f := fun (x : Env) => x.frame) ef
  have cov0 : ∀ b o, s.heap.get? b = some o → b ∉ frs outer → ∃ v, (PySem.W.hideAll B [C]).get? b = some v := fun b o hb hn => by
   obtain ⟨o2, e2⟩ := I2.base.there b o hb (by simp [cxOf])
   have lt : b < s.heap.objs.size := Heap.lt_size hb
   have nfp : b ∉ fp := fun z => by
    rcases (hf b z).2.2.2.1 with y | y
    ·exact absurd (show b ∈ ([] : List Addr) from y) (by simp)
    ·exact absurd (Nat.lt_of_lt_of_le lt y) (Nat.lt_irrefl _)
   obtain ⟨o1, e1⟩ := u1.there b o2 e2 nfp
   obtain ⟨u, hu⟩ := cov b o1 e1 (by
    show b ∉ frs ((cxOf (CXR P w) P w K mg base N qual scope f cd A outer s H E).stack)
    rw [show (cxOf (CXR P w) P w K mg base N qual scope f cd A outer s H E).stack = env :: outer by rw [← hX]; rfl, hf0]
    intro z
    rcases List.mem_cons.mp z with y | y
    ·exact absurd lt (by rw [y]; exact Nat.lt_irrefl _)
    ·exact hn y)
   exact ⟨u, bG b u hu fun y => absurd (Nat.lt_of_lt_of_le (Heap.lt_size e2) hC) (by rw [y]; exact Nat.lt_irrefl _)⟩
  refine ⟨e, Cc, H', rfl, ⟨IX.os, F.bare, ZcR IX.base I2.ok.frf (B := PySem.W.hideAll B [C]) (fun b o hb hn => ?_) k3 k6 (fun b hb o ho => ?_), Yv F.hok (fun b o hb => ?_) k3 k6, PySem.W.hideAll B [C], a0, ⟨k6, bN e hn1, ff6.2.2, t6⟩, fun b o hb hn => ?_, fun b o hb => ?_⟩, hE⟩
  ·exact cov0 b o hb hn
  ·have hb' : b ∈ frs (env :: outer) := by rw [hf0]; exact List.mem_cons_of_mem _ hb
   have bc : b ≠ C := fun z => nC (by rw [← z]; exact hb')
   obtain ⟨_, o3, ho3, nf⟩ := fl.2.2.1.mem hb'
   rw [ho] at ho3
   cases ho3
   obtain ⟨sl1, q1⟩ := up1 b o ho nf
   have q2 := (sb.2 b bc).trans q1
   have q4 := up4 b _ q2 nf
   obtain ⟨sl5, q5⟩ := up5 b _ q4 nf
   exact ⟨sl5, up6 b _ q5 nf⟩
  ·obtain ⟨u, hu⟩ := covT b o hb
   exact ⟨u, bG b u hu (Zj hb fC3)⟩
  ·exact cov0 b o hb hn
  ·obtain ⟨u, hu⟩ := covT b o hb
   exact ⟨u, bG b u hu (Zj hb fC3)⟩
 obtain ⟨oe, vs, T, oT, ts, ge, gc, gd, g1, gn, gne, gT, gdT, g3⟩ := t2
 unfold PySem.passOn
 refine wpAny_bind (wpAny_field (s := { s3 with heap := h2 }) ge gd g1 ?_)
 rw [if_neg (by simp)]
 first
  | exact wpAny_bind (wpAny_pure (wpAny_bind (wpAny_mono go (fun _ _ q => wpAny_throw q) fun _ _ z => z)))
  | exact wpAny_bind (wpAny_mono go (fun _ _ q => wpAny_throw q) fun _ _ z => z)
end
end L2
set_option Elab.async false
set_option linter.all false
set_option maxRecDepth 100000
namespace L2
open PySem PySem.Spec PyProof.Rows
end L2
set_option Elab.async false
set_option linter.all false
set_option maxRecDepth 100000
namespace L2
open PySem PySem.Spec PyProof.Rows
end L2
set_option Elab.async false
set_option linter.all false
set_option maxRecDepth 100000
namespace L2
open PySem PySem.Spec PyProof.Rows
end L2
set_option Elab.async false
set_option linter.all false
set_option maxRecDepth 100000
set_option maxHeartbeats 4000000
namespace PyProof.Rows.Tim
open PySem
end PyProof.Rows.Tim
namespace L2
open PySem PySem.Spec PyProof.Rows PyProof.Rows.Tim
end L2
set_option Elab.async false
set_option linter.all false
set_option maxRecDepth 100000
set_option maxHeartbeats 4000000
namespace L2
open PySem PySem.Spec PyProof.Rows
structure CompSC (X : Cx) (N' : List Str) (ts : Nat) (cap : List Nat) (scope : Scope) (zc : Str) : Prop where
 kind : scope.kind = .function
 one : (scope.names.filter fun y => y.2 == .cell) = [(zc, .cell)]
 own : scope.names.lookup zc = some .cell
 names : ∀ y ∈ scope.names, y.2 = .local → scope.names.lookup y.1 = some .local
 free : ∀ y ∈ scope.names, y.2 = .free → X.env.kindOf y.1 = some .cell ∨ X.env.kindOf y.1 = some .free
 nd : N'.Nodup
 len : N'.length = ts + cap.length
 capd : ∀ k j, cap[k]? = some j → ∃ x, N'[ts + k]? = some x ∧ X.N[j]? = some x ∧ X.env.kindOf x ≠ some .local ∧ scope.names.lookup x = some .free
end L2
set_option Elab.async false
set_option linter.all false
set_option maxRecDepth 100000
set_option maxHeartbeats 4000000
namespace L2
open PySem PySem.Spec PyProof.Rows SeqAt
def LtAt (A : Around) (s : Shared) (y x : Value) (b : Bool) : Prop :=
 ∀ (prog : Program) (w : World) (E : Value → Shared → Prop) (Q : Value → Shared → Prop), Q (.bool b) s → wpAny (model prog w) A (richCompare .Lt y x) Q E s
inductive CmpL (A : Around) (s : Shared) : List Value → List Value → Bool → Prop where
 | nn : CmpL A s [] [] false
 | nc {y : Value} {ys : List Value} : CmpL A s [] (y :: ys) true
 | cn {x : Value} {xs : List Value} : CmpL A s (x :: xs) [] false
 | eq {x y : Value} {xs ys : List Value} {r : Bool} : EqAt A s x y true → CmpL A s xs ys r → CmpL A s (x :: xs) (y :: ys) r
 | lt {x y : Value} {xs ys : List Value} {r : Bool} : EqAt A s x y false → LtAt A s x y r → CmpL A s (x :: xs) (y :: ys) r
section
open PySem.AutoSeq1 (wpAny_loadPart')
open PySem.MeetsSeq PySem.MeetsSeq2 PySem.MeetsSeq3 PySem.SeqRoads2
theorem UF (l b : Addr) (items items2 : Array Value) (n n2 : Nat) (dd dd2 : Option Addr) (sl sl2 : Array (Option Value)) (r : Bool) :
  Meets (Builtin.«tuple.__lt__» ⟨[.ref l, .ref b], []⟩)
   (fun A R s => s.heap.get? l = some { cls := .type "tuple", dict := dd, data := .seq items n, slots := sl } ∧ s.heap.get? b = some { cls := .type "tuple", dict := dd2, data := .seq items2 n2, slots := sl2 } ∧
    CmpL A.in1 s items.toList items2.toList r ∧ R (.ok (.ret (.bool r))) s) :=
 .of_wp fun prog w A R s h => by
  obtain ⟨hp, g, d, tk, os⟩ := s; obtain ⟨hl, hb, hc, h⟩ := h
  have f2 := AutoSeq1.sub_tuple_tuple
  wp_walk using wpAny_loadPart' hl, wpAny_loadPart' hb, wpAny_forIn_list _ (fun rest b s' => b.1 = none ∧ s' = ⟨hp, g, d, tk, os⟩ ∧ ∃ (vs ws : List Value), rest = vs.zip ws ∧
   CmpL A.in1 ⟨hp, g, d, tk, os⟩ vs ws r ∧ vs.length + items2.size = ws.length + items.size) _
  case turn =>
   rintro ⟨y, x⟩ rest b s' ⟨hb', rfl, vs, ws, hz, hc', hlen⟩
   cases hc' with
   | nn => cases hz
   | nc => cases hz
   | cn => cases hz
   | eq he hr =>
    rw [List.zip_cons_cons] at hz
    injection hz with hyx hrest
    injection hyx with hy hx
    subst hy hx
    simp only [List.length_cons] at hlen
    refine wpAny_bind (he prog w _ _ ?_)
    wp_walk
    exact ⟨rfl, rfl, _, _, hrest, hr, by omega⟩
   | lt he hr =>
    rw [List.zip_cons_cons] at hz
    injection hz with hyx hrest
    injection hyx with hy hx
    subst hy hx
    refine wpAny_bind (he prog w _ _ ?_)
    have hri := hr prog w
    wp_walk using hri
    exact ⟨_, rfl, h⟩
  case fin =>
   rintro ⟨b1, b2⟩ s' ⟨hb', rfl, vs, ws, hz, hc', hlen⟩
   simp only at hb'
   subst hb'
   have hv : r = decide (items.size < items2.size) := by
    cases hc' with
    | nn =>
     simp only [List.length_nil] at hlen
     exact (decide_eq_false (by omega)).symm
    | nc =>
     simp only [List.length_nil, List.length_cons] at hlen
     exact (decide_eq_true (by omega)).symm
    | cn =>
     simp only [List.length_nil, List.length_cons] at hlen
     exact (decide_eq_false (by omega)).symm
    | eq => rw [List.zip_cons_cons] at hz; cases hz
    | lt => rw [List.zip_cons_cons] at hz; cases hz
   rw [hv] at h
   wp_walk
   exact ⟨_, rfl, by simpa [Builtin.Tuple.tupleCompareSizes] using h⟩
  case h =>
   exact ⟨rfl, rfl, items.toList, items2.toList, rfl, hc, by simp; omega⟩
theorem ZaU (l b : Addr) (items items2 : Array Value) (n n2 : Nat) (dd dd2 : Option Addr) (sl sl2 : Array (Option Value)) (r : Bool) :
  ∀ (us ws : List Value) (i : Nat), items.toList.drop i = us → items2.toList.drop i = ws → i ≤ items.size → i ≤ items2.size → Meets (Builtin.«list.__eq__.loop» ⟨[.ref l, .ref b, rawInt i, rawInt 0], []⟩)
   (fun A R s => s.heap.get? l = some { cls := .type "list", dict := dd, data := .seq items n, slots := sl } ∧ s.heap.get? b = some { cls := .type "list", dict := dd2, data := .seq items2 n2, slots := sl2 } ∧
    CmpL A.in1 s us ws r ∧ R (.ok (.ret (.bool r))) s) := by
 intro us
 induction us with
 | nil =>
  intro ws i hu hw h1 h2 prog w A R s h
  obtain ⟨hp, g, d, tk, os⟩ := s; obtain ⟨hl, hb, hc, h⟩ := h
  have e1 : items.size = i := by
   have := congrArg List.length hu
   simp at this
   omega
  have hi1 : items[((i : Nat) : Int).toNat]? = none := by simp; omega
  have hr : r = decide (items.size < items2.size) := by
   have := congrArg List.length hw
   simp at this
   cases hc with
   | nn => simp at this; exact (decide_eq_false (by omega)).symm
   | nc => simp at this; exact (decide_eq_true (by omega)).symm
  rw [hr] at h
  wp_walk using wpAny_loadPart' hl, wpAny_loadPart' hb
  rw [hi1]
  cases items2[((i : Nat) : Int).toNat]? <;> wp_walk using wpAny_loadPart' hl, wpAny_loadPart' hb
  all_goals exact h
 | cons u us ih =>
  intro ws i hu hw h1 h2 prog w A R s h
  obtain ⟨hp, g, d, tk, os⟩ := s; obtain ⟨hl, hb, hc, h⟩ := h
  have lt1 : i < items.size := by
   have := congrArg List.length hu
   simp at this
   omega
  have hi1 : items[((i : Nat) : Int).toNat]? = some u := by
   have e : items.toList.drop i = items.toList[i] :: items.toList.drop (i + 1) := List.drop_eq_getElem_cons (by simpa using lt1)
   rw [hu] at e
   injection e with e1 e2
   simp [lt1] at e1 ⊢
   exact e1.symm
  have hu' : items.toList.drop (i + 1) = us := by
   have e : items.toList.drop i = items.toList[i] :: items.toList.drop (i + 1) := List.drop_eq_getElem_cons (by simpa using lt1)
   rw [hu] at e
   injection e with e1 e2
   exact e2.symm
  cases ws with
  | nil =>
   have e1 : items2.size = i := by
    have := congrArg List.length hw
    simp at this
    omega
   have hi2 : items2[((i : Nat) : Int).toNat]? = none := by simp; omega
   cases hc
   have hr : false = decide (items.size < items2.size) := (decide_eq_false (by omega)).symm
   rw [hr] at h
   wp_walk using wpAny_loadPart' hl, wpAny_loadPart' hb
   rw [hi1, hi2]
   wp_walk using wpAny_loadPart' hl, wpAny_loadPart' hb
   exact h
  | cons v ws =>
   have lt2 : i < items2.size := by
    have := congrArg List.length hw
    simp at this
    omega
   have hi2 : items2[((i : Nat) : Int).toNat]? = some v := by
    have e : items2.toList.drop i = items2.toList[i] :: items2.toList.drop (i + 1) := List.drop_eq_getElem_cons (by simpa using lt2)
    rw [hw] at e
    injection e with e1 e2
    simp [lt2] at e1 ⊢
    exact e1.symm
   have hw' : items2.toList.drop (i + 1) = ws := by
    have e : items2.toList.drop i = items2.toList[i] :: items2.toList.drop (i + 1) := List.drop_eq_getElem_cons (by simpa using lt2)
    rw [hw] at e
    injection e with e1 e2
    exact e2.symm
   have hci : ((i : Int) + 1) = ((i + 1 : Nat) : Int) := by push_cast; rfl
   wp_walk using wpAny_loadPart' hl, wpAny_loadPart' hb
   rw [hi1, hi2]
   cases hc with
   | eq he hr =>
    refine wpAny_bind (he prog w _ _ ?_)
    wp_walk
    rw [hci]
    exact ⟨plainId_quiet plain_eq_loop _, codeAny_builtin entry_eq_loop (by
     rw [Around.under_plainId plain_eq_loop _]
     exact ih ws (i + 1) hu' hw' lt1 lt2 prog w A R _ ⟨hl, hb, hr, h⟩)⟩
   | lt he hr =>
    refine wpAny_bind (he prog w _ _ ?_)
    have hri := hr prog w
    wp_walk using wpAny_loadPart' hl, wpAny_loadPart' hb
    rw [hi1, hi2]
    wp_walk using hri
    exact h
theorem ZaX (l b : Addr) (items items2 : Array Value) (n n2 : Nat) (dd dd2 : Option Addr) (sl sl2 : Array (Option Value)) (r : Bool) :
  Meets (Builtin.«list.__lt__» ⟨[.ref l, .ref b], []⟩)
   (fun A R s => s.heap.get? l = some { cls := .type "list", dict := dd, data := .seq items n, slots := sl } ∧ s.heap.get? b = some { cls := .type "list", dict := dd2, data := .seq items2 n2, slots := sl2 } ∧
    CmpL A.in1 s items.toList items2.toList r ∧ R (.ok (.ret (.bool r))) s) := by
 intro prog w A R s h
 obtain ⟨hp, g, d, tk, os⟩ := s; obtain ⟨hl, hb, hc, h⟩ := h
 have f3 := AutoSeq1.sub_list_list
 wp_walk using wpAny_loadPart' hl, wpAny_loadPart' hb
 exact ⟨plainId_quiet plain_eq_loop _, codeAny_builtin entry_eq_loop (by
  rw [Around.under_plainId plain_eq_loop _]
  exact ZaU l b items items2 n n2 dd dd2 sl sl2 r _ _ 0 rfl rfl (Nat.zero_le _) (Nat.zero_le _) prog w A R _ ⟨hl, hb, hc, h⟩)⟩
end
section
variable {A : Around} {s : Shared}
theorem LtAt.tuples {l b : Addr} {items items2 : Array Value} {r : Bool} (hl : IsTup s.heap l items) (hb : IsTup s.heap b items2) (hu : A.units < cLine) (hc : CmpL A.in1 s items.toList items2.toList r) : LtAt A s (.ref l) (.ref b) r := fun prog w E Q h => by
 obtain ⟨⟨cls, dd, data, sl⟩, ho, hc1, n, hd⟩ := id hl
 obtain ⟨⟨cls2, dd2, data2, sl2⟩, ho2, hc2, n2, hd2⟩ := id hb
 simp only at hc1 hd hc2 hd2
 subst hc1 hd hc2 hd2
 exact richCompare_meets_room (op := .Lt) ⟨_, ho, rfl⟩ ⟨_, ho2, rfl⟩ PySem.F.slot_tuple_lt PySem.F.entry_tuple_lt (PySem.F.args_tuple_lt_2 _ _) (UF l b items items2 n n2 dd dd2 sl sl2 r)
  ⟨ho, ho2, hc, show Value.bool r ≠ Value.notImplemented ∧ Q (.bool r) s from ⟨(fun x => nomatch x), h⟩⟩ hu
theorem LtAt.lists {l b : Addr} {items items2 : Array Value} {r : Bool} (hl : s.heap.IsList l items) (hb : s.heap.IsList b items2) (hu : A.units < cLine) (hc : CmpL A.in1 s items.toList items2.toList r) : LtAt A s (.ref l) (.ref b) r := fun prog w E Q h => by
 obtain ⟨⟨cls, dd, data, sl⟩, ho, hc1, n, hd⟩ := id hl
 obtain ⟨⟨cls2, dd2, data2, sl2⟩, ho2, hc2, n2, hd2⟩ := id hb
 simp only at hc1 hd hc2 hd2
 subst hc1 hd hc2 hd2
 exact richCompare_meets_room (op := .Lt) ⟨_, ho, rfl⟩ ⟨_, ho2, rfl⟩ PySem.F.slot_list_lt PySem.F.entry_list_lt (PySem.F.args_list_lt_2 _ _) (ZaX l b items items2 n n2 dd dd2 sl sl2 r)
  ⟨ho, ho2, hc, show Value.bool r ≠ Value.notImplemented ∧ Q (.bool r) s from ⟨(fun x => nomatch x), h⟩⟩ hu
theorem LtAt.int (a : Int) (t : Tok) (c : Int) (u : Tok) : LtAt A s (.int a t) (.int c u) (decide (a < c)) := fun prog w E Q h => HT.rcLt_int A s a t c u prog w E Q h
theorem CmpL.ints : ∀ {us ws : List Value} {ns ms : List Int}, IntsAre us ns → IntsAre ws ms → CmpL A s us ws (HT.lexLt ns ms)
 | _, _, _, _, .nil, .nil => .nn
 | _, _, _, _, .nil, .cons _ _ _ => .nc
 | _, _, _, _, .cons _ _ _, .nil => .cn
 | _, _, _, _, .cons a t h1, .cons c u h2 => by
  rw [HT.lexLt_cons]
  by_cases e : a = c
  ·rw [if_pos e]
   refine .eq ?_ (CmpL.ints h1 h2)
   have := EqAt.int_int (A := A) (s := s) a t c u
   rw [beq_iff_eq.mpr e] at this
   exact this
  ·rw [if_neg e]
   refine .lt ?_ (LtAt.int a t c u)
   have := EqAt.int_int (A := A) (s := s) a t c u
   rw [beq_eq_false_iff_ne.mpr e] at this
   exact this
end
end L2
set_option Elab.async false
set_option linter.all false
set_option maxRecDepth 100000
namespace L2
open PySem PySem.Spec PyProof.Rows
theorem Ua (prog : Program) (w : World) {i l : Addr} (its : Array Value) (hne : l ≠ i) : Src prog w i l its.size (fun k => its.getD k .none) (fun k h => h.IsListIter i l k ∧ h.IsList l its) where
 here := fun k h ⟨⟨o, ho, _⟩, _⟩ => ⟨o, ho⟩
 stay := fun k h h' ⟨a, b⟩ st => ⟨a.at fun o q => st i (.inl rfl) o q, b.at fun o q => st l (.inr rfl) o q⟩
 item := fun A k s Q E hk ⟨hi, ht⟩ q => wpAny_nextOf_list_item hi ht (show its[k]? = some (its.getD k .none) by simp [hk]) fun h' a b => q h' ⟨a, ht.extBut b.extBut hne⟩ b
 stop := fun A s Q E hh ⟨hi, ht⟩ q => wpAny_nextOf_list_end hh hi ht (by simp) fun h' e a b => q h' e a b
abbrev zu2 (h : Heap) (l1 l2 : Addr) : Heap := (zt1 h l1).push { cls := .type "list_iterator", data := .fields #[.ref l2, .int 0 0] }
abbrev zu3 (h : Heap) (l1 l2 : Addr) : Heap := (zu2 h l1 l2).push { cls := .type "tuple", data := .seq #[.ref h.objs.size, .ref (zt1 h l1).objs.size] }
abbrev zu4 (h : Heap) (l1 l2 : Addr) : Heap := (zu3 h l1 l2).push { cls := .type "tuple", data := .seq #[.none, .none] }
abbrev zu5 (h : Heap) (l1 l2 : Addr) : Heap := (zu4 h l1 l2).push { cls := .type "zip", data := .fields #[.none, .bool false, .bool false, .ref (zu2 h l1 l2).objs.size, .ref (zu3 h l1 l2).objs.size] }
theorem ZcO (l1 l2 : Addr) (xs ys : Array Value) : Meets (Builtin.«zip.__new__» ⟨[.type "zip", .ref l1, .ref l2], []⟩) (fun _ R s => IsTup s.heap l1 xs ∧ s.heap.IsList l2 ys ∧ R (.ok (.ret (.ref (zu4 s.heap l1 l2).objs.size))) { s with heap := zu5 s.heap l1 l2 }) :=
 .of_wp fun prog w A R s h => by
  obtain ⟨hp, gg, d, tk, os⟩ := s
  obtain ⟨t1, t2, h⟩ := h
  have hsub := sub_zip
  have T1 : IsTup (Shared.heap ⟨hp, gg, d, tk, os⟩) l1 xs := t1
  have T2 : (Shared.heap ⟨hp.push { cls := .type "tuple_iterator", data := .fields #[.ref l1, .int 0 0] }, gg, d, tk, os⟩).IsList l2 ys := t2.at fun o e => Heap.get?_push_of_some _ e
  wp_walk using iter_tuple T1, wpAny_pyIter_list T2
  exact ⟨_, rfl, h⟩
theorem ZcC {prog : Program} {w : World} {A : Around} {E : Value → Shared → Prop} {s : Shared} {l1 l2 : Addr} {xs ys : Array Value} {Q : Value → Shared → Prop} (t1 : IsTup s.heap l1 xs) (t2 : s.heap.IsList l2 ys)
    (q : ∀ h', IsZip h' (s.heap.objs.size + 4) (s.heap.objs.size + 2) (s.heap.objs.size + 3) .none → IsPair h' (s.heap.objs.size + 2) (.ref s.heap.objs.size) (.ref (s.heap.objs.size + 1)) → IsPair h' (s.heap.objs.size + 3) .none .none →
      IsTupIter h' s.heap.objs.size l1 0 → h'.IsListIter (s.heap.objs.size + 1) l2 0 → (∀ c o, s.heap.get? c = some o → h'.get? c = some o) → Q (.ref (s.heap.objs.size + 4)) { s with heap := h' }) :
    wpAny (model prog w) A (call (.type "zip") [.ref l1, .ref l2]) Q E s := by
  refine callType_new F.called_zip (by decide) (F.typeCall_zip_2 _ _) (F.newCall_zip_2 _ _) (fun obj => F.args_object_init_3 obj _ _) F.entry_zip_new (ZcO l1 l2 xs ys) ⟨t1, t2, ?_⟩
  have y1 : (zt1 s.heap l1).objs.size = s.heap.objs.size + 1 := Heap.size_push ..
  have y2 : (zu2 s.heap l1 l2).objs.size = s.heap.objs.size + 2 := by rw [Heap.size_push, y1]
  have y3 : (zu3 s.heap l1 l2).objs.size = s.heap.objs.size + 3 := by rw [Heap.size_push, y2]
  have y4 : (zu4 s.heap l1 l2).objs.size = s.heap.objs.size + 4 := by rw [Heap.size_push, y3]
  have p : ∀ {h : Heap} {c : Addr} {o u : Obj}, h.get? c = some o → (h.push u).get? c = some o := fun e => Heap.get?_push_of_some _ e
  have x5 : (zu5 s.heap l1 l2).get? (zu4 s.heap l1 l2).objs.size = some _ := Heap.get?_push_size _ rfl
  have x4 : (zu5 s.heap l1 l2).get? (zu3 s.heap l1 l2).objs.size = some _ := p (Heap.get?_push_size _ rfl)
  have x3 : (zu5 s.heap l1 l2).get? (zu2 s.heap l1 l2).objs.size = some _ := p (p (Heap.get?_push_size _ rfl))
  have x2 : (zu5 s.heap l1 l2).get? (zt1 s.heap l1).objs.size = some _ := p (p (p (Heap.get?_push_size _ rfl)))
  have x1 : (zu5 s.heap l1 l2).get? s.heap.objs.size = some _ := p (p (p (p (Heap.get?_push_size _ rfl))))
  show _ ∧ _
  rw [y2, y3, y4] at x5
  rw [y1, y2] at x3
  rw [y3] at x4
  rw [y1] at x2
  rw [y4]
  exact ⟨⟨_, x5, rfl⟩, q _ x5 x3 x4 ⟨_, x1, rfl, rfl⟩ ⟨_, x2, rfl, rfl⟩ fun c o x => p (p (p (p (p x))))⟩
def ItzU (K : PySem.W.Frag) (l1 l2 : Addr) : It :=
 ⟨fun i H => ∃ xs ys x y, SqT K H l1 xs ∧ SqL K H l2 ys ∧ xs.length = ys.length ∧ xs[i]? = some x ∧ ys[i]? = some y,
  fun i H v H' => ∃ (T : Addr) (x y : V), v = .ref T ∧ H T = none ∧ H' = upd H T (.par [x, y]) ∧ ∀ xs ys, SqT K H l1 xs → SqL K H l2 ys → xs[i]? = some x ∧ ys[i]? = some y,
  fun i H => ∃ xs ys, SqT K H l1 xs ∧ SqL K H l2 ys ∧ xs.length = i ∧ ys.length = i⟩
theorem Zay {P : Program} {w : World} {K : PySem.W.Frag} {elts : List Expr} {kk : Nat} {pos : Pos} (z TI TO i1 i2 l1 l2 : Addr) (D : ZipApart z TI TO i1 i2 l1 l2) :
  Turn P w K (.Tuple elts kk pos) (ItzU K l1 l2) [z, TI, TO, i1, i2] z (fun i h => IsZip h z TI TO .none ∧ IsPair h TI (.ref i1) (.ref i2) ∧ (∃ a b, IsPair h TO a b) ∧ IsTupIter h i1 l1 i ∧ h.IsListIter i2 l2 i) where
 mem := by simp
 obj := fun i h st b hb => by
  obtain ⟨a1, a2, ⟨u, v, a3⟩, ⟨o4, h4, _, d4⟩, ⟨o5, h5, _, d5⟩⟩ := st
  simp only [List.mem_cons, List.not_mem_nil, or_false] at hb
  rcases hb with rfl | rfl | rfl | rfl | rfl
  ·exact ⟨_, a1, fun v z => by cases z⟩
  ·exact ⟨_, a2, fun v z => by cases z⟩
  ·exact ⟨_, a3, fun v z => by cases z⟩
  ·exact ⟨_, h4, fun v z => by rw [d4] at z; cases z⟩
  ·exact ⟨_, h5, fun v z => by rw [d5] at z; cases z⟩
 keep := fun i h h' st k => by
  obtain ⟨a1, a2, ⟨u, v, a3⟩, a4, a5⟩ := st
  exact ⟨k z (by simp) _ a1, k TI (by simp) _ a2, ⟨u, v, k TO (by simp) _ a3⟩, (let ⟨o, ho, r⟩ := a4; ⟨o, k i1 (by simp) o ho, r⟩), a5.at fun o q => k i2 (by simp) o q⟩
 item := by
  intro X hP hw hK hc i pins s σ H E I hf st hg
  subst hP hw hK
  obtain ⟨xs, ys, x, y, hq1, hq2, hln, hx, hy⟩ := hg
  obtain ⟨is1, rv1, pl1, hz1⟩ := I.tuple hq1
  obtain ⟨is2, rv2, pl2, hz2⟩ := I.list hq2
  obtain ⟨u, hu, ru⟩ := rv1.get hx
  obtain ⟨v, hv, rv⟩ := rv2.get hy
  have hs12 : is2.toArray.size = is1.toArray.size := by
   have e1 := rv1.length
   have e2 := rv2.length
   simp only [List.size_toArray]
   omega
  have hil : i < is1.toArray.size := by
   have e1 := (List.getElem?_eq_some_iff.mp hu).1
   simp only [List.size_toArray]
   omega
  have U2 := Ua X.prog X.w is2.toArray D.l2i2
  rw [hs12] at U2
  have W := Y8 (A := X.A) (I.ok.hd hc) (Yh X.prog X.w is1.toArray D.l1i1) U2 D
  obtain ⟨a1, a2, a3, a4, a5⟩ := st
  refine W.item i s _ _ hil ⟨a1, a2, a3, ⟨a4, pl1⟩, ⟨a5, pl2.isList⟩⟩ fun T vals h' tk hP hTs hTup hmid hk => ⟨_, rfl, W.go elts kk pos i T _ _ _ hmid fun h'' st'' hk'' => ?_⟩
  have hx2 : is1.toArray.getD i .none = u := by simp [List.getD_eq_getElem?_getD, hu]
  have hy2 : is2.toArray.getD i .none = v := by simp [List.getD_eq_getElem?_getD, hv]
  rw [hx2, hy2] at hP
  subst hP
  have hTn : H T = none := I.hok.fresh hTs
  have both : ∀ b o, b ∉ [z, TO, i1, i2] → s.heap.get? b = some o → h''.get? b = some o := fun b o hb q => hk'' b o hb (hk b o hb q)
  have sub : ∀ b, b ∉ [z, TI, TO, i1, i2] → b ∉ [z, TO, i1, i2] := fun b hb hm => hb (by
   simp only [List.mem_cons, List.not_mem_nil, or_false] at hm ⊢
   rcases hm with h | h | h | h
   ·exact .inl h
   ·exact .inr (.inr (.inl h))
   ·exact .inr (.inr (.inr (.inl h)))
   ·exact .inr (.inr (.inr (.inr h))))
  have hTw : T ∉ [z, TO, i1, i2] := W.apart _ _ _ hmid
  have hTT : h''.IsTuple T #[u, v] := hTup.at fun o q => hk'' T o hTw q
  have neT : ∀ b o, s.heap.get? b = some o → b ≠ T := fun b o q => Nat.ne_of_lt (Nat.lt_of_lt_of_le (Heap.lt_size q) hTs)
  have neT' : ∀ b o, H b = some o → b ≠ T := fun b o q => Zj q hTn
  have trk : ∀ b o, H b = some o → b ∉ [z, TI, TO, i1, i2] := fun b o q hm => by
   have := (hf b hm).1
   rw [this] at q; cases q
  refine ⟨.ref T, upd H T (.par [x, y]), ?_, rfl, ⟨T, x, y, rfl, hTn, rfl, fun as bs ha hb => by rw [I.tuple_inj ha hq1, I.list_inj hb hq2]; exact ⟨hx, hy⟩⟩, ⟨st''.1, st''.2.1, st''.2.2.1, st''.2.2.2.1.1, st''.2.2.2.2.1⟩, fun b hb => ?_⟩
  ·refine (show Inv X pins σ (upd H T (.par [x, y])) { s with heap := h'', toks := tk } from ?_)
   refine I.call (g' := s.gens) (d' := s.drawn) (t' := tk) (h' := h'') (ch := [z, TI, TO, i1, i2]) ⟨fun b o q _ _ hx => both b o (sub b hx) q, fun b o q _ _ hx => ⟨o.slots, both b o (sub b hx) q⟩, fun b o q n hx => by rw [Zg (neT b o q)]; exact n, fun b o q hx => ⟨o, both b o (sub b hx) q⟩,
    fun b ys q => by rw [Zg (neT' b _ q)]; exact q, fun b o u q => by rw [Zg (neT' b _ q)]; exact q, fun b ps q => ⟨#[], by rw [Zg (neT' b _ q), q]; simp⟩⟩ (fun b o q => ?_) I.bare fun b hb => ?_
   ·by_cases hb : b = T
    ·subst hb
     rw [Zc] at q
     cases q
     exact ⟨by show 2 ≤ sizeLine; decide, [u, v], .cons ru (.cons rv .nil), hTT⟩
    ·rw [Zg hb] at q
     refine (I.hok b o q).stay (fun c ob hc' q' => both c ob ?_ q') (fun c q' => by rw [Zg (neT' c _ q')]; exact q') fun c ys q' => by rw [Zg (neT' c _ q')]; exact q'
     rcases hc' with z' | z'
     ·rw [z']; exact sub _ (trk b o q)
     ·exact sub _ (trk c _ z')
   ·obtain ⟨f0, f1, f2, f3, f4, f5⟩ := hf b hb
    exact ⟨f3, f1, f4, f5⟩
  ·have hne : b ≠ T := by
    obtain ⟨f0, _⟩ := hf b hb
    have : ∃ o, s.heap.get? b = some o := by
     obtain ⟨u', v', a3'⟩ := a3
     obtain ⟨o4, h4, _⟩ := a4
     obtain ⟨o5, h5, _⟩ := a5
     simp only [List.mem_cons, List.not_mem_nil, or_false] at hb
     rcases hb with rfl | rfl | rfl | rfl | rfl
     ·exact ⟨_, a1⟩
     ·exact ⟨_, a2⟩
     ·exact ⟨_, a3'⟩
     ·exact ⟨_, h4⟩
     ·exact ⟨_, h5⟩
    obtain ⟨o, ho⟩ := this
    exact neT b o ho
   rw [Zg hne]
   exact (hf b hb).1
 done := by
  intro X hP hw hK hc i pins s σ H E I hf st hg
  subst hP hw hK
  obtain ⟨xs, ys, hq1, hq2, hx, hy⟩ := hg
  obtain ⟨is1, rv1, pl1, hz1⟩ := I.tuple hq1
  obtain ⟨is2, rv2, pl2, hz2⟩ := I.list hq2
  have e1 := rv1.length
  have e2 := rv2.length
  have hs12 : is2.toArray.size = is1.toArray.size := by simp only [List.size_toArray]; omega
  have U2 := Ua X.prog X.w is2.toArray D.l2i2
  rw [hs12] at U2
  have W := Y8 (A := X.A) (I.ok.hd hc) (Yh X.prog X.w is1.toArray D.l1i1) U2 D
  have hn : i = is1.toArray.size := by simp only [List.size_toArray]; omega
  obtain ⟨a1, a2, a3, a4, a5⟩ := st
  rw [hn] at a4 a5
  have sub : ∀ b, b ∉ [z, TI, TO, i1, i2] → b ∉ [z, TO, i1, i2] := fun b hb hm => hb (by
   simp only [List.mem_cons, List.not_mem_nil, or_false] at hm ⊢
   rcases hm with h | h | h | h
   ·exact .inl h
   ·exact .inr (.inr (.inl h))
   ·exact .inr (.inr (.inr (.inl h)))
   ·exact .inr (.inr (.inr (.inr h))))
  refine W.done s _ _ ⟨a1, a2, a3, ⟨a4, pl1⟩, ⟨a5, pl2.isList⟩⟩ fun h' tk hk => ⟨rfl, ?_⟩
  have trk : ∀ b o, H b = some o → b ∉ [z, TI, TO, i1, i2] := fun b o q hm => by
   have := (hf b hm).1
   rw [this] at q; cases q
  refine I.call (g' := s.gens) (d' := s.drawn) (t' := tk) (h' := h') (ch := [z, TI, TO, i1, i2]) ⟨fun b o q _ _ hx => hk b o (sub b hx) q, fun b o q _ _ hx => ⟨o.slots, hk b o (sub b hx) q⟩, fun b o q n hx => n, fun b o q hx => ⟨o, hk b o (sub b hx) q⟩, fun b ys q => q, fun b o u q => q, fun b ps q => ⟨#[], by rw [q]; simp⟩⟩ (fun b o q => ?_) I.bare fun b hb => ?_
  ·refine (I.hok b o q).stay (fun c ob hc' q' => hk c ob ?_ q') (fun _ q' => q') fun _ _ q' => q'
   rcases hc' with z' | z'
   ·rw [z']; exact sub _ (trk b o q)
   ·exact sub _ (trk c _ z')
  ·obtain ⟨f0, f1, f2, f3, f4, f5⟩ := hf b hb
   exact ⟨f3, f1, f4, f5⟩
 self := fun A i s Q E st h => wpAny_pyIter_zip st.1 h
section
variable {X : Cx} {elts : List Expr} {kk : Nat} {tp : Pos}
def iZipU (K : PySem.W.Frag) (ta : TA) : TI := fun σ H R => ta σ H fun vs H1 => ∃ l1 l2, vs = [.ref l1, .ref l2] ∧ (∃ xs ys, SqT K H1 l1 xs ∧ SqL K H1 l2 ys) ∧ R (ItzU K l1 l2) H1
theorem Zac {a b : Expr} {ta : TA} {p pos : Pos} (hg : Gl X "zip") (hm : X.mg "zip" = none) (ha : PA X [a, b] ta) (hs : starEach [a, b] X.env = [(false, eval a X.env), (false, eval b X.env)] := by rfl) (hs2 : starEach [b] X.env = [(false, eval b X.env)] := by rfl) :
  PI X (.Tuple elts kk tp) (.Call (.Name "zip" p) [a, b] [] pos) (iZipU X.K ta) := by
 intro pins s σ H R I h
 refine Call_ (YE I hg hm PyProof.Rows.Boot.«zip» (PyProof.Rows.callWith_type1 (thn (ha pos pins s σ H _ I h) fun us s1 ⟨vs, H1, I1, r1, q1⟩ => ?_) (by rw [hs, hs2]) (by rw [hs2]; rfl)))
 obtain ⟨l1, l2, e, ⟨xs, ys, hq1, hq2⟩, q⟩ := q1
 subst e
 obtain ⟨u, v, rfl, ru, rv⟩ := vals2 r1
 cases ru
 cases rv
 obtain ⟨is1, rv1, pl1, hz1⟩ := I1.tuple hq1
 obtain ⟨is2, rv2, pl2, hz2⟩ := I1.list hq2
 have t1 : l1 < s1.heap.objs.size := by obtain ⟨o, ho, _⟩ := id pl1; exact Heap.lt_size ho
 have t2 : l2 < s1.heap.objs.size := by obtain ⟨o, ho, _⟩ := pl2.isList; exact Heap.lt_size ho
 have D := Jm s1.heap.objs.size l1 l2 t1 t2
 refine ZcC pl1 pl2.isList fun h' b1 b2 b3 b4 b5 hk => wpAny_pyIter_zip b1 ?_
 have I2 : Inv X pins σ H1 { s1 with heap := h' } := I1.kept (t' := s1.toks) hk
 refine ⟨s1.heap.objs.size + 4, [s1.heap.objs.size + 4, s1.heap.objs.size + 2, s1.heap.objs.size + 3, s1.heap.objs.size, s1.heap.objs.size + 1], _, _, H1, rfl, I2,
  Zay _ _ _ _ _ l1 l2 D, ⟨b1, b2, ⟨_, _, b3⟩, b4, b5⟩, fun b hb => ?_, q⟩
 have hbs : s1.heap.objs.size ≤ b := by
  simp only [List.mem_cons, List.not_mem_nil, or_false] at hb
  rcases hb with z | z | z | z | z <;> rw [z] <;> first | exact Nat.le_refl _ | exact Nat.le_add_right _ _
 exact I1.fpOk hbs (I1.hok.fresh hbs)
end
theorem ZaP {K : PySem.W.Frag} {l1 l2 : Addr} {xs zs : List V} {g : TG} {tt : TT} {ti : TC} {ys : List V} {σ : St} {H : Hp} {Q : List V → St → Hp → Prop} (hlen : xs.length = zs.length) (Pv : Nat → List V → St → Hp → Prop) (h0 : Pv 0 ys σ H)
  (hl : ∀ i ys σ H, i ≤ xs.length → Pv i ys σ H → SqT K H l1 xs ∧ SqL K H l2 zs)
  (hs : ∀ i x y T ys σ H, xs[i]? = some x → zs[i]? = some y → H T = none → Pv i ys σ H → g (.ref T) σ (upd H T (.par [x, y])) fun σ2 H2 => tt σ2 H2 fun b H3 => if b = true then ti ys σ2 H3 (Pv (i + 1)) else Pv (i + 1) ys σ2 H3)
  (hd : ∀ ys σ H, Pv xs.length ys σ H → Q ys σ H) : tNestW g tt ti (ItzU K l1 l2) ys σ H Q := by
 refine ⟨fun i m ys σ H => m = xs.length - i ∧ i ≤ xs.length ∧ Pv i ys σ H, ⟨xs.length, by simp, Nat.zero_le _, h0⟩, ?_⟩
 rintro i m ys σ H ⟨rfl, hi, p⟩
 obtain ⟨q1, q2⟩ := hl i ys σ H hi p
 by_cases hlt : i < xs.length
 ·refine .inr ⟨⟨xs, zs, xs[i], zs[i]'(by omega), q1, q2, hlen, by simp [hlt], by simp [hlen ▸ hlt]⟩, Pv (i + 1), fun ys' σ' H' p' => ⟨xs.length - (i + 1), by omega, rfl, hlt, p'⟩, fun x H' y => ?_⟩
  obtain ⟨T, a, b, e1, e2, e3, e4⟩ := y
  subst e1 e3
  obtain ⟨f1, f2⟩ := e4 xs zs q1 q2
  exact hs i a b T ys σ H f1 f2 e2 p
 ·have e : i = xs.length := by omega
  subst e
  exact .inl ⟨⟨xs, zs, q1, q2, rfl, hlen.symm⟩, hd ys σ H p⟩
end L2
set_option Elab.async false
set_option linter.all false
set_option maxRecDepth 100000
set_option maxHeartbeats 4000000
namespace L2
open PySem PySem.Spec PyProof.Rows PyProof.Rows.Tim SeqAt
section
variable {X : Cx}
theorem YF {c : String} : CallR X (.builtin "isinstance") (fun xs H Q => ∃ (a : Addr) (ys : List V) (b : Bool), xs = [.ref a, .ty c] ∧ SqT X.K H a ys ∧ PySem.W.kitOne X.K (.type "tuple") (.type c) = some b ∧ Q (.bl b) H) := by
 intro pins s σ H xs us Q I r h
 obtain ⟨a, ys, b, rfl, sq, e, q⟩ := h
 obtain ⟨u, v, rfl, ru, rv⟩ := vals2 r
 cases rv
 cases ru
 obtain ⟨its, _, ⟨o, h1, h2, _⟩, _⟩ := I.tuple sq
 exact PySem.W.kia_one PySem.W.kitx_tuple I.kIn ⟨o, h1, h2⟩ e (fun z => nomatch z) fun tk => ⟨.bl b, H, I.tok tk, rfl, q⟩
theorem YS {pins : List (Addr × Obj)} {σ : St} {H : Hp} {s : Shared} {A : Around} {a b : Addr} {xs ys : List V} (I : Inv X pins σ H s) (hu : A.units < cLine) (ha : SqT X.K H a xs) (hb : SqT X.K H b ys) (hx : xs.all niV = true) (hy : ys.all niV = true) : EqAt A s (.ref a) (.ref b) (decide (xs = ys)) := by
 by_cases e : a = b
 ·subst e
  rw [I.tuple_inj ha hb, decide_eq_true rfl]
  exact EqAt.same _
 ·obtain ⟨us, r1, p1, _⟩ := I.tuple ha
  obtain ⟨vs, r2, p2, _⟩ := I.tuple hb
  have z := RcAt.tuples (A := A) (s := s) p1 p2 hu (UR hx hy r1 r2)
  rw [ZbK r1 r2] at z
  exact EqAt.of_refs e z
theorem ar2 {u v : Value} {its : List Value} {x y : V} (r : Vals [x, y] its) (ru : ∀ w, RelV x w → w = u) (rv : ∀ w, RelV y w → w = v) : its = [u, v] := by
 cases r with
 | cons r1 r2 =>
  cases r2 with
  | cons r3 r4 =>
   cases r4
   rw [ru _ r1, rv _ r3]
def rEqP (K : PySem.W.Frag) : R2 := fun x y H Q => ∃ (a b c d c' d' : Addr) (xs ys xs' ys' : List V), x = .ref a ∧ y = .ref b ∧ SqT K H a [.ref c, .ref d] ∧ SqT K H b [.ref c', .ref d'] ∧ SqT K H c xs ∧ SqT K H d ys ∧ SqT K H c' xs' ∧ SqT K H d' ys' ∧
 xs.all niV = true ∧ ys.all niV = true ∧ xs'.all niV = true ∧ ys'.all niV = true ∧ Q (.bl (decide (xs = xs' ∧ ys = ys'))) H
theorem UO (hu : X.A.units + 1 < cLine) : OpR X (compareOp .Eq) (rEqP X.K) := by
 intro pins s σ H x y u v Q I rx ry h
 obtain ⟨a, b, c, d, c', d', xs, ys, xs', ys', rfl, rfl, ha, hb, hc, hd, hc', hd', h1, h2, h3, h4, q⟩ := h
 cases rx
 cases ry
 obtain ⟨us, r1, p1, _⟩ := I.tuple ha
 obtain ⟨vs, r2, p2, _⟩ := I.tuple hb
 obtain rfl := ar2 (u := .ref c) (v := .ref d) r1 (fun _ z => z) (fun _ z => z)
 obtain rfl := ar2 (u := .ref c') (v := .ref d') r2 (fun _ z => z) (fun _ z => z)
 refine eq_tupleAt (e := fun j => if j = 0 then decide (xs = xs') else decide (ys = ys')) p1 p2 (Nat.lt_of_succ_lt hu) (fun j h1' h2' => ?_) ?_
 ·have hj : j < 2 := h1'
  match j, hj with
  | 0, _ => exact YS I hu hc hc' h1 h3
  | 1, _ => exact YS I hu hd hd' h2 h4
 ·have e2 : ((List.range (min [Value.ref c, Value.ref d].toArray.size [Value.ref c', Value.ref d'].toArray.size)).all (fun j => if j = 0 then decide (xs = xs') else decide (ys = ys')) && [Value.ref c, Value.ref d].toArray.size == [Value.ref c', Value.ref d'].toArray.size) = decide (xs = xs' ∧ ys = ys') := by
   show ((List.range 2).all (fun j => if j = 0 then decide (xs = xs') else decide (ys = ys')) && 2 == 2) = _
   rw [Bool.eq_iff_iff]
   simp [List.range_succ]
  rw [e2]
  exact ⟨.bl _, H, I, rfl, q⟩
def KpAt (H : Hp) (v : V) (k : List Int) : Prop := ∃ (t tb tl : Addr) (wd hg : Int) (rs : List Int), v = .ref t ∧ H t = some (.tup [.ref tb, .ref tl]) ∧ H tb = some (.tup [.int wd, .int hg]) ∧ H tl = some (.tup (rs.map V.int)) ∧ k = wd :: hg :: rs
theorem KpAt.same {H H' : Hp} {v : V} {k : List Int} (h : KpAt H v k) (s : Same H H') : KpAt H' v k := by
 obtain ⟨t, tb, tl, wd, hg, rs, e, h1, h2, h3, h4⟩ := h
 exact ⟨t, tb, tl, wd, hg, rs, e, s _ _ h1, s _ _ h2, s _ _ h3, h4⟩
theorem YN (k : List Int) : lexB k k = false := by
 cases h : lexB k k with
 | false => rfl
 | true =>
  have := Je _ _ h
  exact absurd (h.symm.trans this) (by decide)
theorem KpAt.lt {pins : List (Addr × Obj)} {σ : St} {H : Hp} {s : Shared} {A : Around} {x y : V} {u v : Value} {k k' : List Int} (I : Inv X pins σ H s) (hu : A.units + 1 < cLine) (hx : KpAt H x k) (hy : KpAt H y k') (rx : RelV x u) (ry : RelV y v) : LtAt A s u v (lexB k k') := by
 obtain ⟨t, tb, tl, wd, hg, rs, rfl, h1, h2, h3, rfl⟩ := hx
 obtain ⟨t', tb', tl', wd', hg', rs', rfl, h1', h2', h3', rfl⟩ := hy
 cases rx
 cases ry
 obtain ⟨us, r1, p1, _⟩ := I.tuple (SqT.of h1)
 obtain ⟨vs, r2, p2, _⟩ := I.tuple (SqT.of h1')
 obtain rfl := ar2 (u := .ref tb) (v := .ref tl) r1 (fun _ z => z) (fun _ z => z)
 obtain rfl := ar2 (u := .ref tb') (v := .ref tl') r2 (fun _ z => z) (fun _ z => z)
 refine LtAt.tuples p1 p2 (Nat.lt_of_succ_lt hu) ?_
 have q1 := YS (A := A.in1) I hu (SqT.of h2) (SqT.of h2') (Yb [wd, hg]) (Yb [wd', hg'])
 have q2 := YS (A := A.in1) I hu (SqT.of h3) (SqT.of h3') (Yb rs) (Yb rs')
 have e1 : decide ([V.int wd, V.int hg] = [V.int wd', V.int hg']) = decide ([wd, hg] = [wd', hg']) := by simp
 have inj : ∀ {a b : List Int}, a.map V.int = b.map V.int → a = b := fun {a b} h => (by have := congrArg (List.map fun v => match v with | V.int i => i | _ => 0) h; simpa [Function.comp_def] using this)
 have e2 : decide (rs.map V.int = rs'.map V.int) = decide (rs = rs') := by
  by_cases z : rs = rs'
  ·rw [decide_eq_true z, decide_eq_true (by rw [z])]
  ·rw [decide_eq_false z, decide_eq_false (fun y => z (inj y))]
 rw [e2] at q2
 rw [e1] at q1
 rw [Uo]
 show CmpL A.in1 s [.ref tb, .ref tl] [.ref tb', .ref tl'] _
 by_cases z : [wd, hg] = [wd', hg']
 ·rw [if_pos z]
  rw [decide_eq_true z] at q1
  refine .eq q1 ?_
  by_cases z2 : rs = rs'
  ·rw [decide_eq_true z2] at q2
   rw [z2, YN]
   exact .eq q2 .nn
  ·rw [decide_eq_false z2] at q2
   obtain ⟨is1, i1, j1, _⟩ := I.tuple (SqT.of h3)
   obtain ⟨is2, i2, j2, _⟩ := I.tuple (SqT.of h3')
   have c := CmpL.ints (A := A.in1.in1) (s := s) (ZS i1) (ZS i2)
   rw [YD] at c
   exact .lt q2 (LtAt.tuples j1 j2 hu (by simpa using c))
 ·rw [if_neg z]
  rw [decide_eq_false z] at q1
  obtain ⟨is1, i1, j1, _⟩ := I.tuple (SqT.of h2)
  obtain ⟨is2, i2, j2, _⟩ := I.tuple (SqT.of h2')
  have c := CmpL.ints (A := A.in1.in1) (s := s) (ZS (ns := [wd, hg]) i1) (ZS (ns := [wd', hg']) i2)
  exact .lt q1 (LtAt.tuples j1 j2 hu (by simpa using c))
end
end L2
set_option Elab.async false
set_option linter.all false
set_option maxRecDepth 100000
set_option maxHeartbeats 4000000
namespace L2
open PySem PySem.Spec PyProof.Rows PyProof.Rows.Tim SeqAt
theorem Zb0 {X : Cx} {pins : List (Addr × Obj)} {σ : St} {H : Hp} {s : Shared} {A : Around} {XE : Value → Shared → Prop} (hd : X.calm = true → A.handled = none) (hf : A.frames = some X.stack) (I : Inv X pins σ H s) : Inv { X with A := A, xe := XE } pins σ H s :=
 ⟨⟨I.ok.mod, I.ok.kind, I.ok.glob, I.ok.blt, I.ok.above, I.ok.inj, I.ok.has, I.ok.cab, hd, hf, I.ok.stk, I.ok.exf, I.ok.bs, I.ok.bsz, I.ok.noex, I.ok.exfs, I.ok.funs, I.ok.frf⟩,
  I.os, I.bare, I.base, I.loc, I.cell, I.free, I.freeC, I.pin, I.hok, I.len⟩
section
variable {X : Cx} {pins : List (Addr × Obj)} {σ : St} {H1 : Hp} {f : Addr} {fd : FuncData} {k : Nat} {p1 : Str} {sp : Sp} {vs : List V} {ks : List (List Int)} {l it S : Addr} {R : Result → Shared → Prop}
def KeyTurn (sp : Sp) (H1 : Hp) (vs : List V) (ks : List (List Int)) : Prop := ∀ (j : Nat) v k', vs[j]? = some v → ks[j]? = some k' → ∀ H2, Same H1 H2 → ∀ Q' : VK, (∀ u H3, Same H2 H3 → KpAt H3 u k' → Q' u H3) → sp [v] H2 Q' E0
theorem Us {s : Shared} {H2 : Hp} {j : Nat} {v : V} {u : Value} {kj : List Int} {Q : Value → Shared → Prop} {E : Value → Shared → Prop} (hc : X.calm = true) (F : FnOk X.prog X.w X.K X.mg X.base CX0 k f fd [p1] sp) (hr : Room k X.A.in1) (hb : Binds X.K fd [p1] [])
  (I : Inv X pins σ H2 s) (fI : FpOk X pins H2 it) (fS : FpOk X pins H2 S) (oI : ∃ o, s.heap.get? it = some o ∧ ∀ v, o.data ≠ .cell v) (oS : ∃ o, s.heap.get? S = some o ∧ ∀ v, o.data ≠ .cell v) (turn : KeyTurn sp H1 vs ks) (sm : Same H1 H2) (hv : vs[j]? = some v) (hk : ks[j]? = some kj) (ru : RelV v u)
  (q : ∀ (z : Value) (kv : V) (H3 : Hp) (s' : Shared), Inv X pins σ H3 s' → Same H2 H3 → KpAt H3 kv kj → RelV kv z → FpOk X pins H3 it → FpOk X pins H3 S → (∀ o, s.heap.get? it = some o → s'.heap.get? it = some o) → (∀ o, s.heap.get? S = some o → s'.heap.get? S = some o) → Q z s') :
  wpAny (model X.prog X.w) X.A.in1 (call (.ref f) [u]) Q E s := by
 have hfp : ∀ b ∈ [it, S], FpOk X pins H2 b := fun b hb => by
  rcases List.mem_cons.mp hb with rfl | hb
  ·exact fI
  ·rw [List.mem_singleton.mp hb]; exact fS
 have I1 := I.pinned (fp := [it, S]) hfp fun b hb => by
  rcases List.mem_cons.mp hb with rfl | hb
  ·exact oI
  ·rw [List.mem_singleton.mp hb]; exact oS
 have I2 : Inv { X with A := X.A.in1, xe := fun _ _ => False } (pins ++ pinsAt [it, S] s.heap) σ H2 s := Zb0 (fun _ => I.ok.hd hc) I.ok.frames I1
 have r := WM (X := { X with A := X.A.in1, xe := fun _ _ => False }) (vs := [v]) (us := [u]) (dvs := []) (ds := []) (Q := fun z H3 => Same H2 H3 ∧ KpAt H3 z kj) F hr hb .nil pass0 I2 (.cons ru .nil) (turn j v kj hv hk H2 sm _ fun z H3 s3 k3 => ⟨s3, k3⟩)
 refine wpAny_mono r (fun z s' ⟨kv, H3, I3, rz, s3, k3⟩ => ?_) fun _ _ z => False.elim z
 have I4 : Inv X (pins ++ pinsAt [it, S] s.heap) σ H3 s' := Zb0 (X := { X with A := X.A.in1, xe := fun _ _ => False }) (A := X.A) (XE := X.xe) (fun h => I.ok.hd h) I.ok.frames I3
 have ki : ∀ b ∈ [it, S], ∀ o, s.heap.get? b = some o → s'.heap.get? b = some o ∧ H3 b = none := fun b hb o e =>
  let h := I4.pin (b, o) (List.mem_append_right _ (List.mem_append_right _ (ZR hb e)))
  ⟨h.1, h.2.1⟩
 obtain ⟨o1, g1, _⟩ := oI
 obtain ⟨o2, g2, _⟩ := oS
 exact q z kv H3 s' I4.unpinned s3 k3 rz ⟨(ki it (by simp) o1 g1).2, fI.2⟩ ⟨(ki S (by simp) o2 g2).2, fS.2⟩ (fun o e => (ki it (by simp) o e).1) (fun o e => (ki S (by simp) o e).1)
theorem ZaT (hc : X.calm = true) (F : FnOk X.prog X.w X.K X.mg X.base CX0 k f fd [p1] sp) (hr : Room k X.A.in1) (hb : Binds X.K fd [p1] []) (hlI : l ≠ it) (hSI : S ≠ it) (hu : X.A.units + 2 < cLine) (hl1 : H1 l = some (.lst vs)) (hlen : vs.length = ks.length) (turn : KeyTurn sp H1 vs ks)
  (hR : ∀ (i : Nat) v k' H2 u s', vs[i]? = some v → ks[i]? = some k' → (∀ k'' ∈ ks, lexB k'' k' = false) → Same H1 H2 → Inv X pins σ H2 s' → RelV v u → R (.ok (.ret u)) s') :
  ∀ (r j i : Nat) (s : Shared) (H2 : Hp) (vb ub : Value) (v kv : V) (kb : List Int) (c : Nat), vs.length - (j + 1) = r → j + 1 ≤ vs.length → Inv X pins σ H2 s → Same H1 H2 → FpOk X pins H2 it → FpOk X pins H2 S → s.heap.IsListIter it l (j + 1) →
   s.heap.get? S = some (seqObj "list" #[vb, ub] c) → vs[i]? = some v → RelV v vb → ks[i]? = some kb → RelV kv ub → KpAt H2 kv kb → (∀ (j' : Nat), j' ≤ j → ∀ k'', ks[j']? = some k'' → lexB k'' kb = false) →
   codeAny (model X.prog X.w) X.A (.builtin "min.loop" ⟨[.ref it, .ref f, .ref S], []⟩) R s := by
 have hname : (toString "min" ++ toString ".loop" : String) = "min.loop" := by decide
 intro r
 induction r with
 | zero =>
  intro j i s H2 vb ub v kv kb c hr' hj I sm fI fS hit hS hv rv hk rk ka best
  obtain ⟨its, rl, pl, _⟩ := I.list (SqL.of (sm _ _ hl1))
  have hsz : its.toArray.size = vs.length := by rw [List.size_toArray, ← rl.length]
  have W := Walks.list (prog := X.prog) (w := X.w) (A := X.A.in1) (I.ok.hd hc) it l hlI its.toArray
  refine codeAny_builtin PySem.F.entry_min_loop ?_
  rw [Around.under_plainId PySem.F.plain_min_loop _]
  show wpAny _ X.A.in1 (seqItems? (.ref S) >>= _) _ _ _
  refine wpAny_bind (wpAny_seqItems hS rfl ?_)
  show wpAny _ X.A.in1 (tryCatch (pyNext (.ref it)) _ >>= _) _ _ _
  refine wpAny_bind (wpAny_tryCatch (W.done _ _ _ ⟨by rw [hsz, show vs.length = j + 1 by omega]; exact hit, pl.isList⟩ fun h' tk' hk' => ?_))
  have I1 : Inv X pins σ H2 { s with heap := h', toks := tk' } := I.turned (it := it) (fun b o hb e => hk' b o (by simpa using hb) e) fI.1 fI.2.1 fI.2.2.2.1 fI.2.2.2.2.1 fI.2.2.2.2.2
  have hS' := hk' S _ (by simpa using hSI) hS
  show wpAny _ X.A.in1 (updateSeq S (fun _ => #[]) >>= _) _ _ _
  refine wpAny_bind ?_
  refine wpAny_updateSeq hS' rfl (wpAny_bind (wpAny_letGo (wpAny_pure ?_)))
  have I2 := I1.turned (h' := h'.update S (Obj.mapSeq fun _ => #[])) (t' := tk') (it := S) (fun b o hb e => (Heap.get?_update_other _ _ (Ne.symm hb)).trans e) fS.1 fS.2.1 fS.2.2.2.1 fS.2.2.2.2.1 fS.2.2.2.2.2
  refine hR i v kb H2 vb _ hv hk (fun k'' hk'' => ?_) sm I2 rv
  obtain ⟨j', hj', e⟩ := List.getElem_of_mem hk''
  exact best j' (by omega) k'' (by rw [← e]; simp)
 | succ r ih =>
  intro j i s H2 vb ub v kv kb c hr' hj I sm fI fS hit hS hv rv hk rk ka best
  obtain ⟨its, rl, pl, _⟩ := I.list (SqL.of (sm _ _ hl1))
  have hsz : its.toArray.size = vs.length := by rw [List.size_toArray, ← rl.length]
  have W := Walks.list (prog := X.prog) (w := X.w) (A := X.A.in1) (I.ok.hd hc) it l hlI its.toArray
  refine codeAny_builtin PySem.F.entry_min_loop ?_
  rw [Around.under_plainId PySem.F.plain_min_loop _]
  show wpAny _ X.A.in1 (seqItems? (.ref S) >>= _) _ _ _
  refine wpAny_bind (wpAny_seqItems hS rfl ?_)
  show wpAny _ X.A.in1 (tryCatch (pyNext (.ref it)) _ >>= _) _ _ _
  refine wpAny_bind (wpAny_tryCatch (W.item (j + 1) _ _ _ (by omega) ⟨hit, pl.isList⟩ fun u h' tk' hP hst' hk' => ?_))
  have hu1 : its[j + 1]? = some u := by simpa using hP
  have hlt : j + 1 < vs.length := by omega
  obtain ⟨u', hu2, ru⟩ := rl.get (i := j + 1) (x := vs[j + 1]) (by simp [hlt])
  rw [hu1] at hu2
  cases hu2
  have hvj : vs[j + 1]? = some vs[j + 1] := by simp [hlt]
  obtain ⟨kj, hkj⟩ : ∃ kj, ks[j + 1]? = some kj := ⟨ks[j + 1]'(by omega), by simp⟩
  have I1 : Inv X pins σ H2 { s with heap := h', toks := tk' } := I.turned (it := it) (fun b o hb e => hk' b o (by simpa using hb) e) fI.1 fI.2.1 fI.2.2.2.1 fI.2.2.2.2.1 fI.2.2.2.2.2
  have hS' := hk' S _ (by simpa using hSI) hS
  obtain ⟨oI, goI, coI, doI⟩ := id hst'.1
  show wpAny _ X.A.in1 (tryCatch (holding [u] (call (.ref f) [u])) _ >>= _) _ _ _
  refine wpAny_bind (wpAny_tryCatch (wpAny_holding (Us hc F hr hb I1 fI fS ⟨oI, goI, fun v z => by rw [doI] at z; cases z⟩ ⟨_, hS', fun v z => by cases z⟩ turn sm hvj hkj ru fun z kz H3 s' I3 s3 k3 rz fI3 fS3 gI gS => ?_)))
  have hS3 := gS _ hS'
  have hit3 : s'.heap.IsListIter it l (j + 1 + 1) := ⟨oI, gI _ goI, coI, doI⟩
  show wpAny _ X.A.in1 (tryCatch (holding [u, z] (richCompare .Lt z ub >>= _)) _ >>= _) _ _ _
  refine wpAny_bind (wpAny_tryCatch (wpAny_holding (wpAny_bind (KpAt.lt (A := X.A.in1) I3 hu k3 (ka.same s3) rz rk X.prog X.w _ _ ?_))))
  refine wpAny_bind (wpAny_holding (wpAny_truthy_bool ?_))
  refine wpAny_bind (wpAny_letGo (wpAny_pure ?_))
  cases hb' : lexB kj kb with
  | true =>
   simp only [if_true]
   refine wpAny_bind ?_
   refine wpAny_updateSeq hS3 rfl (wpAny_bind (wpAny_letGo ?_))
   rw [hname]
   have I4 := I3.turned (h' := s'.heap.update S (Obj.mapSeq fun _ => #[u, z])) (t' := s'.toks) (it := S) (fun b o hb e => (Heap.get?_update_other _ _ (Ne.symm hb)).trans e) fS3.1 fS3.2.1 fS3.2.2.2.1 fS3.2.2.2.2.1 fS3.2.2.2.2.2
   refine wpAny_pure ⟨plainId_quiet PySem.F.plain_min_loop _, ih (j + 1) (j + 1) _ H3 u z vs[j + 1] kz kj _ (by omega) hlt I4 (sm.trans s3) fI3 fS3 (hit3.at fun o e => (Heap.get?_update_other _ _ hSI).trans e) (get?_update_seq hS3 fun _ => #[u, z]) hvj ru hkj rz k3 fun j' hj' k'' hk'' => ?_⟩
   by_cases e : j' = j + 1
   ·subst e
    rw [hkj] at hk''
    cases hk''
    exact YN _
   ·exact J3 _ _ _ (Je _ _ hb') (best j' (by omega) k'' hk'')
  | false =>
   simp only [Bool.false_eq_true, if_false]
   refine wpAny_bind (wpAny_letGo ?_)
   rw [hname]
   refine wpAny_pure ⟨plainId_quiet PySem.F.plain_min_loop _, ih (j + 1) i _ H3 vb ub v kv kb c (by omega) hlt I3 (sm.trans s3) fI3 fS3 hit3 hS3 hv rv hk rk (ka.same s3) fun j' hj' k'' hk'' => ?_⟩
   by_cases e : j' = j + 1
   ·subst e
    rw [hkj] at hk''
    cases hk''
    exact hb'
   ·exact best j' (by omega) k'' hk''
end
end L2
set_option Elab.async false
set_option linter.all false
set_option maxRecDepth 100000
set_option maxHeartbeats 4000000
namespace L2
open PySem PySem.Spec PyProof.Rows PyProof.Rows.Tim SeqAt
section
variable {X : Cx} {k : Nat} {p1 y : Str} {sp : Sp} {te : TE} {e : Expr}
def tMinK (te : TE) (sp : Sp) : TE := fun σ H Q => te σ H fun v H1 => ∃ (a : Addr) (vs : List V) (ks : List (List Int)), v = .ref a ∧ H1 a = some (.lst vs) ∧ vs ≠ [] ∧ vs.length = ks.length ∧ KeyTurn sp H1 vs ks ∧
 ∀ (i : Nat) v k' H2, vs[i]? = some v → ks[i]? = some k' → (∀ k'' ∈ ks, lexB k'' k' = false) → Same H1 H2 → Q v H2
theorem Za9 {pins : List (Addr × Obj)} {σ : St} {H1 : Hp} {s : Shared} {f : Addr} {fd : FuncData} {vs : List V} {ks : List (List Int)} {l : Addr} {Q : VK} (hc : X.calm = true) (F : FnOk X.prog X.w X.K X.mg X.base CX0 k f fd [p1] sp) (hr : Room (k + 1) X.A) (hb : Binds X.K fd [p1] [])
  (I : Inv X pins σ H1 s) (hl1 : H1 l = some (.lst vs)) (hne : vs ≠ []) (hlen : vs.length = ks.length) (turn : KeyTurn sp H1 vs ks) (q : ∀ (i : Nat) v k' H2, vs[i]? = some v → ks[i]? = some k' → (∀ k'' ∈ ks, lexB k'' k' = false) → Same H1 H2 → Q v H2) :
  wpAny (model X.prog X.w) X.A (call (.builtin "min") [.ref l] [(Str.ofString "key", .ref f)]) (EP X pins σ Q) X.xe s := by
 have hname : (toString "min" ++ toString ".loop" : String) = "min.loop" := by decide
 obtain ⟨its, rl, pl, _⟩ := I.list (SqL.of hl1)
 have hls := pl.isList
 obtain ⟨ol, hol, _⟩ := id hls
 have hll : l < s.heap.objs.size := Heap.lt_size hol
 have hpos : 0 < vs.length := List.length_pos_iff.mpr hne
 refine kmk_tree PySem.F.kind_min PySem.F.plain_min PySem.F.entry_min (kmk_min_key _ _) ?_
 show wpAny _ X.A.in1 (Builtin.Builtins.bindParams "min" ["key", "default"] 0 ⟨[], [(Str.ofString "key", .ref f)]⟩ >>= _) _ _ s
 refine wpAny_bind (wpAny_of_eq (show Builtin.Builtins.bindParams "min" ["key", "default"] 0 ⟨[], [(Str.ofString "key", .ref f)]⟩ = pure [some (.ref f), none] from rfl) ?_)
 refine wpAny_bind (wpAny_pure ?_)
 refine wpAny_bind (wpAny_pyIter_list hls ?_)
 refine wpAny_bind (wpAny_newList ?_ (Nat.zero_le _))
 rw [hname]
 have hS : (s.heap.push { cls := .type "list_iterator", data := .fields #[.ref l, .int 0 0] }).objs.size = s.heap.objs.size + 1 := size_push' ..
 generalize hSn : (s.heap.push { cls := .type "list_iterator", data := .fields #[.ref l, .int 0 0] }).objs.size = S at hS
 have hlI : l ≠ s.heap.objs.size := Nat.ne_of_lt hll
 have hSI : S ≠ s.heap.objs.size := by rw [hS]; exact Nat.ne_of_gt (Nat.lt_succ_self _)
 refine wpAny_pure ⟨plainId_quiet PySem.F.plain_min_loop _, ?_⟩
 have kp : ∀ b o, s.heap.get? b = some o → ((s.heap.push { cls := .type "list_iterator", data := .fields #[.ref l, .int 0 0] }).push (seqObj "list" #[] 0)).get? b = some o := fun b o e => Heap.get?_push_of_some _ (Heap.get?_push_of_some _ e)
 have gI : ((s.heap.push { cls := .type "list_iterator", data := .fields #[.ref l, .int 0 0] }).push (seqObj "list" #[] 0)).get? s.heap.objs.size = some { cls := .type "list_iterator", data := .fields #[.ref l, .int 0 0] } :=
  Heap.get?_push_of_some _ (Heap.get?_push_size _ rfl)
 have gS : ((s.heap.push { cls := .type "list_iterator", data := .fields #[.ref l, .int 0 0] }).push (seqObj "list" #[] 0)).get? S = some (seqObj "list" #[] 0) := by rw [← hSn]; exact Heap.get?_push_size _ rfl
 have I0 : Inv X pins σ H1 { s with heap := (s.heap.push { cls := .type "list_iterator", data := .fields #[.ref l, .int 0 0] }).push (seqObj "list" #[] 0) } := I.kept (t' := s.toks) kp
 have fI : FpOk X pins H1 s.heap.objs.size := I.fpOk (Nat.le_refl _) (I.hok.fresh (Nat.le_refl _))
 have leS : s.heap.objs.size ≤ S := by rw [hS]; exact Nat.le_succ _
 have fS : FpOk X pins H1 S := I.fpOk leS (I.hok.fresh leS)
 have W := Walks.list (prog := X.prog) (w := X.w) (A := X.A.in1) (I.ok.hd hc) s.heap.objs.size l hlI its.toArray
 have hsz : its.toArray.size = vs.length := by rw [List.size_toArray, ← rl.length]
 refine codeAny_builtin PySem.F.entry_min_loop ?_
 rw [Around.under_plainId PySem.F.plain_min_loop _]
 show wpAny _ X.A.in1 (seqItems? (.ref S) >>= _) _ _ _
 refine wpAny_bind (wpAny_seqItems gS rfl ?_)
 show wpAny _ X.A.in1 (tryCatch (pyNext (.ref s.heap.objs.size)) _ >>= _) _ _ _
 refine wpAny_bind (wpAny_tryCatch (W.item 0 _ _ _ (by omega) ⟨⟨_, gI, rfl, rfl⟩, hls.at fun o e => kp _ _ e⟩ fun u h' tk' hP hst' hk' => ?_))
 have hu1 : its[0]? = some u := by simpa using hP
 obtain ⟨u', hu2, ru⟩ := rl.get (i := 0) (x := vs[0]) (by simp [hpos])
 rw [hu1] at hu2
 cases hu2
 have hvj : vs[0]? = some vs[0] := by simp [hpos]
 obtain ⟨kj, hkj⟩ : ∃ kj, ks[0]? = some kj := ⟨ks[0]'(by omega), by simp⟩
 have I1 : Inv X pins σ H1 { s with heap := h', toks := tk' } := Inv.turned (s := { s with heap := (s.heap.push { cls := .type "list_iterator", data := .fields #[.ref l, .int 0 0] }).push (seqObj "list" #[] 0) }) I0 (it := s.heap.objs.size) (fun b o hb e => hk' b o (by simpa using hb) e) fI.1 fI.2.1 fI.2.2.2.1 fI.2.2.2.2.1 fI.2.2.2.2.2
 have hS' := hk' S _ (by simpa using hSI) gS
 obtain ⟨oI, goI, coI, doI⟩ := id hst'.1
 show wpAny _ X.A.in1 (tryCatch (holding [u] (call (.ref f) [u])) _ >>= _) _ _ _
 refine wpAny_bind (wpAny_tryCatch (wpAny_holding (Us hc F hr.in1 hb I1 fI fS ⟨oI, goI, fun v z => by rw [doI] at z; cases z⟩ ⟨_, hS', fun v z => by cases z⟩ turn (Same.refl _) hvj hkj ru fun z kz H3 s' I3 s3 k3 rz fI3 fS3 gI gS => ?_)))
 have hS3 := gS _ hS'
 have hit3 : s'.heap.IsListIter s.heap.objs.size l (0 + 1) := ⟨oI, gI _ goI, coI, doI⟩
 have I4 := I3.turned (h' := s'.heap.update S (Obj.mapSeq fun _ => #[u, z])) (t' := s'.toks) (it := S) (fun b o hb e => (Heap.get?_update_other _ _ (Ne.symm hb)).trans e) fS3.1 fS3.2.1 fS3.2.2.2.1 fS3.2.2.2.2.1 fS3.2.2.2.2.2
 show wpAny _ X.A.in1 (updateSeq S (fun _ => #[u, z]) >>= _) _ _ _
 refine wpAny_bind ?_
 refine wpAny_updateSeq hS3 rfl ?_
 rw [hname]
 have hu : X.A.units + 2 < cLine := by have := hr.un; omega
 refine wpAny_pure ⟨plainId_quiet PySem.F.plain_min_loop _, ZaT (pins := pins) (σ := σ) hc F hr.in1 hb hlI hSI hu hl1 hlen turn (fun i v k' H2 w s' hv hk best sm I' rv => ⟨v, H2, I', rv, q i v k' H2 hv hk best sm⟩) _ 0 0 _ H3 u z vs[0] kz kj _ rfl hpos I4 s3 fI3 fS3 (hit3.at fun o e => (Heap.get?_update_other _ _ hSI).trans e) (get?_update_seq hS3 fun _ => #[u, z]) hvj ru hkj rz k3 fun j' hj' k'' hk'' => ?_⟩
 obtain rfl : j' = 0 := Nat.le_zero.mp hj'
 rw [hkj] at hk''
 cases hk''
 exact YN _
theorem Zag {p py kpos pos : Pos} (hc : X.calm = true) (hg : Gl X "min") (hm : X.mg "min" = none) (d : Def X.prog X.w X.K X.mg X.base k y [p1] sp) (hgy : Gl X y) (hr : Room (k + 1) X.A) (he : PE X e te) (hdb : (y == ("__debug__" : Str)) = false := by decide)
  (hse : starEach [e] X.env = (false, eval e X.env) :: starEach [] X.env := by rfl) (hb1 : backTo pos (starEach [e] X.env) = (false, eval e X.env) :: backTo pos (starEach [] X.env) := by rfl) (hb2 : (backTo pos (starEach [e] X.env)).any (·.1) = false := by rfl)
  (hall : (backToKw pos (keywordEach [⟨some "key", .Name y py, kpos⟩] X.env)).filterMap (·.1) = [Str.ofString "key"] := by rfl) :
  PE X (.Call (.Name "min" p) [e] [⟨some "key", .Name y py, kpos⟩] pos) (tMinK te sp) := by
 obtain ⟨f, fd, F, hmy, hk, hb⟩ := d
 intro pins s σ H Q I h
 refine wpAny_Call_Name_kw (YE I hg hm PyProof.Rows.Boot.«min» ?_ (by decide) (by decide))
 have pa : PA X [e] (tCons te tNil) := Za he Zb hse
 have pk : PK X [⟨some "key", .Name y py, kpos⟩] (tCons (tC (.ref f)) tNil) := Zci (Z5 (v := .ref f) hgy hmy rfl hdb) ZcW
 refine PyProof.Rows.callWith_kw (thn (pa pos pins s σ H (fun us H1 => match us with
  | [v] => ∃ (a : Addr) (vs : List V) (ks : List (List Int)), v = .ref a ∧ H1 a = some (.lst vs) ∧ vs ≠ [] ∧ vs.length = ks.length ∧ KeyTurn sp H1 vs ks ∧ ∀ (i : Nat) v k' H2, vs[i]? = some v → ks[i]? = some k' → (∀ k'' ∈ ks, lexB k'' k' = false) → Same H1 H2 → Q v H2
  | _ => False) I h) fun us s1 ⟨vs1, H1, I1, r1, q1⟩ => ?_) hb1 hb2
 match vs1, q1 with
 | [v], q1 =>
  obtain ⟨a, vs, ks, rfl, hq, hne, hlen, turn, q2⟩ := q1
  refine thn (pk pos pins s1 σ H1 (fun zs H2 => zs = [.ref f] ∧ H2 = H1) I1 ⟨rfl, rfl⟩) fun ws s2 ⟨zs, H2, I2, rz, e1, e2⟩ => ?_
  subst e1 e2
  obtain ⟨u, rfl, ru⟩ := vals1 r1
  obtain ⟨z, rfl, rz2⟩ := vals1 rz
  cases ru
  cases rz2
  rw [hall]
  exact Za9 hc F hr hb I2 hq hne hlen turn q2
end
def tCompXe (wi : TI) (ts : Nat) (cap : List Nat) (g : TG) (te : TE) : TE := fun σ H _ => wi σ H fun J H1 => J.go 0 H1 ∧ ∀ x H', J.yld 0 H1 x H' → g x (capSt ts cap σ) H' fun σ2 H2 => te σ2 H2 fun _ _ => False
section
variable {P : Program} {w : World} {K : PySem.W.Frag} {mg : Str → Option Value} {base : Heap} {N : List Str} {qual : Str} {scope : Scope} {f : Addr} {cd : Value} {A : Around} {outer : List Env} {s0 : Shared} {H0 : Hp} {E : XK}
theorem Wr {elt tg iter : Expr} {sc : Scope} {pos : Pos} {wi : TI} {g : TG} {te : TE} (N' : List Str) (ts : Nat) (cap : List Nat) (hi : PI (cxOf (CXR P w) P w K mg base N qual scope f cd A outer s0 H0 E) tg iter wi)
  (pg : ∀ C s2 H2 fp XE, PG (blkX (cxOf (CXR P w) P w K mg base N qual scope f cd A outer s0 H0 E) N' sc C s2 H2 fp XE) tg g)
  (pe : ∀ C s2 H2 fp XE, Passes (CXR P w) (blkX (cxOf (CXR P w) P w K mg base N qual scope f cd A outer s0 H0 E) N' sc C s2 H2 fp XE) E → PE (blkX (cxOf (CXR P w) P w K mg base N qual scope f cd A outer s0 H0 E) N' sc C s2 H2 fp XE) elt te)
  (ok : compOk (cxOf (CXR P w) P w K mg base N qual scope f cd A outer s0 H0 E).env.scope sc (cxOf (CXR P w) P w K mg base N qual scope f cd A outer s0 H0 E).N N' ts cap = true := by rfl) (h2 : ∀ g', (Comprehension.mk tg iter [] 0 :: [])[0 + 1]? = some g' → g'.is_async = 0 := by (intro g' h; cases h <;> rfl))
  (hs : ∀ x, foldedSetIterable iter (cxOf (CXR P w) P w K mg base N qual scope f cd A outer s0 H0 E).env x = pure x := by intro _; rfl) :
  PE (cxOf (CXR P w) P w K mg base N qual scope f cd A outer s0 H0 E) (.ListComp elt (⟨tg, iter, [], 0⟩ :: []) sc pos) (tCompXe wi ts cap g te) := by
 intro pins s' σ H' Q I' h
 have S := Wc ok
 rw [eval_ListComp]
 refine wpAny_comprehension_free (use := none) rfl hs (Yc fun y hy e => I'.ok.has _ (S.free y hy e)) S.kind S.names (thn (hi pins s' σ H' _ I' h) fun v s1 h1 => thn h1 fun itv s h2' => ?_)
 obtain ⟨it, fp, tn, J, H, e, I, T, st, hf, q2⟩ := h2'
 subst e
 refine wpAny_newObj_type (wpAny_newFunctionEnv S.nocell (by intro y hy; simp at hy) (fun h₁ hns₁ hsb₁ => ?_) S.kind)
 dsimp only at hns₁ hsb₁ ⊢
 generalize hH2 : s.heap.push { cls := .type "list", dict := none, data := .seq ([] : List Value).toArray } = h0 at hns₁ hsb₁ ⊢
 have hC : h0.objs.size = s.heap.objs.size + 1 := by rw [← hH2, Heap.size_push]
 have hCle : s.heap.objs.size ≤ h0.objs.size := by rw [hC]; exact Nat.le_succ _
 have neC : ∀ b o, s.heap.get? b = some o → b ≠ h0.objs.size := fun b o e => Nat.ne_of_lt (Nat.lt_of_lt_of_le (Heap.lt_size e) hCle)
 have old : ∀ b o, s.heap.get? b = some o → h₁.get? b = some o := fun b o e => hsb₁.extBut b o (neC b o e) (Heap.get?_push_of_some _ (hH2 ▸ Heap.get?_push_of_some _ e))
 have ho : ∀ b ∈ fp, ∃ o, s.heap.get? b = some o := fun b hb => let ⟨o, e, _⟩ := T.obj _ _ st b hb; ⟨o, e⟩
 have st1 : tn 0 h₁ := T.keep _ _ _ st fun b _ o e => old b o e
 have ps := passBlk (N' := N') (sc := sc) I hf hCle
 generalize hXE : compXE P w K mg base N qual scope f cd A outer s0 H0 E (blk (cxOf (CXR P w) P w K mg base N qual scope f cd A outer s0 H0 E) N' sc h0.objs.size s H fp).env h0.objs.size = XE at ps
 have I1 : Inv (blkX (cxOf (CXR P w) P w K mg base N qual scope f cd A outer s0 H0 E) N' sc h0.objs.size s H fp XE) [] (capSt ts cap σ) H { s with heap := h₁, toks := s.toks + ([] : List (Str × Value)).length } := Zdo (Zar S I hf ho hCle hns₁ old)
 have fpY : ∀ b ∈ fp, FpOk (blkX (cxOf (CXR P w) P w K mg base N qual scope f cd A outer s0 H0 E) N' sc h0.objs.size s H fp XE) [] H b := fun b hb => by
  obtain ⟨f0, f1, f2, f3, f4, f5⟩ := hf b hb
  refine ⟨f0, (I1.ok.exf b hb).1, I1.ok.exfs b hb, .inl hb, (I1.ok.exf b hb).2, fun p hp => absurd (show p ∈ ([] : List (Addr × Obj)) from hp) (by simp)⟩
 obtain ⟨go, step⟩ := q2
 refine Wa rfl T st1 ?_
 refine codeAny_loop rfl (fun n s' => s' = { s with heap := h₁, toks := s.toks + ([] : List (Str × Value)).length }) (fun n s3 e3 => ?_) 0 rfl
 subst e3
 show wpAny _ _ ((compTurn (.ListComp elt (⟨tg, iter, [], 0⟩ :: []) sc pos) 0 (.ref it) (.ref s.heap.objs.size) (blk (cxOf (CXR P w) P w K mg base N qual scope f cd A outer s0 H0 E) N' sc h0.objs.size s H fp).env).onRaise (fun x => do noteFrame x (blk (cxOf (CXR P w) P w K mg base N qual scope f cd A outer s0 H0 E) N' sc h0.objs.size s H fp).env; theTreesLotGoes x)) _ _ _
 refine wpAny_noted (wpAny_mono (E := XE) ?_ (fun _ _ q => q) fun x s4 z => by rw [← hXE] at z; exact z)
 rw [JB elt tg iter [] _ sc pos 0 (.ref it) _ _ rfl h2]
 refine wpAny_bind (wpAny_standAt (wpAny_bind ?_))
 refine wpAny_mono (T.item (blkX (cxOf (CXR P w) P w K mg base N qual scope f cd A outer s0 H0 E) N' sc h0.objs.size s H fp XE) rfl rfl rfl rfl 0 _ _ _ _ XE I1 fpY st1 go) (fun r s4 ⟨u, hr, h4⟩ => ?_) fun _ _ z => z
 subst hr
 refine wpAny_bind (wpAny_mono h4 (fun _ s5 ⟨x, H5, I5, r5, y5, st5, fr5⟩ => ?_) fun _ _ z => z)
 refine wpAny_bind (wpAny_mono (pg _ _ _ _ XE _ s5 _ H5 x u _ I5 r5 (step x H5 y5)) (fun _ s6 ⟨σ6, H6, I6, q6⟩ => ?_) fun _ _ z => z)
 refine wpAny_bind (wpAny_pure ?_)
 rw [if_pos rfl]
 show wpAny _ _ ((do let _ ← call (.builtin "list.append") [.ref s.heap.objs.size, ← eval elt (blk (cxOf (CXR P w) P w K mg base N qual scope f cd A outer s0 H0 E) N' sc h0.objs.size s H fp).env]) >>= _) _ _ _
 refine wpAny_bind (wpAny_bind (wpAny_mono (pe _ _ _ _ XE ps _ s6 σ6 H6 _ I6 q6) (fun b s7 ⟨_, H7, I7, _, q7⟩ => q7.elim) fun _ _ z => z))
end
end L2
set_option Elab.async false
set_option linter.all false
set_option maxRecDepth 100000
set_option maxHeartbeats 40000000
namespace U
open PySem L2 PyProof.Rows
def top (i : Nat) : Stmt := PySem.Challenge.pw_unlikesteps_k81_least_ones_and_own_turns.main.body.getD i (.Pass ⟨0, 0, 0, 0⟩)
structure Gs (mg : Str → Option Value) : Prop where
 isinstance : mg "isinstance" = none
 int : mg "int" = none
 bool : mg "bool" = none
 tuple : mg "tuple" = none
 list : mg "list" = none
 dict : mg "dict" = none
 len : mg "len" = none
 all : mg "all" = none
 set : mg "set" = none
 range : mg "range" = none
 max : mg "max" = none
 min : mg "min" = none
 zip : mg "zip" = none
 enumerate : mg "enumerate" = none
 longest : ∃ t, mg "LONGEST_SIDE" = some (.int 12 t)
end U
namespace U
open PySem L2 PyProof.Rows
section
theorem Zd {H : Hp} {p : Addr} {o : HO} (h : H p = none) : Same H (upd H p o) := fun b u hb => by rw [Zg (Zj hb h)]; exact hb
theorem Zbg {H H1 : Hp} {a : Addr} {o : HO} (s : Same H H1) (n : H a = none) : Same H (upd H1 a o) := fun b u e => by
 rw [Zg fun z => by rw [z, n] at e; cases e]
 exact s _ _ e
theorem ZF {D : Ends} {σ : L2.St} {H : Hp} (h : D.nx σ H) : tNext D σ H := h
theorem Zl {t u : TS} {D : Ends} {σ : L2.St} {H : Hp} (h : t { D with nx := u D } σ H) : tSeq t u D σ H := h
theorem Zr {te : TE} {g : TG} {D : Ends} {σ : L2.St} {H : Hp} (h : te σ H fun v H1 => g v σ H1 D.nx) : tAsg te g D σ H := h
theorem Zm {i : Nat} {v : V} {σ : L2.St} {H : Hp} {Q : L2.St → Hp → Prop} (h : Q (σ.set i (some v)) H) : gName i v σ H Q := h
end
end U
namespace U
open PySem L2 PyProof.Rows
section
variable {P : Program} {w : World} {K : PySem.W.Frag} {mg : Str → Option Value} {base : Heap}
abbrev sWhole : Stmt := top 19
def spWhole (K : PySem.W.Frag) : Sp := fun vs H Q _ => ∃ x, vs = [x] ∧ PlT K H x ∧ Q (.bl (whole x)) H
theorem scWhole : FnScope ["thing"] ["thing"] (defScope sWhole) := ⟨rfl, rfl, rfl, by decide +kernel, rfl, by decide +kernel, by decide +kernel⟩
theorem Zbz {f : Addr} {fd : FuncData} (F : Fun K "is_whole" "is_whole" sWhole f fd) (G : Gs mg) : FnOk P w K mg base CX0 1 f fd ["thing"] (spWhole K) := by
 refine F.ok scWhole (fun vs H Q E h => ?_) (fun cdv A outer s H vs Q E hr h => ?_)
 ·obtain ⟨x, rfl, _⟩ := h
  rfl
 ·obtain ⟨x, rfl, ⟨T, t⟩, q⟩ := h
  refine ⟨_, Zi (Zq (Z7 (Zk (Zx (c := "int")) rfl G.isinstance boot_isinstance (Za (pv 0) (Za (Zy (v := .ty "int") rfl G.int boot_int rfl) Zb)))
   (Z4 (ZcY (Zk (Zx (c := "bool")) rfl G.isinstance boot_isinstance (Za (pv 0) (Za (Zy (v := .ty "bool") rfl G.bool boot_bool rfl) Zb))))))), ?_⟩
  refine ⟨x, rfl, x, _, _, rfl, t, Zcx t, _, rfl, ?_⟩
  rw [Uu] at q
  cases e : isIntV x with
  | false => rw [e] at q; exact iteF q
  | true => rw [e] at q; exact iteT ⟨x, rfl, x, _, _, rfl, t, ZbW t, _, rfl, q⟩
abbrev sWithin : Stmt := top 20
def spWithin (K : PySem.W.Frag) : Sp := fun vs H Q _ => ∃ x a b, vs = [x, .int a, .int b] ∧ PlT K H x ∧ Q (.bl (wholeIn x a b)) H
theorem scWithin : FnScope ["thing", "least", "most"] ["thing", "least", "most"] (defScope sWithin) := ⟨rfl, rfl, rfl, by decide +kernel, rfl, by decide +kernel, by decide +kernel⟩
theorem ZaJ {f : Addr} {fd : FuncData} (F : Fun K "is_whole_within" "is_whole_within" sWithin f fd) (D1 : Def P w K mg base 1 "is_whole" ["thing"] (spWhole K)) : FnOk P w K mg base CX0 2 f fd ["thing", "least", "most"] (spWithin K) := by
 refine F.ok scWithin (fun vs H Q E h => ?_) (fun cdv A outer s H vs Q E hr h => ?_)
 ·obtain ⟨x, a, b, rfl, _⟩ := h
  rfl
 ·obtain ⟨x, a, b, rfl, t, q⟩ := h
  refine ⟨_, Zi (Zq (Z7 (Zh D1 hr (Za (pv 0) Zb)) (Z4 (Zbv ZcJ ZcJ (pv 1) (pv 0) (pv 2))))), ?_⟩
  refine ⟨x, rfl, x, rfl, t, _, rfl, ?_⟩
  cases x with
  | int i =>
   refine iteT ⟨_, rfl, _, rfl, _, _, rfl, rfl, _, rfl, ?_⟩
   have e : wholeIn (.int i) a b = (decide (a ≤ i) && decide (i ≤ b)) := rfl
   rw [e] at q
   cases e1 : decide (a ≤ i) with
   | false => rw [e1] at q; exact iteF q
   | true => rw [e1] at q; exact iteT ⟨_, rfl, _, _, rfl, rfl, q⟩
  | _ => exact iteF q
abbrev sTupOf : Stmt := top 21
def spTupOf (K : PySem.W.Frag) : Sp := fun vs H Q _ => ∃ x n, vs = [x, .int n] ∧ PlT K H x ∧ Q (.bl (match tupOf H x with | some xs => decide ((xs.length : Int) = n) | none => false)) H
theorem scTupOf : FnScope ["thing", "many"] ["thing", "many"] (defScope sTupOf) := ⟨rfl, rfl, rfl, by decide +kernel, rfl, by decide +kernel, by decide +kernel⟩
theorem ZbB {f : Addr} {fd : FuncData} (F : Fun K "is_tuple_of" "is_tuple_of" sTupOf f fd) (G : Gs mg) : FnOk P w K mg base CX0 1 f fd ["thing", "many"] (spTupOf K) := by
 refine F.ok scTupOf (fun vs H Q E h => ?_) (fun cdv A outer s H vs Q E hr h => ?_)
 ·obtain ⟨x, n, rfl, _⟩ := h
  rfl
 ·obtain ⟨x, n, rfl, ⟨T, t⟩, q⟩ := h
  refine ⟨_, Zi (Zq (Z7 (Zk (Zx (c := "tuple")) rfl G.isinstance boot_isinstance (Za (pv 0) (Za (Zy (v := .ty "tuple") rfl G.tuple boot_tuple rfl) Zb)))
   (Z4 (Z6 Z8 (Zk ZD rfl G.len boot_len (Za (pv 0) Zb)) (pv 1) (nomark _))))), ?_⟩
  refine ⟨x, rfl, x, _, _, rfl, t, Za0 t, _, rfl, ?_⟩
  cases e : tupOf H x with
  | none => rw [e] at q; exact iteF q
  | some xs =>
   rw [e] at q
   obtain ⟨a, rfl, ha⟩ := Zw e
   refine iteT ⟨_, rfl, a, xs, rfl, .inr (SqT.of ha), _, rfl, rfl, ?_⟩
   have z : decide (V.int (xs.length : Int) = V.int n) = decide ((xs.length : Int) = n) := by simp
   rw [z]
   exact q
abbrev sBoard : Stmt := top 22
def isBoardL : Option (List V) → Bool
 | some [a, b] => wholeIn a 1 12 && wholeIn b 1 12
 | _ => false
def Pl1 (K : PySem.W.Frag) (H : Hp) (x : V) : Prop := PlT K H x ∧ ∀ xs, tupOf H x = some xs → ∀ y ∈ xs, PlT K H y
def spBoard (K : PySem.W.Frag) : Sp := fun vs H Q _ => ∃ x, vs = [x] ∧ Pl1 K H x ∧ ∀ H', Same H H' → Q (.bl (isBoardL (tupOf H x))) H'
theorem scBoard : FnScope ["thing"] ["thing"] (defScope sBoard) := ⟨rfl, rfl, rfl, by decide +kernel, rfl, by decide +kernel, by decide +kernel⟩
theorem ZbF {f : Addr} {fd : FuncData} (F : Fun K "is_board" "is_board" sBoard f fd) (G : Gs mg) (D1 : Def P w K mg base 1 "is_tuple_of" ["thing", "many"] (spTupOf K)) (D2 : Def P w K mg base 2 "is_whole_within" ["thing", "least", "most"] (spWithin K)) :
  FnOk P w K mg base CX0 3 f fd ["thing"] (spBoard K) := by
 obtain ⟨tk, hL⟩ := G.longest
 refine F.ok scBoard (fun vs H Q E h => ?_) (fun cdv A outer s H vs Q E hr h => ?_)
 ·obtain ⟨x, rfl, _⟩ := h
  rfl
 ·obtain ⟨x, rfl, ⟨t, hi⟩, q⟩ := h
  refine ⟨_, Zi (Zq (Z7 (Zh D1 (hr.mono (by decide)) (Za (pv 0) (Za Zf Zb)))
   (Z4 (Zk Ye rfl G.all boot_all (Za (ZM ["side"] 1 [] (YJ (pv 0)) (fun C s H fp => pb 0) (fun C s H fp => ZQ)
    (fun C s H fp D => ZE rfl (Zh D2 (hr.mono (by decide)) (Za (pv 0) (Za Zf (Za (Z5 (v := .int 12) rfl hL ⟨_, rfl⟩) Zb)))))) Zb))))), ?_⟩
  refine ⟨x, rfl, x, 2, rfl, t, _, rfl, ?_⟩
  cases e : tupOf H x with
  | none => rw [e] at q; exact iteF (q H (Same.refl H))
  | some xs =>
   rw [e] at q
   obtain ⟨a, rfl, ha⟩ := Zw e
   show if decide ((xs.length : Int) = 2) = true then _ else _
   by_cases h2 : xs.length = 2
   ·rw [decide_eq_true (show (xs.length : Int) = 2 by omega)]
    refine iteT ⟨_, rfl, a, rfl, ⟨xs, SqT.of ha⟩, ?_⟩
    refine Yt (xs := xs) (fun i ys σ H2 => ys = (xs.take i).map (fun y => V.bl (wholeIn y 1 12)) ∧ H2 = H ∧ ∃ v, σ = [v]) ⟨rfl, rfl, none, rfl⟩ (fun i ys σ H2 _ ⟨_, e2, _⟩ => by rw [e2]; exact SqT.of ha) ?_ ?_
    ·rintro i y ys σ H2 hy ⟨rfl, rfl, v, rfl⟩
     have my : y ∈ xs := List.mem_of_getElem? hy
     refine ⟨y, rfl, y, 1, 12, rfl, hi xs e y my, ?_, ?_⟩
     ·rw [List.length_map, sizeLine_eq, List.length_take]; omega
     ·refine ⟨?_, rfl, _, rfl⟩
      rw [List.take_add_one, hy, List.map_append]
      rfl
    ·rintro ys σ H2 ⟨rfl, rfl, v, rfl⟩ p hp
     rw [List.take_length]
     refine ⟨p, xs.map (fun y => wholeIn y 1 12), rfl, ?_, ?_⟩
     ·rw [List.map_map]; exact SqL.of Zc
     ·have e3 : isBoardL (some xs) = (xs.map (fun y => wholeIn y 1 12)).all id := by
       match xs, h2 with
       | [a, b], _ => simp [isBoardL]
      rw [← e3]
      exact q _ fun b o hb => by rw [Zg (Zj hb hp)]; exact hb
   ·rw [decide_eq_false (show ¬ (xs.length : Int) = 2 by omega)]
    have e3 : isBoardL (some xs) = false := by
     match xs, h2 with
     | [], _ => rfl
     | [a], _ => rfl
     | [a, b], h => exact absurd rfl h
     | a :: b :: c :: r, _ => rfl
    rw [e3] at q
    exact iteF (q H (Same.refl H))
abbrev sCell : Stmt := top 41
def spCell (K : PySem.W.Frag) : Sp := fun vs H Q _ => ∃ (a : Addr) (ns : List Int) (k : Nat), vs = [.ref a, .int k] ∧ SqL K H a (ns.map V.int) ∧ ∀ n : Int, Q (.int n) H
theorem scCell : FnScope ["_law_script", "_law_k"] ["_law_script", "_law_k"] (defScope sCell) := ⟨rfl, rfl, rfl, by decide +kernel, rfl, by decide +kernel, by decide +kernel⟩
theorem Zcp {f : Addr} {fd : FuncData} (F : Fun K "_law_cell_at" "_law_cell_at" sCell f fd) (G : Gs mg) : FnOk P w K mg base CX0 1 f fd ["_law_script", "_law_k"] (spCell K) := by
 refine F.ok scCell (fun vs H Q E h => ?_) (fun cdv A outer s H vs Q E hr h => ?_)
 ·obtain ⟨a, ns, k, rfl, _⟩ := h
  rfl
 ·obtain ⟨a, ns, k, rfl, hs, q⟩ := h
  refine ⟨_, Ze (ZI (ZA ZdB (pv 1) (Zk ZD rfl G.len boot_len (Za (pv 0) Zb)) (nomark _)) (Zi (Zq (ZB ZJ (pv 0) (pv 1) (fun _ _ => rfl)))) Zt) (Zi (Zq Zf)), ?_⟩
  refine ⟨_, rfl, _, rfl, a, ns.map V.int, rfl, .inl hs, _, _, rfl, rfl, _, rfl, ?_⟩
  by_cases hk : k < ns.length
  ·rw [decide_eq_true (by rw [List.length_map]; omega)]
   refine iteT ⟨_, rfl, _, rfl, a, ns.map V.int, k, V.int ns[k], rfl, rfl, hs, YZ ?_, q _⟩
   rw [List.getElem?_map, List.getElem?_eq_getElem hk]
   rfl
  ·rw [decide_eq_false (by rw [List.length_map]; omega)]
   exact iteF (q 0)
def StAt (H : Hp) (p : Addr) : Prop := ∃ u v : Int, H p = some (.lst [.int u, .int v]) ∧ 0 ≤ u ∧ 0 ≤ v ∧ v < 2147483647
abbrev sState : Stmt := top 42
def spState (K : PySem.W.Frag) : Sp := fun vs H Q _ => ∃ (a : Addr) (ns : List Int) (k : Nat), vs = [.ref a, .int k] ∧ SqL K H a (ns.map V.int) ∧ ∀ p H', H p = none → Same H H' → StAt H' p → Q (.ref p) H'
theorem scState : FnScope ["_law_script", "_law_k", "_law_cell"] ["_law_script", "_law_k"] (defScope sState) := ⟨rfl, rfl, rfl, by decide +kernel, rfl, by decide +kernel, by decide +kernel⟩
theorem ZbC {f : Addr} {fd : FuncData} (F : Fun K "_law_state" "_law_state" sState f fd) (G : Gs mg) (D1 : Def P w K mg base 1 "_law_cell_at" ["_law_script", "_law_k"] (spCell K)) : FnOk P w K mg base CX0 2 f fd ["_law_script", "_law_k"] (spState K) := by
 refine F.ok scState (fun vs H Q E h => ?_) (fun cdv A outer s H vs Q E hr h => ?_)
 ·obtain ⟨a, ns, k, rfl, _⟩ := h
  rfl
 ·obtain ⟨a, ns, k, rfl, hs, q⟩ := h
  refine ⟨_, Ze (Zv (i := 2) scState.nd rfl (Or.inl rfl) (Zh D1 hr (Za (pv 0) (Za (pv 1) Zb))))
   (Zi (Zq (ZG (Za (Zk (WE rfl) rfl G.max boot_max (Za Zf (Za (Zu ZZ (pv 2) (Zu UN Zf Zf)) Zb))) (Za (Zu Y5 (pv 2) Zf) Zb))))), ?_⟩
  refine ⟨_, rfl, _, rfl, a, ns, k, rfl, hs, fun n => ?_⟩
  refine ⟨_, rfl, _, _, rfl, rfl, ⟨by decide, by decide, by decide⟩, _, _, rfl, rfl, _, _, rfl, ?_⟩
  refine ⟨_, rfl, _, _, rfl, rfl, (by show (0 : Int) < 2147483647; decide), (by show 2 ≤ sizeLine; decide), fun p hp => q p _ hp (fun b o hb => by rw [Zg (Zj hb hp)]; exact hb) ?_⟩
  refine ⟨_, _, Zc, ?_, Int.emod_nonneg _ (by decide), Int.emod_lt_of_pos _ (by decide)⟩
  split <;> omega
abbrev sTake : Stmt := top 43
def spTake : Sp := fun vs H Q _ => ∃ (p : Addr) (m : Int), vs = [.ref p, .int m] ∧ StAt H p ∧ 0 < m ∧ m < 1073741824 ∧ ∀ r o, 0 ≤ r → r < m → StAt (upd H p o) p → Q (.int r) (upd H p o)
theorem scTake : FnScope ["_law_state_here", "_law_many", "_law_found", "_law_mixed"] ["_law_state_here", "_law_many"] (defScope sTake) := ⟨rfl, rfl, rfl, by decide +kernel, rfl, by decide +kernel, by decide +kernel⟩
theorem at0 {x y : V} : atI [x, y] 0 = some x := rfl
theorem at1 {x y : V} : atI [x, y] 1 = some y := rfl
theorem Zcn {f : Addr} {fd : FuncData} (F : Fun K "_law_take" "_law_take" sTake f fd) : FnOk P w K mg base CX0 1 f fd ["_law_state_here", "_law_many"] spTake := by
 refine F.ok scTake (fun vs H Q E h => ?_) (fun cdv A outer s H vs Q E hr h => ?_)
 ·obtain ⟨p, m, rfl, _⟩ := h
  rfl
 ·obtain ⟨p, m, rfl, ⟨u, v, hp, hu, hv, hv2⟩, hm, hm2, q⟩ := h
  refine ⟨_, Ze (ZI (ZA ZdC (ZB ZJ (pv 0) Zf (fun _ _ => rfl)) (pv 1) (nomark _))
    (Ze (Zv (i := 2) scTake.nd rfl (Or.inl rfl) (Zu Y5 (ZB ZJ (pv 0) Zf (fun _ _ => rfl)) (pv 1)))
    (Ze (Yp (Zu JJ (ZB ZJ (pv 0) Zf (fun _ _ => rfl)) (pv 1)) (JQ (pv 0) Zf YH)) (Zi (Zq (pv 2))))) Zt)
   (Ze (Yp (Zu Y5 (Zu YL (Zu JY (ZB ZJ (pv 0) Zf (fun _ _ => rfl)) Zf) Zf) Zf) (JQ (pv 0) Zf YH))
   (Ze (Zv (i := 3) scTake.nd rfl (Or.inl rfl) (Zu Y5 (Zu YL (Zu YL (Zu JY (ZB ZJ (pv 0) Zf (fun _ _ => rfl)) (ZB ZJ (pv 0) Zf (fun _ _ => rfl))) (Zu JY Zf (ZB ZJ (pv 0) Zf (fun _ _ => rfl)))) Zf) Zf))
   (Ze (Zv (i := 3) scTake.nd rfl (Or.inl rfl) (Zu Y5 (Zu YL (Zu JY (pv 3) (pv 3)) (Zu JY Zf (pv 3))) Zf))
   (Zi (Zq (Zu Y5 (Zu JJ (pv 3) Zf) (pv 1))))))), ?_⟩
  have s0 := SqL.of (K := K) hp
  refine ⟨_, rfl, p, _, _, _, rfl, rfl, s0, at0, _, rfl, _, _, rfl, rfl, _, rfl, ?_⟩
  by_cases h0 : m ≤ u
  ·rw [decide_eq_true h0]
   refine iteT ?_
   refine ⟨_, rfl, p, _, _, _, rfl, rfl, s0, at0, _, rfl, _, _, rfl, rfl, hm, ?_⟩
   refine ⟨_, rfl, p, _, _, _, rfl, rfl, s0, at0, _, rfl, _, _, rfl, rfl, ⟨hm, by omega⟩, ?_⟩
   refine ⟨_, rfl, p, _, 0, 0, rfl, rfl, hp, rfl, ?_⟩
   refine ⟨_, rfl, q _ _ (Int.emod_nonneg _ (by omega)) (Int.emod_lt_of_pos _ hm) ?_⟩
   exact ⟨u / m, v, Zc, Int.ediv_nonneg hu (by omega), hv, hv2⟩
  ·rw [decide_eq_false h0]
   refine iteF ?_
   refine ⟨_, rfl, p, _, _, _, rfl, rfl, s0, at1, _, _, rfl, rfl, .inr ⟨by decide, by decide⟩, _, _, rfl, rfl, _, _, rfl, rfl, (by show (0 : Int) < 2147483647; decide), ?_⟩
   refine ⟨_, rfl, p, _, 1, 1, rfl, rfl, hp, rfl, ?_⟩
   have b1 : 0 ≤ ((v * 48271 + 29) % 2147483647) := Int.emod_nonneg _ (by decide)
   have b2 : ((v * 48271 + 29) % 2147483647) < 2147483647 := Int.emod_lt_of_pos _ (by decide)
   have s1 : SqL K (upd H p (.lst (([V.int u, V.int v] : List V).set 1 (V.int ((v * 48271 + 29) % 2147483647))))) p [.int u, .int ((v * 48271 + 29) % 2147483647)] := SqL.of Zc
   have lo : ∀ {t : Int}, 0 ≤ t → -(2 ^ 64) < t := fun h => Int.lt_of_lt_of_le (by decide) h
   have hi : ∀ {t : Int}, t < 2147483647 → t < 2 ^ 64 := fun h => Int.lt_trans h (by decide)
   refine ⟨_, rfl, p, _, _, _, rfl, rfl, s1, at1, _, rfl, p, _, _, _, rfl, rfl, s1, at1, _, _, rfl, rfl, .inl ⟨lo b1, hi b2⟩, ?_⟩
   refine ⟨_, rfl, p, _, _, _, rfl, rfl, s1, at1, _, _, rfl, rfl, .inl ⟨by decide, by decide⟩, _, _, rfl, rfl, _, _, rfl, rfl, _, _, rfl, rfl, (by show (0 : Int) < 2147483629; decide), ?_⟩
   have c1 : 0 ≤ ((((v * 48271 + 29) % 2147483647) * ((v * 48271 + 29) % 2147483647) + 39373 * ((v * 48271 + 29) % 2147483647) + 7) % 2147483629) := Int.emod_nonneg _ (by decide)
   have c2 : ((((v * 48271 + 29) % 2147483647) * ((v * 48271 + 29) % 2147483647) + 39373 * ((v * 48271 + 29) % 2147483647) + 7) % 2147483629) < 2147483647 := Int.lt_trans (Int.emod_lt_of_pos _ (by decide)) (by decide)
   refine ⟨_, rfl, _, rfl, _, _, rfl, rfl, .inl ⟨lo c1, hi c2⟩, _, rfl, _, _, rfl, rfl, .inl ⟨by decide, by decide⟩, _, _, rfl, rfl, _, _, rfl, rfl, (by show (0 : Int) < 2147483587; decide), ?_⟩
   refine ⟨_, rfl, _, _, rfl, rfl, ⟨by decide, by decide⟩, _, rfl, _, _, rfl, rfl, hm, ?_⟩
   refine q _ _ (Int.emod_nonneg _ (by omega)) (Int.emod_lt_of_pos _ hm) ?_
   exact ⟨u, _, Zc, hu, b1, b2⟩
end
end U
set_option Elab.async false
set_option linter.all false
set_option maxRecDepth 100000
set_option maxHeartbeats 40000000
namespace U
open PySem L2 PyProof.Rows
section
theorem YR (val : Nat → Int) : ∀ n, ((PyProof.Rows.firstMet val n).length = n ↔ ((List.range n).map val).Nodup)
 | 0 => by simp [PyProof.Rows.firstMet_zero]
 | n + 1 => by
  have ih := YR val n
  have le := PyProof.Rows.firstMet_length_le val n
  rw [PyProof.Rows.firstMet_succ, PyProof.Rows.step_length, PyProof.Rows.firstMet_any, List.range_succ, List.map_append]
  have e : (((List.range n).map val).any (· == val n)) = true ↔ val n ∈ (List.range n).map val := by
   rw [List.any_eq_true]
   constructor
   ·rintro ⟨x, hx, q⟩
    have : x = val n := by simpa using q
    rw [← this]; exact hx
   ·intro h; exact ⟨_, h, by simp⟩
  have nd : ((List.range n).map val ++ List.map val [n]).Nodup ↔ ((List.range n).map val).Nodup ∧ ¬ val n ∈ (List.range n).map val := by
   rw [List.nodup_append]
   constructor
   ·rintro ⟨h1, _, h3⟩
    exact ⟨h1, fun m => h3 _ m (val n) (by simp) rfl⟩
   ·rintro ⟨h1, h2⟩
    refine ⟨h1, by simp, fun a ha b hb q => h2 ?_⟩
    have hb' : b = val n := by simpa using hb
    rw [← hb', ← q]; exact ha
  rw [nd, ← ih]
  by_cases m : val n ∈ (List.range n).map val
  ·rw [if_pos (e.mpr m)]
   constructor
   ·intro h; omega
   ·rintro ⟨_, h⟩; exact absurd m h
  ·rw [if_neg (fun z => m (e.mp z))]
   constructor
   ·intro h; exact ⟨by omega, m⟩
   ·rintro ⟨h, _⟩; omega
theorem UG (ns : List Int) : setN ns = ns.length ↔ ns.Nodup := by
 unfold setN
 rw [YR]
 have e : (List.range ns.length).map (fun i => ns.getD i 0) = ns := by
  refine List.ext_getElem (by simp) fun i h1 h2 => ?_
  rw [List.getElem_map, List.getElem_range, List.getD_eq_getElem?_getD, List.getElem?_eq_getElem h2, Option.getD_some]
 rw [e]
def rowsOf (xs : List V) : List V := xs.filter fun x => !decide (x = .non)
def isLayV (wd hg : Int) : Option (List V) → Bool
 | some xs => decide ((xs.length : Int) = wd) && ((rowsOf xs).all fun r => wholeIn r 0 (hg - 1)) && decide (rowsOf xs).Nodup
 | none => false
def BoardAt (H : Hp) (x : V) (wd hg : Int) : Prop := tupOf H x = some [.int wd, .int hg] ∧ 1 ≤ wd ∧ wd ≤ 12 ∧ 1 ≤ hg ∧ hg ≤ 12
theorem BoardAt.same {H H' : Hp} {x : V} {wd hg : Int} (b : BoardAt H x wd hg) (s : Same H H') : BoardAt H' x wd hg := ⟨s.tupOf b.1, b.2⟩
theorem BoardAt.is {H : Hp} {x : V} {wd hg : Int} (b : BoardAt H x wd hg) : isBoardL (tupOf H x) = true := by
 obtain ⟨h, h1, h2, h3, h4⟩ := b
 rw [h]
 show (decide (1 ≤ wd) && decide (wd ≤ 12) && (decide (1 ≤ hg) && decide (hg ≤ 12))) = true
 simp [h1, h2, h3, h4]
theorem BoardAt.pl {K : PySem.W.Frag} {H : Hp} {x : V} {wd hg : Int} (b : BoardAt H x wd hg) : Pl1 K H x := by
 obtain ⟨a, rfl, ha⟩ := Zw b.1
 refine ⟨⟨_, .tup ha⟩, fun xs e y hy => ?_⟩
 rw [b.1] at e
 cases e
 rcases List.mem_cons.mp hy with z | hy
 ·rw [z]; exact ⟨_, .int wd⟩
 ·rw [List.mem_singleton.mp hy]; exact ⟨_, .int hg⟩
theorem Uv {xs : List V} {lo hi : Int} (h : (xs.all fun r => wholeIn r lo hi) = true) : ∃ ns : List Int, xs = ns.map V.int := by
 induction xs with
 | nil => exact ⟨[], rfl⟩
 | cons x xs ih =>
  rw [List.all_cons, Bool.and_eq_true] at h
  obtain ⟨ns, e⟩ := ih h.2
  cases x with
  | int i => exact ⟨i :: ns, by rw [e]; rfl⟩
  | _ => cases h.1
theorem Wv (ns : List Int) : (ns.map V.int).Nodup ↔ ns.Nodup := by
 induction ns with
 | nil => simp
 | cons n ns ih => rw [List.map_cons, List.nodup_cons, List.nodup_cons, ih]; simp
end
end U
namespace U
open PySem L2 PyProof.Rows
section
variable {P : Program} {w : World} {K : PySem.W.Frag} {mg : Str → Option Value} {base : Heap}
abbrev sNeedBoard : Stmt := top 23
def spNeedBoard (K : PySem.W.Frag) : Sp := fun vs H Q _ => ∃ x wd hg, vs = [x] ∧ BoardAt H x wd hg ∧ ∀ H', Same H H' → Q .non H'
theorem scNeedBoard : FnScope ["board"] ["board"] (defScope sNeedBoard) := ⟨rfl, rfl, rfl, by decide +kernel, rfl, by decide +kernel, by decide +kernel⟩
theorem WV {f : Addr} {fd : FuncData} (F : Fun K "need_board" "need_board" sNeedBoard f fd) (D1 : Def P w K mg base 3 "is_board" ["thing"] (spBoard K)) : FnOk P w K mg base CX0 4 f fd ["board"] (spNeedBoard K) := by
 refine F.ok scNeedBoard (fun vs H Q E h => ?_) (fun cdv A outer s H vs Q E hr h => ?_)
 ·obtain ⟨x, wd, hg, rfl, _⟩ := h
  rfl
 ·obtain ⟨x, wd, hg, rfl, b, q⟩ := h
  refine ⟨_, Zi (ZI (ZX (ZO (Zh D1 hr (Za (pv 0) Zb)))) Zp Zt), ?_⟩
  refine ⟨x, rfl, x, rfl, b.pl, fun H' sm => ⟨_, rfl, ?_⟩⟩
  rw [b.is]
  exact iteF (q H' sm)
abbrev sLay : Stmt := top 24
def spLay (K : PySem.W.Frag) : Sp := fun vs H Q _ => ∃ x y wd hg, vs = [x, y] ∧ BoardAt H x wd hg ∧ Pl1 K H y ∧ ∀ H', Same H H' → Q (.bl (isLayV wd hg (tupOf H y))) H'
theorem scLay : FnScope ["board", "thing", "wide", "high", "rows"] ["board", "thing"] (defScope sLay) := ⟨rfl, rfl, rfl, by decide +kernel, rfl, by decide +kernel, by decide +kernel⟩
theorem Zdf {f : Addr} {fd : FuncData} (F : Fun K "is_lay" "is_lay" sLay f fd) (G : Gs mg) (D1 : Def P w K mg base 4 "need_board" ["board"] (spNeedBoard K)) (D2 : Def P w K mg base 1 "is_tuple_of" ["thing", "many"] (spTupOf K))
  (D3 : Def P w K mg base 2 "is_whole_within" ["thing", "least", "most"] (spWithin K)) : FnOk P w K mg base CX0 5 f fd ["board", "thing"] (spLay K) := by
 refine F.ok scLay (fun vs H Q E h => ?_) (fun cdv A outer s H vs Q E hr h => ?_)
 ·obtain ⟨x, y, wd, hg, rfl, _⟩ := h
  rfl
 ·obtain ⟨x, y, wd, hg, rfl, b, ⟨ty, hy⟩, q⟩ := h
  refine ⟨_, Ze (ZU (Zh D1 hr (Za (pv 0) Zb)))
   (Ze (Yp (pv 0) (ZY rfl (Zn (ZC (i := 2) scLay.nd rfl (Or.inl rfl)) (Zn (ZC (i := 3) scLay.nd rfl (Or.inr rfl)) ZP))))
   (Ze (ZI (ZX (ZO (Zh D2 (hr.mono (by decide)) (Za (pv 1) (Za (pv 2) Zb))))) (Zi (Zq Wt)) Zt)
   (Ze (U9 ["row"] 1 [] (i := 4) scLay.nd rfl (Or.inl rfl) (YJ (pv 1)) (fun C s H fp => pb 0) (fun C s H fp => Jb (Yf (JI (pv 0)))) (fun C s H fp D => ZE rfl (pv 0)))
   (Zi (Zq (Z7 (Zk Ye rfl G.all boot_all (Za (ZM ["row", "high"] 1 [3] (Yg (pv 4)) (fun C s H fp => pb 0) (fun C s H fp => ZQ)
     (fun C s H fp D => ZE rfl (Zh D3 (hr.mono (by decide)) (Za (pv 0) (Za Zf (Za (Zu ZZ (pv 1) Zf) Zb)))))) Zb))
    (Z4 (Z6 Z8 (Zk Wj rfl G.len boot_len (Za (ZL Wi rfl G.set boot_set (Za (pv 4) Zb)) Zb)) (Zk ZD rfl G.len boot_len (Za (pv 4) Zb)) (nomark _))))))))), ?_⟩
  refine ⟨x, rfl, x, wd, hg, rfl, b, fun H1 s1 => ?_⟩
  have b1 := b.same s1
  obtain ⟨a, rfl, ha⟩ := Zw b1.1
  refine ⟨_, rfl, a, _, rfl, SqT.of ha, rfl, _, _, rfl, _, _, rfl, rfl, ?_⟩
  refine ⟨y, rfl, _, rfl, y, wd, rfl, s1.plT ty, _, rfl, ?_⟩
  cases e : tupOf H y with
  | none =>
   have e1 : tupOf H1 y = none := by
    obtain ⟨T, t⟩ := ty
    cases t with
    | tup e2 => rw [Zo e2] at e; cases e
    | lst e2 => rw [Zz, s1 _ _ e2]; rfl
    | frz e2 => rw [Zz, s1 _ _ e2]; rfl
    | dK e2 => rw [Zz, s1 _ _ e2]; rfl
    | dT e2 => rw [Zz, s1 _ _ e2]; rfl
    | _ => rfl
   rw [e1]
   rw [e] at q
   exact iteT (q H1 s1)
  | some xs =>
   have e1 := s1.tupOf e
   rw [e1]
   rw [e] at q
   obtain ⟨l, rfl, hl⟩ := Zw e1
   by_cases hw : (xs.length : Int) = wd
   ·refine (show if (!decide ((xs.length : Int) = wd)) = true then _ else _ from ?_)
    rw [decide_eq_true hw]
    refine iteF ?_
    have hwd := b.2.2.1
    have hlen : xs.length ≤ 12 := by omega
    refine ⟨_, rfl, l, rfl, ⟨xs, SqT.of hl⟩, ?_⟩
    refine Yt (xs := xs) (fun i ys σ H2 => ys = rowsOf (xs.take i) ∧ H2 = H1 ∧ ∃ v, σ = [v]) ⟨rfl, rfl, none, rfl⟩ (fun i ys σ H2 _ ⟨_, e2, _⟩ => by rw [e2]; exact SqT.of hl) ?_ ?_
    ·rintro i r ys σ H2 hr' ⟨rfl, rfl, v, rfl⟩
     have et : rowsOf (xs.take (i + 1)) = rowsOf (xs.take i) ++ (if (!decide (r = V.non)) = true then [r] else []) := by
      unfold rowsOf
      rw [List.take_add_one, hr', List.filter_append]
      cases hh : (!decide (r = V.non)) with
      | true => simp [hh]
      | false => simp [hh]
     refine ⟨r, rfl, _, rfl, ?_⟩
     cases hh : (!decide (r = V.non)) with
     | true =>
      rw [hh] at et
      refine iteT ?_
      refine ⟨r, rfl, ?_, ?_⟩
      ·have := List.length_filter_le (fun x => !decide (x = V.non)) (xs.take i)
       unfold rowsOf
       rw [sizeLine_eq]
       rw [List.length_take] at this
       omega
      ·exact ⟨by rw [et, if_pos rfl], rfl, _, rfl⟩
     | false =>
      rw [hh] at et
      exact iteF ⟨by rw [et, if_neg Bool.false_ne_true, List.append_nil], rfl, _, rfl⟩
    ·rintro ys σ H2 ⟨rfl, rfl, v, rfl⟩ p hp
     rw [List.take_length]
     have hrl : (rowsOf xs).length ≤ 12 := Nat.le_trans (List.length_filter_le _ _) hlen
     have s2 : Same H2 (upd H2 p (.lst (rowsOf xs))) := fun b o hb => by rw [Zg (Zj hb hp)]; exact hb
     refine ⟨_, rfl, p, rfl, ⟨rowsOf xs, SqL.of Zc⟩, ?_⟩
     generalize hH3 : upd H2 p (HO.lst (rowsOf xs)) = H3 at s2
     have hp3 : H3 p = some (.lst (rowsOf xs)) := by rw [← hH3]; exact Zc
     refine YW (xs := rowsOf xs) (fun i ys σ H4 => ys = ((rowsOf xs).take i).map (fun r => V.bl (wholeIn r 0 (hg - 1))) ∧ H4 = H3 ∧ ∃ v, σ = [v, some (.int hg)]) ⟨rfl, rfl, none, rfl⟩ (fun i ys σ H4 _ ⟨_, e2, _⟩ => by rw [e2]; exact SqL.of hp3) ?_ ?_
     ·rintro i r ys σ H4 hr' ⟨rfl, rfl, v, rfl⟩
      have mr : r ∈ xs := (List.mem_filter.mp (List.mem_of_getElem? hr')).1
      refine ⟨r, rfl, _, rfl, _, _, rfl, rfl, r, 0, hg - 1, rfl, (s1.trans s2).plT (hy xs e r mr), ?_, ?_⟩
      ·rw [List.length_map, sizeLine_eq, List.length_take]; omega
      ·refine ⟨?_, rfl, _, rfl⟩
       rw [List.take_add_one, hr', List.map_append]
       rfl
     ·rintro ys σ H4 ⟨rfl, rfl, v, rfl⟩ p' hp'
      rw [List.take_length]
      have s3 : ∀ o, Same H4 (upd H4 p' o) := fun o b u hb => by rw [Zg (Zj hb hp')]; exact hb
      refine ⟨p', (rowsOf xs).map (fun r => wholeIn r 0 (hg - 1)), rfl, ?_, ?_⟩
      ·rw [List.map_map]; exact SqL.of Zc
      ·have eall : ((rowsOf xs).map (fun r => wholeIn r 0 (hg - 1))).all id = (rowsOf xs).all fun r => wholeIn r 0 (hg - 1) := by rw [List.all_map]; rfl
       rw [eall]
       have elay : isLayV wd hg (some xs) = (((rowsOf xs).all fun r => wholeIn r 0 (hg - 1)) && decide (rowsOf xs).Nodup) := by
        show (decide ((xs.length : Int) = wd) && _ && _) = _
        rw [decide_eq_true hw, Bool.true_and]
       rw [elay] at q
       refine ⟨_, rfl, ?_⟩
       cases hall : ((rowsOf xs).all fun r => wholeIn r 0 (hg - 1)) with
       | false =>
        rw [hall] at q
        exact iteF (q _ (s1.trans (s2.trans (s3 _))))
       | true =>
        rw [hall, Bool.true_and] at q
        obtain ⟨ns, en⟩ := Uv hall
        have hpl : (upd H4 p' (.lst (((rowsOf xs).map (fun r => V.bl (wholeIn r 0 (hg - 1))))))) p = some (.lst (rowsOf xs)) := s3 _ _ _ hp3
        refine iteT ?_
        have hnl : ns.length = (rowsOf xs).length := by rw [en, List.length_map]
        refine ⟨_, rfl, p, ns, rfl, by rw [← en]; exact SqL.of hpl, by omega, fun q2 S hq2 => ⟨q2, S, setN ns, rfl, Zc, _, rfl, p, rowsOf xs, rfl, .inl (SqL.of ?_), rfl, ?_⟩⟩
        ·rw [Zg (Zj hpl hq2)]; exact hpl
        ·have ed : decide (V.int (setN ns : Int) = V.int ((rowsOf xs).length : Int)) = decide (rowsOf xs).Nodup := by
          rw [decide_eq_decide]
          rw [en, Wv, ← UG, List.length_map]
          constructor
          ·intro h; injection h with h; omega
          ·intro h; rw [h]
         rw [ed]
         exact q _ (s1.trans (s2.trans ((s3 _).trans fun b o hb => by rw [Zg (Zj hb hq2)]; exact hb)))
   ·refine (show if (!decide ((xs.length : Int) = wd)) = true then _ else _ from ?_)
    rw [decide_eq_false hw]
    have e3 : isLayV wd hg (some xs) = false := by
     show (decide ((xs.length : Int) = wd) && _ && _) = false
     rw [decide_eq_false hw, Bool.false_and, Bool.false_and]
    rw [e3] at q
    exact iteT (q H1 s1)
end
end U
set_option Elab.async false
set_option linter.all false
set_option maxRecDepth 100000
set_option maxHeartbeats 40000000
namespace U
open PySem L2 PyProof.Rows
section
abbrev bmV : List Value := [.type "ValueError", .type "Exception", .type "BaseException", .type "object"]
structure Exc (K : PySem.W.Frag) (mg : Str → Option Value) (n : Str) (c : Addr) : Prop where
 m : mg n = some (.ref c)
 x : PySem.W.excIn K c bmV "ValueError.__new__" = true
def BadBoard (K : PySem.W.Frag) (H : Hp) (x : V) : Prop := Pl1 K H x ∧ isBoardL (tupOf H x) = false
theorem JD {K : PySem.W.Frag} {H H1 : Hp} {y : V} (ty : PlT K H y) (s1 : Same H H1) (e : tupOf H y = none) : tupOf H1 y = none := by
 obtain ⟨T, t⟩ := ty
 cases t with
 | tup e2 => rw [Zo e2] at e; cases e
 | lst e2 => rw [Zz, s1 _ _ e2]; rfl
 | frz e2 => rw [Zz, s1 _ _ e2]; rfl
 | dK e2 => rw [Zz, s1 _ _ e2]; rfl
 | dT e2 => rw [Zz, s1 _ _ e2]; rfl
 | _ => rfl
theorem Yz {K : PySem.W.Frag} {H H1 : Hp} {y : V} (ty : PlT K H y) (s1 : Same H H1) : tupOf H1 y = tupOf H y := by
 cases e : tupOf H y with
 | none => exact JD ty s1 e
 | some xs => exact s1.tupOf e
theorem Pl1.same {K : PySem.W.Frag} {H H1 : Hp} {y : V} (p : Pl1 K H y) (s1 : Same H H1) : Pl1 K H1 y := by
 refine ⟨s1.plT p.1, fun xs e z hz => s1.plT (p.2 xs ?_ z hz)⟩
 rw [← Yz p.1 s1]; exact e
theorem BadBoard.same {K : PySem.W.Frag} {H H1 : Hp} {x : V} (b : BadBoard K H x) (s1 : Same H H1) : BadBoard K H1 x := ⟨b.1.same s1, by rw [Yz b.1.1 s1]; exact b.2⟩
end
end U
namespace U
open PySem L2 PyProof.Rows
section
variable {P : Program} {w : World} {K : PySem.W.Frag} {mg : Str → Option Value} {base : Heap} {cB cL : Addr}
def spNBx (K : PySem.W.Frag) (cB : Addr) : Sp := fun vs H _ E => ∃ x, vs = [x] ∧ BadBoard K H x ∧ ∀ e H', Same H H' → E (.ref e) (some cB) H'
theorem Wg {f : Addr} {fd : FuncData} (F : Fun K "need_board" "need_board" sNeedBoard f fd) (G : Gs mg) (X : Exc K mg "NoBoard" cB) (D1 : Def P w K mg base 3 "is_board" ["thing"] (spBoard K)) : FnOk P w K mg base (CXR P w) 4 f fd ["board"] (spNBx K cB) := by
 obtain ⟨tk, hL⟩ := G.longest
 refine F.okR scNeedBoard (fun vs H Q E h => ?_) (fun cdv A outer s H vs Q E hr h => ?_)
 ·obtain ⟨x, rfl, _⟩ := h
  rfl
 ·obtain ⟨x, rfl, b, q⟩ := h
  refine ⟨_, Zi (ZI (ZX (ZO (Zh D1 hr (Za (pv 0) Zb)))) (Zi (Ub PySem.F.excBase_ValueError X.m X.x rfl (Za (Zcj Y4 (Z5 (v := .int 12) rfl hL ⟨_, rfl⟩)) Zb))) Zt), ?_⟩
  refine ⟨x, rfl, x, rfl, b.1, fun H' sm => ⟨_, rfl, ?_⟩⟩
  rw [b.2]
  exact iteT ⟨_, rfl, by decide, 12, rfl, by decide, by decide, fun z => ⟨by show 1 ≤ sizeLine; decide, fun e => q e H' sm⟩⟩
def spLayx (K : PySem.W.Frag) (cB : Addr) : Sp := fun vs H _ E => ∃ x y, vs = [x, y] ∧ BadBoard K H x ∧ ∀ e H', Same H H' → E (.ref e) (some cB) H'
theorem Zco {f : Addr} {fd : FuncData} (F : Fun K "is_lay" "is_lay" sLay f fd) (D1 : DefR P w K mg base 4 "need_board" ["board"] (spNBx K cB)) : FnOk P w K mg base (CXR P w) 5 f fd ["board", "thing"] (spLayx K cB) := by
 refine F.okR scLay (fun vs H Q E h => ?_) (fun cdv A outer s H vs Q E hr h => ?_)
 ·obtain ⟨x, y, rfl, _⟩ := h
  rfl
 ·obtain ⟨x, y, rfl, b, q⟩ := h
  refine ⟨_, Ze (ZU (Yl D1 hr (Za (pv 0) Zb))) Zp, ?_⟩
  exact ⟨x, rfl, x, rfl, b, q⟩
abbrev sNeedLay : Stmt := top 25
def spNeedLay (K : PySem.W.Frag) : Sp := fun vs H Q _ => ∃ x y wd hg, vs = [x, y] ∧ BoardAt H x wd hg ∧ Pl1 K H y ∧ isLayV wd hg (tupOf H y) = true ∧ ∀ H', Same H H' → Q .non H'
theorem scNeedLay : FnScope ["board", "lay"] ["board", "lay"] (defScope sNeedLay) := ⟨rfl, rfl, rfl, by decide +kernel, rfl, by decide +kernel, by decide +kernel⟩
theorem UQ {f : Addr} {fd : FuncData} (F : Fun K "need_lay" "need_lay" sNeedLay f fd) (D1 : Def P w K mg base 5 "is_lay" ["board", "thing"] (spLay K)) : FnOk P w K mg base CX0 6 f fd ["board", "lay"] (spNeedLay K) := by
 refine F.ok scNeedLay (fun vs H Q E h => ?_) (fun cdv A outer s H vs Q E hr h => ?_)
 ·obtain ⟨x, y, wd, hg, rfl, _⟩ := h
  rfl
 ·obtain ⟨x, y, wd, hg, rfl, b, p, fu, q⟩ := h
  refine ⟨_, Zi (ZI (ZX (ZO (Zh D1 hr (Za (pv 0) (Za (pv 1) Zb))))) Zp Zt), ?_⟩
  refine ⟨_, rfl, _, rfl, x, y, wd, hg, rfl, b, p, fun H1 s1 => ⟨_, rfl, ?_⟩⟩
  rw [fu]
  exact iteF (q H1 s1)
def BadL (K : PySem.W.Frag) (cB cL : Addr) (H : Hp) (x y : V) (C : Addr) : Prop :=
 (C = cB ∧ BadBoard K H x) ∨ (C = cL ∧ ∃ wd hg, BoardAt H x wd hg ∧ Pl1 K H y ∧ isLayV wd hg (tupOf H y) = false)
def spNLx (K : PySem.W.Frag) (cB cL : Addr) : Sp := fun vs H _ E => ∃ x y C, vs = [x, y] ∧ BadL K cB cL H x y C ∧ ∀ e H', Same H H' → E (.ref e) (some C) H'
theorem Uf {f : Addr} {fd : FuncData} (F : Fun K "need_lay" "need_lay" sNeedLay f fd) (X : Exc K mg "NoLay" cL) (D1 : Def P w K mg base 5 "is_lay" ["board", "thing"] (spLay K)) (R1 : DefR P w K mg base 5 "is_lay" ["board", "thing"] (spLayx K cB)) : FnOk P w K mg base (CXR P w) 6 f fd ["board", "lay"] (spNLx K cB cL) := by
 refine F.okR scNeedLay (fun vs H Q E h => ?_) (fun cdv A outer s H vs Q E hr h => ?_)
 ·obtain ⟨x, y, C, rfl, _⟩ := h
  rfl
 ·obtain ⟨x, y, C, rfl, b, q⟩ := h
  rcases b with ⟨rfl, b⟩ | ⟨rfl, wd, hg, b, p, fu⟩
  ·refine ⟨_, Zi (ZI (ZX (ZO (Yl R1 hr (Za (pv 0) (Za (pv 1) Zb))))) Zp Zt), ?_⟩
   exact ⟨x, rfl, y, rfl, x, y, rfl, b, q⟩
  ·refine ⟨_, Zi (ZI (ZX (ZO (Zh D1 hr (Za (pv 0) (Za (pv 1) Zb))))) (Zi (Ub PySem.F.excBase_ValueError X.m X.x rfl (Za Y4 Zb))) Zt), ?_⟩
   refine ⟨_, rfl, _, rfl, x, y, wd, hg, rfl, b, p, fun H1 s1 => ⟨_, rfl, ?_⟩⟩
   rw [fu]
   exact iteT ⟨by show 1 ≤ sizeLine; decide, fun e => q e H1 s1⟩
end
end U
set_option Elab.async false
set_option linter.all false
set_option maxRecDepth 100000
set_option maxHeartbeats 40000000
namespace U
open PySem L2 PyProof.Rows
section
theorem StAt.same {H H' : Hp} {p : Addr} (h : StAt H p) (s : Same H H') : StAt H' p := by
 obtain ⟨u, v, e, r⟩ := h
 exact ⟨u, v, s _ _ e, r⟩
def scal : V → Bool
 | .int _ => true
 | .bl _ => true
 | .str _ => true
 | .non => true
 | _ => false
theorem Zaa {K : PySem.W.Frag} {H : Hp} : ∀ {v : V}, scal v = true → PlT K H v
 | .int i, _ => ⟨_, .int i⟩
 | .bl b, _ => ⟨_, .bl b⟩
 | .str x, _ => ⟨_, .str x⟩
 | .non, _ => ⟨_, .non⟩
end
end U
namespace U
open PySem L2 PyProof.Rows
section
variable {P : Program} {w : World} {K : PySem.W.Frag} {mg : Str → Option Value} {base : Heap}
abbrev sSame : Stmt := top 48
def spSame (R : Hp → V → V → Prop) : Sp := fun vs H Q _ => ∃ x y, vs = [x, y] ∧ R H x y ∧ ∀ H', Same H H' → Q (.bl true) H'
def R0 (_ : Hp) (x y : V) : Prop := ∃ i : Int, x = .int i ∧ y = .int i
theorem scSame : FnScope ["_law_found", "_law_due"] ["_law_found", "_law_due"] (defScope sSame) := ⟨rfl, rfl, rfl, by decide +kernel, rfl, by decide +kernel, by decide +kernel⟩
theorem ZbE {f : Addr} {fd : FuncData} (F : Fun K "_law_same" "_law_same" sSame f fd) (G : Gs mg) : FnOk P w K mg base CX0 1 f fd ["_law_found", "_law_due"] (spSame R0) := by
 refine F.ok scSame (fun vs H Q E h => ?_) (fun cdv A outer s H vs Q E hr h => ?_)
 ·obtain ⟨x, y, rfl, _⟩ := h
  rfl
 ·obtain ⟨x, y, rfl, ⟨i, rfl, rfl⟩, q⟩ := h
  refine ⟨_, Ze (ZI (ZO (Zk (W5 (a := "list") (b := "tuple")) rfl G.isinstance boot_isinstance (Za (pv 1) (Za (Zs (Za (Zy (v := .ty "list") rfl G.list boot_list rfl) (Za (Zy (v := .ty "tuple") rfl G.tuple boot_tuple rfl) Zb))) Zb)))) Zp Zt)
   (Ze (ZI (PW.pt (YI (Yf (Yr (pv 1))) (Yi (Yf (Yr (pv 0)))))) Zp Zt)
   (Zi (Zq (Z7 (Z6 Z8 (Zk (Zx (c := "bool")) rfl G.isinstance boot_isinstance (Za (pv 0) (Za (Zy (v := .ty "bool") rfl G.bool boot_bool rfl) Zb)))
     (Zk (Zx (c := "bool")) rfl G.isinstance boot_isinstance (Za (pv 1) (Za (Zy (v := .ty "bool") rfl G.bool boot_bool rfl) Zb))) (nomark _))
    (Z4 (Z6 Z8 (pv 0) (pv 1) (nomark _))))))), ?_⟩
  refine ⟨_, rfl, (by show 2 ≤ sizeLine; decide), fun t ht => ?_⟩
  have s1 := Zd (o := .tup [V.ty "list", V.ty "tuple"]) ht
  refine ⟨_, t, _, _, rfl, SqT.of Zc, .inl ⟨i, rfl, rfl⟩, (show _ = some false from rfl), _, rfl, iteF ?_⟩
  refine ⟨_, rfl, _, rfl, iteF ⟨_, rfl, _, rfl, iteF ?_⟩⟩
  refine ⟨_, rfl, _, _, _, rfl, .int i, (show _ = some false from rfl), _, rfl, _, _, _, rfl, .int i, (show _ = some false from rfl), rfl, _, rfl, ?_⟩
  refine iteT ⟨_, rfl, _, rfl, rfl, ?_⟩
  have e : decide (V.int i = V.int i) = true := decide_eq_true rfl
  rw [e]
  exact q _ s1
def RTu (R : Hp → V → V → Prop) (H : Hp) (x y : V) : Prop := ∃ (a b : Addr) (xs ys : List V), x = .ref a ∧ y = .ref b ∧ H a = some (.tup xs) ∧ H b = some (.tup ys) ∧ Paired (R H) xs ys ∧ xs.length ≤ 100
theorem Wu {R : Hp → V → V → Prop} {k : Nat} (hR : ∀ {H H' : Hp} {x y : V}, R H x y → Same H H' → R H' x y) {f : Addr} {fd : FuncData} (F : Fun K "_law_same" "_law_same" sSame f fd) (G : Gs mg) (D : Def P w K mg base k "_law_same" ["_law_found", "_law_due"] (spSame R)) :
  FnOk P w K mg base CX0 (k + 1) f fd ["_law_found", "_law_due"] (spSame (RTu R)) := by
 refine F.ok scSame (fun vs H Q E h => ?_) (fun cdv A outer s H vs Q E hr h => ?_)
 ·obtain ⟨x, y, rfl, _⟩ := h
  rfl
 ·obtain ⟨x, y, rfl, ⟨a, b, xs, ys, rfl, rfl, ha, hb, pr, hl⟩, q⟩ := h
  refine ⟨_, Ze (ZI (ZO (Zk (Yd (a := "list") (b := "tuple")) rfl G.isinstance boot_isinstance (Za (pv 1) (Za (Zs (Za (Zy (v := .ty "list") rfl G.list boot_list rfl) (Za (Zy (v := .ty "tuple") rfl G.tuple boot_tuple rfl) Zb))) Zb))))
    (Ze (ZI (PW.pt (YI (ZA Jd (Zk (Zx (c := "list")) rfl G.isinstance boot_isinstance (Za (pv 0) (Za (Zy (v := .ty "list") rfl G.list boot_list rfl) Zb))) (Zk (Zx (c := "list")) rfl G.isinstance boot_isinstance (Za (pv 1) (Za (Zy (v := .ty "list") rfl G.list boot_list rfl) Zb))) (nomark _))
      (Yi (ZA Jd (Zk (Zx (c := "tuple")) rfl G.isinstance boot_isinstance (Za (pv 0) (Za (Zy (v := .ty "tuple") rfl G.tuple boot_tuple rfl) Zb))) (Zk (Zx (c := "tuple")) rfl G.isinstance boot_isinstance (Za (pv 1) (Za (Zy (v := .ty "tuple") rfl G.tuple boot_tuple rfl) Zb))) (nomark _))))) Zp Zt)
    (Zi (Zq (Z7 (Z6 Z8 (Zk ZD rfl G.len boot_len (Za (pv 0) Zb)) (Zk ZD rfl G.len boot_len (Za (pv 1) Zb)) (nomark _))
     (Z4 (Zk Ye rfl G.all boot_all (Za (ZM ["_law_one", "_law_other"] 2 [] (WT rfl G.zip (Za (pv 0) (Za (pv 1) Zb)))
      (fun C s H fp => show PG (blk _ _ _ C s H fp) _ (gTup K 2 (gCons (gName 0) (gCons (gName 1) gNil))) from ZY rfl (Zn (pb 0) (Zn (pb 1) ZP))) (fun C s H fp => ZQ)
      (fun C s H fp D' => ZE rfl (Zh D hr (Za (pv 0) (Za (pv 1) Zb))))) Zb))))))) Zt) Zp, ?_⟩
  refine ⟨_, rfl, (by show 2 ≤ sizeLine; decide), fun t ht => ?_⟩
  have s1 := Zd (o := .tup [V.ty "list", V.ty "tuple"]) ht
  have e1 : upd H t (.tup [V.ty "list", V.ty "tuple"]) t = some (.tup [V.ty "list", V.ty "tuple"]) := Zc
  generalize upd H t (HO.tup [V.ty "list", V.ty "tuple"]) = H1 at s1 e1
  have ha1 := s1 _ _ ha
  have hb1 := s1 _ _ hb
  refine ⟨_, t, _, _, rfl, SqT.of e1, .inr (.inr (.inr ⟨b, ys, rfl, hb1, rfl⟩)), (show _ = some true from rfl), _, rfl, iteT ?_⟩
  refine ⟨_, rfl, _, _, _, rfl, .tup ha1, (show _ = some false from rfl), _, rfl, _, _, _, rfl, .tup hb1, (show _ = some false from rfl), rfl, _, rfl, iteF ?_⟩
  refine ⟨_, rfl, _, _, _, rfl, .tup ha1, (show _ = some true from rfl), _, rfl, _, _, _, rfl, .tup hb1, (show _ = some true from rfl), rfl, _, rfl, iteF ?_⟩
  have hlen : xs.length = ys.length := Paired.length pr
  refine ⟨_, rfl, a, xs, rfl, .inr (SqT.of ha1), _, rfl, b, ys, rfl, .inr (SqT.of hb1), rfl, _, rfl, ?_⟩
  have el : decide (V.int (xs.length : Int) = V.int (ys.length : Int)) = true := decide_eq_true (by rw [hlen])
  rw [el]
  refine iteT ⟨_, rfl, _, rfl, a, b, rfl, ⟨xs, ys, SqT.of ha1, SqT.of hb1⟩, ?_⟩
  refine Js (xs := xs) (zs := ys) hlen (fun i zs σ H2 => ∃ v0 v1, σ = [v0, v1] ∧ Same H1 H2 ∧ zs = List.replicate i (V.bl true)) ⟨_, _, rfl, Same.refl _, rfl⟩ (fun i zs σ H2 _ ⟨_, _, _, s2, _⟩ => ⟨SqT.of (s2 _ _ ha1), SqT.of (s2 _ _ hb1)⟩) ?_ ?_
  ·rintro i x y T zs σ H2 hx hy hT ⟨v0, v1, rfl, s2, rfl⟩
   obtain ⟨y', hy', r⟩ := Z3 pr hx
   rw [hy] at hy'
   cases hy'
   have sT := Zd (o := .par [x, y]) hT
   have hi : i < xs.length := (List.getElem?_eq_some_iff.mp hx).1
   refine ⟨T, _, rfl, SqT.ofP Zc, rfl, _, _, rfl, _, _, rfl, rfl, ?_⟩
   refine ⟨x, rfl, y, rfl, x, y, rfl, hR r (s1.trans (s2.trans sT)), fun H3 s3 => ⟨by rw [List.length_replicate, sizeLine_eq]; omega, _, _, rfl, s2.trans (sT.trans s3), ?_⟩⟩
   rw [List.replicate_succ']
  ·rintro zs σ H2 ⟨v0, v1, rfl, s2, rfl⟩ p hp
   refine ⟨p, List.replicate xs.length true, rfl, ?_, ?_⟩
   ·rw [List.map_replicate]
    exact SqL.of Zc
   ·have e : (List.replicate xs.length true).all id = true := by simp
    rw [e]
    exact q _ (s1.trans (s2.trans (Zd hp)))
end
end U
namespace U
open PySem L2 PyProof.Rows
section
def nm15 : List Str := ["NoBoard", "NoLay", "NoNumber", "NoPoints", "NoPoint", "NoPaper", "NoUnlike", "NoPrime", "NoRoot", "NoTurn", "TooFew", "TooMany", "NoText", "NoLine", "NoDeed"]
def wd1 : List Str := ["board", "lay", "number", "points", "point", "paper", "unlike", "prime"]
def wd2 : List Str := ["root", "turn", "few", "many", "text", "line", "deed"]
def wordOf (i : Nat) : Str := (wd1 ++ wd2).getD i ""
structure Mk15 (K : PySem.W.Frag) (mg : Str → Option Value) (cS C : Addr) (iC : Nat) : Prop where
 z : ExcK K C
 ms : mg "StepError" = some (.ref cS)
 xs : PySem.W.exmOne K (.ref C) (.ref cS) = some true
 m : ∀ i, i < 15 → ∃ c, mg (nm15.getD i "") = some (.ref c) ∧ PySem.W.kitOne K (.ref C) (.ref c) = some (decide (i = iC))
 mv : mg "ValueError" = none
 xv : PySem.W.kitOne K (.ref C) (.type "ValueError") = some true
 lt : iC < 15
def marksL (iC n : Nat) : List V := (List.range n).map fun i => V.bl (decide (i = iC))
theorem J2 (iC n : Nat) : (marksL iC n).all flatV = true := by
 unfold marksL
 rw [List.all_map, List.all_eq_true]
 exact fun _ _ => rfl
theorem Ul : ∀ iC, iC < 15 → (marksL iC 15).countP (fun y => eqV y (.bl true)) = 1 := by decide +kernel
theorem ZbP {iC : Nat} (h : iC < 15) : (marksL iC 15)[iC]? = some (.bl true) := by
 unfold marksL
 rw [List.getElem?_map, List.getElem?_range h]
 show some (V.bl (decide (iC = iC))) = _
 rw [decide_eq_true rfl]
theorem ZbO {iC m : Nat} {y : V} (h : m < iC) (e : (marksL iC 15)[m]? = some y) : eqV y (.bl true) = false := by
 unfold marksL at e
 rw [List.getElem?_map] at e
 obtain ⟨k, hk, rfl⟩ := Option.map_eq_some_iff.mp e
 have : k = m := by
  have := List.getElem?_eq_some_iff.mp hk
  simpa using this.2.symm
 subst this
 show (decide (k = iC) == true) = false
 rw [decide_eq_false (by omega)]
 rfl
def tII (K : PySem.W.Frag) (i : Nat) (u : Value) : TE := fun σ H Q => ∃ e C b, σ[i]? = some (some (.ref e)) ∧ H e = some (excO e C) ∧ ExcK K C ∧ PySem.W.kitOne K (.ref C) u = some b ∧ Q (.bl b) H
theorem Yk {X : Cx} {i : Nat} {y n : Str} {c : Addr} {p1 p2 p3 p4 : Pos} (hi : X.mg "isinstance" = none) (hx : PE X (.Name y p2) (tVar i)) (hm : X.mg n = some (.ref c)) (g1 : Gl X "isinstance" := by rfl) (g2 : Gl X n := by rfl) (hd : (n == ("__debug__" : Str)) = false := by decide) :
  PE X (.Call (.Name "isinstance" p1) [.Name y p2, .Name n p3] [] p4) (tII X.K i (.ref c)) := by
 intro pins s σ H Q I h
 obtain ⟨e, C, b, h1, h2, h3, h4, h5⟩ := h
 have z : PE X (.Call (.Name "isinstance" p1) [.Name y p2, .Name n p3] [] p4) _ := Zk Jl g1 hi boot_isinstance (Za hx (Za (Z5 (v := .ref c) g2 hm rfl hd) Zb))
 exact z pins s σ H Q I ⟨_, h1, e, C, _, _, _, rfl, h2, h3, fun _ h => h, h4, h5⟩
end
end U
namespace U
open PySem L2 PyProof.Rows
section
variable {P : Program} {w : World} {K : PySem.W.Frag} {mg : Str → Option Value} {base : Heap}
abbrev sWord : Stmt := top 44
def spWord (P : Program) (w : World) (K : PySem.W.Frag) (mg : Str → Option Value) (base : Heap) (cS : Addr) (k : Nat) : Sp := fun vs H Q _ => ∃ f fd sp C iC, vs = [.ref f] ∧ Mk15 K mg cS C iC ∧ (∀ s, HOk P w H s → PySem.W.FnAt f s) ∧ FnOk P w K mg base (CXR P w) k f fd [] sp ∧
 (∀ s, BindsTo s fd ⟨[], []⟩ []) ∧ (∀ Q' E', (∀ e H', Same H H' → E' (.ref e) (some C) H') → sp [] H Q' E') ∧ ∀ H', Same H H' → Q (.str (wordOf iC)) H'
abbrev nWord : List Str := ["_law_call", "_law_error", "e", "_law_marks", "_law_more", "_law_words"]
theorem scWord : FnScope nWord ["_law_call"] (defScope sWord) := ⟨rfl, rfl, rfl, by decide +kernel, rfl, by decide +kernel, by decide +kernel⟩
theorem Zcl {k : Nat} {f : Addr} {fd : FuncData} {cS : Addr} (F : Fun K "_law_word" "_law_word" sWord f fd) (G : Gs mg) : FnOk P w K mg base CX0 (k + 1) f fd ["_law_call"] (spWord P w K mg base cS k) := by
 refine F.ok scWord (fun vs H Q E h => ?_) (fun cdv A outer s H vs Q E hr h => ?_)
 ·obtain ⟨f, fd, sp, C, iC, rfl, _⟩ := h
  rfl
 ·obtain ⟨f, fd, sp, C, iC, rfl, M, hfn, Fl, hbd, hsp, q⟩ := h
  obtain ⟨c0, m0, k0⟩ := M.m 0 (by decide)
  obtain ⟨c1, m1, k1⟩ := M.m 1 (by decide)
  obtain ⟨c2, m2, k2⟩ := M.m 2 (by decide)
  obtain ⟨c3, m3, k3⟩ := M.m 3 (by decide)
  obtain ⟨c4, m4, k4⟩ := M.m 4 (by decide)
  obtain ⟨c5, m5, k5⟩ := M.m 5 (by decide)
  obtain ⟨c6, m6, k6⟩ := M.m 6 (by decide)
  obtain ⟨c7, m7, k7⟩ := M.m 7 (by decide)
  obtain ⟨c8, m8, k8⟩ := M.m 8 (by decide)
  obtain ⟨c9, m9, k9⟩ := M.m 9 (by decide)
  obtain ⟨c10, m10, k10⟩ := M.m 10 (by decide)
  obtain ⟨c11, m11, k11⟩ := M.m 11 (by decide)
  obtain ⟨c12, m12, k12⟩ := M.m 12 (by decide)
  obtain ⟨c13, m13, k13⟩ := M.m 13 (by decide)
  obtain ⟨c14, m14, k14⟩ := M.m 14 (by decide)
  have gi := G.isinstance
  refine ⟨_, Ze (Zv (i := 1) scWord.nd rfl (Or.inl rfl) Yq)
   (Ze (UJ (ic := 0) (ie := 2) rfl rfl rfl scWord.nd rfl (Or.inl rfl) rfl rfl M.ms rfl hr (fun e => Zi (Zv (i := 1) scWord.nd rfl (Or.inl rfl) (pv 2))))
   (Ze (Zv (i := 3) scWord.nd rfl (Or.inl rfl) (ZG (Za (Yk gi (pv 1) m0) (Za (Yk gi (pv 1) m1) (Za (Yk gi (pv 1) m2) Zb)))))
   (Ze (Zv (i := 4) scWord.nd rfl (Or.inl rfl) (ZG (Za (Yk gi (pv 1) m3) (Za (Yk gi (pv 1) m4) (Za (Yk gi (pv 1) m5) Zb)))))
   (Ze (Zv (i := 3) scWord.nd rfl (Or.inl rfl) (Zu YC (Zu YC (pv 3) (pv 4)) (ZG (Za (Yk gi (pv 1) m6) (Za (Yk gi (pv 1) m7) Zb)))))
   (Ze (Zv (i := 3) scWord.nd rfl (Or.inl rfl) (Zu YC (pv 3) (ZG (Za (Yk gi (pv 1) m8) (Za (Yk gi (pv 1) m9) Zb)))))
   (Ze (Zv (i := 3) scWord.nd rfl (Or.inl rfl) (Zu YC (pv 3) (ZG (Za (Yk gi (pv 1) m10) (Za (Yk gi (pv 1) m11) Zb)))))
   (Ze (Zv (i := 3) scWord.nd rfl (Or.inl rfl) (Zu YC (pv 3) (ZG (Za (Yk gi (pv 1) m12) (Za (Yk gi (pv 1) m13) Zb)))))
   (Ze (ZU (Jy PySem.F.plainAttrs_list PySem.F.slot_list_append PySem.F.type_list_append YX (pv 3) (Za (Yk gi (pv 1) m14) Zb)))
   (Ze (ZI (Yf (Yr (pv 1))) Zp Zt)
   (Ze (ZI (PW.pt (YI (ZA Jd (Jy PySem.F.plainAttrs_list PySem.F.slot_list_count PySem.F.type_list_count ZbN (pv 3) (Za Wt Zb)) Zf (nomark _))
     (Yi (ZX (ZO (Zk Jl rfl gi boot_isinstance (Za (pv 1) (Za (Zy (v := .ty "ValueError") rfl M.mv PyProof.Rows.Boot.«ValueError» rfl) Zb)))))))) Zp Zt)
   (Ze (Zv (i := 5) scWord.nd rfl (Or.inl rfl) (ZG (JX (vs := wd1.map V.str) rfl)))
   (Ze (Zv (i := 5) scWord.nd rfl (Or.inl rfl) (Zu YC (pv 5) (ZG (JX (vs := wd2.map V.str) rfl))))
   (Zi (Zq (ZB ZJ (pv 5) (Jy PySem.F.plainAttrs_list PySem.F.slot_list_index PySem.F.type_list_index ZaQ (pv 3) (Za Wt Zb)) (fun _ _ => rfl)))))))))))))))), ?_⟩
  refine ⟨f, fd, sp, rfl, hfn, Fl, hbd, hsp _ _ fun e H1 s1 => ⟨e, C, rfl, rfl, M.xs, fun he0 => ⟨_, rfl, ?_⟩⟩⟩
  have s2 : Same H1 (upd H1 e (excO e C)) := Zd he0
  have he : upd H1 e (excO e C) e = some (excO e C) := Zc
  generalize upd H1 e (excO e C) = H2 at s2 he
  have sA := s1.trans s2
  dsimp only [List.set]
  refine Zl (Zr ⟨e, C, _, rfl, he, M.z, k0, e, C, _, rfl, he, M.z, k1, e, C, _, rfl, he, M.z, k2, (by show 3 ≤ sizeLine; decide), fun l1 hl1 => Zm ?_⟩)
  dsimp only
  show tSeq _ _ _ [some (.ref f), some (.ref e), none, some (.ref l1), none, none] (upd H2 l1 (.lst (marksL iC 3)))
  have t1 := Zd (o := .lst (marksL iC 3)) hl1
  have g1 : upd H2 l1 (.lst (marksL iC 3)) l1 = some (.lst (marksL iC 3)) := Zc
  generalize upd H2 l1 (HO.lst (marksL iC 3)) = H3 at t1 g1
  have he3 := t1 _ _ he
  refine Zl (Zr ⟨e, C, _, rfl, he3, M.z, k3, e, C, _, rfl, he3, M.z, k4, e, C, _, rfl, he3, M.z, k5, (by show 3 ≤ sizeLine; decide), fun l2 hl2 => Zm ?_⟩)
  dsimp only
  show tSeq _ _ _ [some (.ref f), some (.ref e), none, some (.ref l1), some (.ref l2), none] (upd H3 l2 (.lst [V.bl (decide (3 = iC)), V.bl (decide (4 = iC)), V.bl (decide (5 = iC))]))
  have t2 := Zd (o := .lst [V.bl (decide (3 = iC)), V.bl (decide (4 = iC)), V.bl (decide (5 = iC))]) hl2
  have g2 : upd H3 l2 (.lst [V.bl (decide (3 = iC)), V.bl (decide (4 = iC)), V.bl (decide (5 = iC))]) l2 = some (.lst [V.bl (decide (3 = iC)), V.bl (decide (4 = iC)), V.bl (decide (5 = iC))]) := Zc
  generalize upd H3 l2 (HO.lst [V.bl (decide (3 = iC)), V.bl (decide (4 = iC)), V.bl (decide (5 = iC))]) = H4 at t2 g2
  have he4 := t2 _ _ he3
  refine Zl (Zr ⟨_, rfl, _, rfl, l1, l2, marksL iC 3, _, rfl, rfl, t2 _ _ g1, g2, (by show 3 + 3 ≤ sizeLine; decide), fun l3 hl3 => ?_⟩)
  show tLst _ _ (upd H4 l3 (.lst (marksL iC 6))) _
  have t3 := Zd (o := .lst (marksL iC 6)) hl3
  have g3 : upd H4 l3 (.lst (marksL iC 6)) l3 = some (.lst (marksL iC 6)) := Zc
  generalize upd H4 l3 (HO.lst (marksL iC 6)) = H5 at t3 g3
  have he5 := t3 _ _ he4
  refine ⟨e, C, _, rfl, he5, M.z, k6, e, C, _, rfl, he5, M.z, k7, (by show 2 ≤ sizeLine; decide), fun l4 hl4 => ?_⟩
  have t4 := Zd (o := .lst [V.bl (decide (6 = iC)), V.bl (decide (7 = iC))]) hl4
  have g4 : upd H5 l4 (.lst [V.bl (decide (6 = iC)), V.bl (decide (7 = iC))]) l4 = some (.lst [V.bl (decide (6 = iC)), V.bl (decide (7 = iC))]) := Zc
  generalize upd H5 l4 (HO.lst [V.bl (decide (6 = iC)), V.bl (decide (7 = iC))]) = H6 at t4 g4
  refine ⟨l3, l4, marksL iC 6, _, rfl, rfl, t4 _ _ g3, g4, (by show 6 + 2 ≤ sizeLine; decide), fun l5 hl5 => Zm ?_⟩
  dsimp only
  show tSeq _ _ _ [some (.ref f), some (.ref e), none, some (.ref l5), some (.ref l2), none] (upd H6 l5 (.lst (marksL iC 8)))
  have t5 := Zd (o := .lst (marksL iC 8)) hl5
  have g5 : upd H6 l5 (.lst (marksL iC 8)) l5 = some (.lst (marksL iC 8)) := Zc
  generalize upd H6 l5 (HO.lst (marksL iC 8)) = H7 at t5 g5
  have he7 := t5 _ _ (t4 _ _ he5)
  refine Zl (Zr ⟨_, rfl, e, C, _, rfl, he7, M.z, k8, e, C, _, rfl, he7, M.z, k9, (by show 2 ≤ sizeLine; decide), fun a8 ha8 => ?_⟩)
  have ta8 := Zd (o := .lst [V.bl (decide (8 = iC)), V.bl (decide (9 = iC))]) ha8
  have ga8 : upd H7 a8 (.lst [V.bl (decide (8 = iC)), V.bl (decide (9 = iC))]) a8 = some (.lst [V.bl (decide (8 = iC)), V.bl (decide (9 = iC))]) := Zc
  generalize upd H7 a8 (HO.lst [V.bl (decide (8 = iC)), V.bl (decide (9 = iC))]) = Ha8 at ta8 ga8
  refine ⟨l5, a8, marksL iC 8, _, rfl, rfl, ta8 _ _ g5, ga8, (by show 8 + 2 ≤ sizeLine; decide), fun b8 hb8 => Zm ?_⟩
  dsimp only
  show tSeq _ _ _ [some (.ref f), some (.ref e), none, some (.ref b8), some (.ref l2), none] (upd Ha8 b8 (.lst (marksL iC 10)))
  have tb8 := Zd (o := .lst (marksL iC 10)) hb8
  have gb8 : upd Ha8 b8 (.lst (marksL iC 10)) b8 = some (.lst (marksL iC 10)) := Zc
  generalize upd Ha8 b8 (HO.lst (marksL iC 10)) = Hb8 at tb8 gb8
  have heb8 := tb8 _ _ (ta8 _ _ he7)
  refine Zl (Zr ⟨_, rfl, e, C, _, rfl, heb8, M.z, k10, e, C, _, rfl, heb8, M.z, k11, (by show 2 ≤ sizeLine; decide), fun a10 ha10 => ?_⟩)
  have ta10 := Zd (o := .lst [V.bl (decide (10 = iC)), V.bl (decide (11 = iC))]) ha10
  have ga10 : upd Hb8 a10 (.lst [V.bl (decide (10 = iC)), V.bl (decide (11 = iC))]) a10 = some (.lst [V.bl (decide (10 = iC)), V.bl (decide (11 = iC))]) := Zc
  generalize upd Hb8 a10 (HO.lst [V.bl (decide (10 = iC)), V.bl (decide (11 = iC))]) = Ha10 at ta10 ga10
  refine ⟨b8, a10, marksL iC 10, _, rfl, rfl, ta10 _ _ gb8, ga10, (by show 10 + 2 ≤ sizeLine; decide), fun b10 hb10 => Zm ?_⟩
  dsimp only
  show tSeq _ _ _ [some (.ref f), some (.ref e), none, some (.ref b10), some (.ref l2), none] (upd Ha10 b10 (.lst (marksL iC 12)))
  have tb10 := Zd (o := .lst (marksL iC 12)) hb10
  have gb10 : upd Ha10 b10 (.lst (marksL iC 12)) b10 = some (.lst (marksL iC 12)) := Zc
  generalize upd Ha10 b10 (HO.lst (marksL iC 12)) = Hb10 at tb10 gb10
  have heb10 := tb10 _ _ (ta10 _ _ heb8)
  refine Zl (Zr ⟨_, rfl, e, C, _, rfl, heb10, M.z, k12, e, C, _, rfl, heb10, M.z, k13, (by show 2 ≤ sizeLine; decide), fun a12 ha12 => ?_⟩)
  have ta12 := Zd (o := .lst [V.bl (decide (12 = iC)), V.bl (decide (13 = iC))]) ha12
  have ga12 : upd Hb10 a12 (.lst [V.bl (decide (12 = iC)), V.bl (decide (13 = iC))]) a12 = some (.lst [V.bl (decide (12 = iC)), V.bl (decide (13 = iC))]) := Zc
  generalize upd Hb10 a12 (HO.lst [V.bl (decide (12 = iC)), V.bl (decide (13 = iC))]) = Ha12 at ta12 ga12
  refine ⟨b10, a12, marksL iC 12, _, rfl, rfl, ta12 _ _ gb10, ga12, (by show 12 + 2 ≤ sizeLine; decide), fun b12 hb12 => Zm ?_⟩
  dsimp only
  show tSeq _ _ _ [some (.ref f), some (.ref e), none, some (.ref b12), some (.ref l2), none] (upd Ha12 b12 (.lst (marksL iC 14)))
  have tb12 := Zd (o := .lst (marksL iC 14)) hb12
  have gb12 : upd Ha12 b12 (.lst (marksL iC 14)) b12 = some (.lst (marksL iC 14)) := Zc
  generalize upd Ha12 b12 (HO.lst (marksL iC 14)) = Hb12 at tb12 gb12
  have heb12 := tb12 _ _ (ta12 _ _ heb10)
  have sB : Same H Hb12 := s1.trans (s2.trans (t1.trans (t2.trans (t3.trans (t4.trans (t5.trans (ta8.trans (tb8.trans (ta10.trans (tb10.trans (ta12.trans (tb12))))))))))))
  refine Zl ⟨_, rfl, .inl ⟨rfl, _, SqL.of gb12⟩, e, C, _, rfl, heb12, M.z, k14, b12, _, _, rfl, rfl, gb12, (by show 14 < sizeLine; decide), ?_⟩
  show tSeq _ _ _ [some (.ref f), some (.ref e), none, some (.ref b12), some (.ref l2), none] (upd Hb12 b12 (.lst (marksL iC 15)))
  have nb12 : H b12 = none := (s1.trans (s2.trans (t1.trans (t2.trans (t3.trans (t4.trans (t5.trans (ta8.trans (tb8.trans (ta10.trans (tb10.trans ta12))))))))))).free hb12
  have sC : Same H (upd Hb12 b12 (.lst (marksL iC 15))) := Zbg sB nb12
  have hec : upd Hb12 b12 (.lst (marksL iC 15)) e = some (excO e C) := by rw [Zg (fun z => by rw [z, gb12] at heb12; cases heb12)]; exact heb12
  have gc : upd Hb12 b12 (.lst (marksL iC 15)) b12 = some (.lst (marksL iC 15)) := Zc
  generalize upd Hb12 b12 (HO.lst (marksL iC 15)) = Hc at sC hec gc
  refine Zl ⟨_, rfl, _, rfl, iteF ?_⟩
  refine ZF ?_
  dsimp only
  refine Zl ⟨_, rfl, .inl ⟨rfl, _, SqL.of gc⟩, b12, _, _, rfl, rfl, SqL.of gc, rfl, J2 _ _, ?_⟩
  rw [Ul iC M.lt]
  refine ⟨rfl, _, rfl, iteF ⟨_, rfl, e, C, _, _, _, rfl, hec, M.z, fun _ h => h, M.xv, _, rfl, iteF ?_⟩⟩
  refine ZF ?_
  dsimp only
  refine Zl (Zr ⟨(by show 8 ≤ sizeLine; decide), fun d1 hd1 => Zm ?_⟩)
  dsimp only
  show tSeq _ _ _ [some (.ref f), some (.ref e), none, some (.ref b12), some (.ref l2), some (.ref d1)] _
  have u1 := Zd (o := .lst (wd1.map V.str)) hd1
  have v1 : upd Hc d1 (.lst (wd1.map V.str)) d1 = some (.lst (wd1.map V.str)) := Zc
  generalize upd Hc d1 (HO.lst (wd1.map V.str)) = Hd at u1 v1
  refine Zl (Zr ⟨_, rfl, (by show 7 ≤ sizeLine; decide), fun d2 hd2 => ?_⟩)
  have u2 := Zd (o := .lst (wd2.map V.str)) hd2
  have v2 : upd Hd d2 (.lst (wd2.map V.str)) d2 = some (.lst (wd2.map V.str)) := Zc
  generalize upd Hd d2 (HO.lst (wd2.map V.str)) = He at u2 v2
  refine ⟨d1, d2, _, _, rfl, rfl, u2 _ _ v1, v2, (by show 8 + 7 ≤ sizeLine; decide), fun d3 hd3 => Zm ?_⟩
  dsimp only
  show tRet _ _ [some (.ref f), some (.ref e), none, some (.ref b12), some (.ref l2), some (.ref d3)] _
  have u3 := Zd (o := .lst (wd1.map V.str ++ wd2.map V.str)) hd3
  have v3 : upd He d3 (.lst (wd1.map V.str ++ wd2.map V.str)) d3 = some (.lst (wd1.map V.str ++ wd2.map V.str)) := Zc
  generalize upd He d3 (HO.lst (wd1.map V.str ++ wd2.map V.str)) = Hf at u3 v3
  have gf := u3 _ _ (u2 _ _ (u1 _ _ gc))
  refine ⟨_, rfl, _, rfl, .inl ⟨rfl, _, SqL.of gf⟩, b12, _, _, iC, rfl, rfl, SqL.of gf, rfl, J2 _ _, ⟨_, ZbP M.lt, rfl⟩, fun m y h e => ZbO h e, ?_⟩
  refine ⟨d3, _, _, _, rfl, rfl, SqL.of v3, YZ (v := .str (wordOf iC)) ?_, q _ (sC.trans (u1.trans (u2.trans u3)))⟩
  rw [← List.map_append, List.getElem?_map]
  unfold wordOf
  have hl : iC < (wd1 ++ wd2).length := M.lt
  rw [List.getElem?_eq_getElem hl, List.getD_eq_getElem?_getD, List.getElem?_eq_getElem hl]
  rfl
end
end U
set_option Elab.async false
set_option linter.all false
set_option maxRecDepth 100000
set_option maxHeartbeats 40000000
namespace U
open PySem L2 PyProof.Rows
section
def plLit : Lit → Bool
 | .sc v => scal v
 | .tup xs => xs.all scal
 | _ => true
def litTup : Lit → Option (List V)
 | .tup xs => some xs
 | _ => none
theorem WW {H : Hp} {v : V} : ∀ {l : Lit}, plLit l = true → LitAt H v l → tupOf H v = litTup l
 | .sc u, hp, h => by
  have h' : v = u := h
  subst h'
  cases v with
  | ref a => cases hp
  | _ => rfl
 | .tup xs, _, ⟨a, e, h⟩ => by rw [e, Zo h]; rfl
 | .lst xs, _, ⟨a, e, h⟩ => by rw [e, Zz, h]; rfl
 | .dct, _, ⟨a, e, h⟩ => by rw [e, Zz, h]; rfl
theorem Zdi {K : PySem.W.Frag} {H : Hp} {v : V} : ∀ {l : Lit}, plLit l = true → LitAt H v l → Pl1 K H v
 | .sc u, hp, h => by
  have h' : v = u := h
  subst h'
  refine ⟨Zaa hp, fun xs e y hy => ?_⟩
  rw [WW (l := .sc v) hp rfl] at e
  cases e
 | .tup xs, hp, ⟨a, e, h⟩ => by
  subst e
  refine ⟨⟨_, .tup h⟩, fun ys e y hy => ?_⟩
  rw [Zo h] at e
  cases e
  exact Zaa (List.all_eq_true.mp hp y hy)
 | .lst xs, hp, ⟨a, e, h⟩ => by
  subst e
  refine ⟨⟨_, .lst h⟩, fun ys e y hy => ?_⟩
  rw [Zz, h] at e
  cases e
 | .dct, hp, ⟨a, e, h⟩ => by
  subst e
  refine ⟨⟨_, .dK h⟩, fun ys e y hy => ?_⟩
  rw [Zz, h] at e
  cases e
def NoRef (p : Addr) (H : Hp) (v : V) : Prop := v ≠ .ref p ∧ ∀ xs, tupOf H v = some xs → ∀ y ∈ xs, y ≠ .ref p
theorem Y9 {K : PySem.W.Frag} {H H' : Hp} {p : Addr} {v : V} (t : PlT K H v) (s : SameX p H H') (hn : v ≠ .ref p) : tupOf H' v = tupOf H v := by
 obtain ⟨T, t⟩ := t
 cases t with
 | tup e => rw [Zo e, Zo (s _ _ e fun z => hn (by rw [z]))]
 | lst e => rw [Zz, Zz, e, s _ _ e fun z => hn (by rw [z])]
 | frz e => rw [Zz, Zz, e, s _ _ e fun z => hn (by rw [z])]
 | dK e => rw [Zz, Zz, e, s _ _ e fun z => hn (by rw [z])]
 | dT e => rw [Zz, Zz, e, s _ _ e fun z => hn (by rw [z])]
 | _ => rfl
theorem ZcH {K : PySem.W.Frag} {H H' : Hp} {p : Addr} {v : V} (t : PlT K H v) (s : SameX p H H') (hn : v ≠ .ref p) : PlT K H' v := by
 obtain ⟨T, t⟩ := t
 cases t with
 | tup e => exact ⟨_, .tup (s _ _ e fun z => hn (by rw [z]))⟩
 | lst e => exact ⟨_, .lst (s _ _ e fun z => hn (by rw [z]))⟩
 | frz e => exact ⟨_, .frz (s _ _ e fun z => hn (by rw [z]))⟩
 | dK e => exact ⟨_, .dK (s _ _ e fun z => hn (by rw [z]))⟩
 | dT e => exact ⟨_, .dT (s _ _ e fun z => hn (by rw [z]))⟩
 | non => exact ⟨_, .non⟩
 | bl b => exact ⟨_, .bl b⟩
 | int i => exact ⟨_, .int i⟩
 | str x => exact ⟨_, .str x⟩
 | flt x => exact ⟨_, .flt x⟩
theorem Zbq {K : PySem.W.Frag} {H H' : Hp} {p : Addr} {v : V} (t : Pl1 K H v) (s : SameX p H H') (n : NoRef p H v) : Pl1 K H' v := by
 refine ⟨ZcH t.1 s n.1, fun xs e y hy => ?_⟩
 rw [Y9 t.1 s n.1] at e
 exact ZcH (t.2 xs e y hy) s (n.2 xs e y hy)
theorem Zct {K : PySem.W.Frag} {H H' : Hp} {p q : Addr} {v : V} (t : PlT K H v) (s : SameX q H H') (hq : v ≠ .ref q) (n : NoRef p H v) : NoRef p H' v := ⟨n.1, fun xs e => n.2 xs (by rw [← Y9 t s hq]; exact e)⟩
theorem U3 {K : PySem.W.Frag} {H H' : Hp} {p : Addr} {v : V} (b : BadBoard K H v) (s : SameX p H H') (n : NoRef p H v) : BadBoard K H' v := ⟨Zbq b.1 s n, by rw [Y9 b.1.1 s n.1]; exact b.2⟩
end
end U
namespace U
open PySem L2 PyProof.Rows
section
variable {P : Program} {w : World} {K : PySem.W.Frag} {mg : Str → Option Value} {base : Heap}
abbrev sNoB : Stmt := top 46
def noB1 : List Lit := [.sc .non, .tup [.int 0, .int 3], .tup [.int 3, .int 13], .tup [.int 13, .int 13], .lst [.int 3, .int 3], .tup [.int 3], .tup [.int 3, .int 3, .int 3], .tup [.bl true, .int 3], .tup [.int 3, .str "3"], .sc (.int 7)]
def badLit (l : Lit) : Bool := plLit l && !isBoardL (litTup l)
theorem Zcv : noB1.all badLit = true := by decide +kernel
def spNoB (K : PySem.W.Frag) : Sp := fun vs H Q _ => ∃ p : Addr, vs = [.ref p] ∧ StAt H p ∧ ∀ v H', SameX p H H' → StAt H' p → BadBoard K H' v → NoRef p H' v → Q v H'
def noE1 : List Expr := match defBody sNoB with | .Assign _ (.List es _) _ :: _ => es | _ => []
def noSk (a : List Expr) : List Stmt := match defBody sNoB with
 | .Assign x (.List _ p1) p2 :: r => .Assign x (.List a p1) p2 :: r
 | _ => []
theorem Zcs : defBody sNoB = noSk noE1 := by kernel_rfl
theorem Zcu : litsOf noE1 = some noB1 := by kernel_rfl
theorem scNoB : FnScope ["_law_state_here", "_law_some"] ["_law_state_here"] (defScope sNoB) := ⟨rfl, rfl, rfl, by decide +kernel, rfl, by decide +kernel, by decide +kernel⟩
theorem ZbQ {H H' : Hp} {p : Addr} {v : V} : ∀ {l : Lit}, LitAt H v l → (∀ a : Addr, v = .ref a → a ≠ p) → SameX p H H' → LitAt H' v l
 | .sc _, h, _, _ => h
 | .tup _, ⟨a, e, h⟩, n, s => ⟨a, e, s _ _ h (n a e)⟩
 | .lst _, ⟨a, e, h⟩, n, s => ⟨a, e, s _ _ h (n a e)⟩
 | .dct, ⟨a, e, h⟩, n, s => ⟨a, e, s _ _ h (n a e)⟩
theorem ZaW {H : Hp} {p : Addr} {v : V} {l : Lit} (hp : plLit l = true) (h : LitAt H v l) (n : ∀ a : Addr, v = .ref a → a ≠ p) : NoRef p H v := by
 refine ⟨fun z => n p z rfl, fun xs e y hy z => ?_⟩
 rw [WW hp h] at e
 cases l with
 | tup ys =>
  cases e
  have := List.all_eq_true.mp (show xs.all scal = true from hp) y hy
  rw [z] at this
  cases this
 | _ => cases e
theorem Zdb {f : Addr} {fd : FuncData} (F : Fun K "_law_no_board" "_law_no_board" sNoB f fd) (D1 : Def P w K mg base 1 "_law_take" ["_law_state_here", "_law_many"] spTake) : FnOk P w K mg base CX0 2 f fd ["_law_state_here"] (spNoB K) := by
 refine F.ok scNoB (fun vs H Q E h => ?_) (fun cdv A outer s H vs Q E hr h => ?_)
 ·obtain ⟨p, rfl, _⟩ := h
  rfl
 ·obtain ⟨p, rfl, st, q⟩ := h
  rw [Zcs]
  have i1 := Zcu
  generalize noE1 = es1 at i1
  refine ⟨_, Ze (Zv (i := 1) scNoB.nd rfl (Or.inl rfl) (ZG (Zah (ls := noB1) i1))) (Zi (Zq (ZB ZJ (Zu YC (pv 1) (ZG (Za (Zs (Za (Zs (Za Zf Zb)) (Za Zf Zb))) (Za (Zs (Za Zf (Za Yq Zb))) Zb)))) (Zh D1 hr (Za (pv 0) (Za Zf Zb))) (fun _ _ => rfl)))), ?_⟩
  refine Zl (Zr fun vs1 H1 s1 pr1 n1 => ?_)
  have l1 : vs1.length = 10 := Paired.length pr1
  refine ⟨by rw [l1]; decide, fun L1 hL1 => Zm ?_⟩
  have s2 : Same H1 (upd H1 L1 (.lst vs1)) := Zd hL1
  have eL : upd H1 L1 (.lst vs1) L1 = some (.lst vs1) := Zc
  generalize upd H1 L1 (HO.lst vs1) = H2 at s2 eL
  dsimp only [List.set]
  refine ⟨_, rfl, (by show 1 ≤ sizeLine; decide), fun a1 ha1 => ?_⟩
  have s3 := Zd (o := .tup [V.int 1]) ha1
  have e3 : upd H2 a1 (.tup [V.int 1]) a1 = some (.tup [V.int 1]) := Zc
  generalize upd H2 a1 (HO.tup [V.int 1]) = H3 at s3 e3
  refine ⟨(by show 2 ≤ sizeLine; decide), fun a2 ha2 => ?_⟩
  have s4 := Zd (o := .tup [V.ref a1, V.int 2]) ha2
  have e4 : upd H3 a2 (.tup [V.ref a1, V.int 2]) a2 = some (.tup [V.ref a1, V.int 2]) := Zc
  generalize upd H3 a2 (HO.tup [V.ref a1, V.int 2]) = H4 at s4 e4
  refine ⟨(by show 2 ≤ sizeLine; decide), fun a3 ha3 => ?_⟩
  have s5 := Zd (o := .tup [V.int 2, V.non]) ha3
  have e5 : upd H4 a3 (.tup [V.int 2, V.non]) a3 = some (.tup [V.int 2, V.non]) := Zc
  generalize upd H4 a3 (HO.tup [V.int 2, V.non]) = H5 at s5 e5
  refine ⟨(by show 2 ≤ sizeLine; decide), fun L2' hL2 => ?_⟩
  have s6 := Zd (o := .lst [V.ref a2, V.ref a3]) hL2
  have e6 : upd H5 L2' (.lst [V.ref a2, V.ref a3]) L2' = some (.lst [V.ref a2, V.ref a3]) := Zc
  generalize upd H5 L2' (HO.lst [V.ref a2, V.ref a3]) = H6 at s6 e6
  refine ⟨L1, L2', _, _, rfl, rfl, s6 _ _ (s5 _ _ (s4 _ _ (s3 _ _ eL))), e6, by rw [l1]; show 10 + 2 ≤ sizeLine; decide, fun L3 hL3 => ?_⟩
  have s7 := Zd (o := .lst (vs1 ++ [V.ref a2, V.ref a3])) hL3
  have e7 : upd H6 L3 (.lst (vs1 ++ [V.ref a2, V.ref a3])) L3 = some (.lst (vs1 ++ [V.ref a2, V.ref a3])) := Zc
  generalize upd H6 L3 (HO.lst (vs1 ++ [V.ref a2, V.ref a3])) = H7 at s7 e7
  have s37 := s3.trans (s4.trans (s5.trans (s6.trans s7)))
  have s27 := s2.trans s37
  have sAll : Same H H7 := s1.trans s27
  have st7 := st.same sAll
  refine ⟨_, rfl, p, 12, rfl, st7, by decide, by decide, fun r o h0 h12 st8 => ?_⟩
  obtain ⟨u0, v0, ep0, _⟩ := id st
  have ep7 := sAll _ _ ep0
  have neL : ∀ {c : Addr} {G G' : Hp}, Same H G → G c = none → c ≠ p := fun s h z => by rw [z, s _ _ ep0] at h; cases h
  have nL3 := neL (s1.trans (s2.trans (s3.trans (s4.trans (s5.trans s6))))) (G' := H) hL3
  have na1 := neL (s1.trans s2) (G' := H) ha1
  have na2 := neL (s1.trans (s2.trans s3)) (G' := H) ha2
  have na3 := neL (s1.trans (s2.trans (s3.trans s4))) (G' := H) ha3
  have lAll : (vs1 ++ [V.ref a2, V.ref a3]).length = 12 := by rw [List.length_append, l1]; rfl
  have hlt : r.toNat < (vs1 ++ [V.ref a2, V.ref a3]).length := by rw [lAll]; omega
  have hix := List.getElem?_eq_getElem hlt
  have hat := YZ hix
  rw [Int.toNat_of_nonneg h0] at hat
  have x8 : SameX p H7 (upd H7 p o) := SameX.upd
  refine ⟨L3, _, _, _, rfl, rfl, SqL.of (x8 _ _ e7 nL3), hat, ?_⟩
  have hm : (vs1 ++ [V.ref a2, V.ref a3])[r.toNat] ∈ vs1 ++ [V.ref a2, V.ref a3] := List.getElem_mem hlt
  generalize (vs1 ++ [V.ref a2, V.ref a3])[r.toNat] = v at hm
  have good : BadBoard K (upd H7 p o) v ∧ NoRef p (upd H7 p o) v := by
   rcases List.mem_append.mp hm with hm | hm
   ·obtain ⟨k, hk, ek⟩ := List.getElem_of_mem hm
    obtain ⟨l, hl, at1⟩ := Z3 pr1 (List.getElem?_eq_getElem hk)
    rw [ek] at at1
    have hb := List.all_eq_true.mp Zcv l (List.mem_of_getElem? hl)
    unfold badLit at hb
    rw [Bool.and_eq_true] at hb
    have n : ∀ a : Addr, v = .ref a → a ≠ p := fun a e z => by
     have := n1 a (by rw [← e]; exact hm)
     rw [z, ep0] at this
     cases this
    have at8 := ZbQ (at1.same s27) n x8
    refine ⟨⟨Zdi hb.1 at8, ?_⟩, ZaW hb.1 at8 n⟩
    rw [WW hb.1 at8]
    simpa using hb.2
   ·simp only [List.mem_cons, List.not_mem_nil, or_false] at hm
    rcases hm with rfl | rfl
    ·have g2 := x8 _ _ ((s5.trans (s6.trans s7)) _ _ e4) na2
     have g1 := x8 _ _ ((s4.trans (s5.trans (s6.trans s7))) _ _ e3) na1
     refine ⟨⟨⟨⟨_, .tup g2⟩, fun xs e y hy => ?_⟩, by rw [Zo g2]; rfl⟩, fun z => na2 (by cases z; rfl), fun xs e y hy z => ?_⟩
     ·rw [Zo g2] at e
      cases e
      simp only [List.mem_cons, List.not_mem_nil, or_false] at hy
      rcases hy with rfl | rfl
      ·exact ⟨_, .tup g1⟩
      ·exact ⟨_, .int 2⟩
     ·rw [Zo g2] at e
      cases e
      simp only [List.mem_cons, List.not_mem_nil, or_false] at hy
      rcases hy with rfl | rfl
      ·exact na1 (by cases z; rfl)
      ·cases z
    ·have g3 := x8 _ _ ((s6.trans s7) _ _ e5) na3
     refine ⟨⟨⟨⟨_, .tup g3⟩, fun xs e y hy => ?_⟩, by rw [Zo g3]; rfl⟩, fun z => na3 (by cases z; rfl), fun xs e y hy z => ?_⟩
     ·rw [Zo g3] at e
      cases e
      simp only [List.mem_cons, List.not_mem_nil, or_false] at hy
      rcases hy with rfl | rfl
      ·exact ⟨_, .int 2⟩
      ·exact ⟨_, .non⟩
     ·rw [Zo g3] at e
      cases e
      simp only [List.mem_cons, List.not_mem_nil, or_false] at hy
      rcases hy with rfl | rfl <;> cases z
  exact q v _ (fun c u hc hn => x8 _ _ (sAll _ _ hc) hn) st8 good.1 good.2
end
end U
set_option Elab.async false
set_option linter.all false
set_option maxRecDepth 100000
set_option maxHeartbeats 40000000
namespace U
open PySem L2 PyProof.Rows
section
def rCatA (K : PySem.W.Frag) : R2 := fun x y H Q => (∃ a b ys, x = .ref a ∧ y = .ref b ∧ SqT K H a [] ∧ SqT K H b ys ∧ Q (.ref b) H) ∨ rCatT K x y H Q
theorem YV {X : Cx} : OpR X (binaryOp .Add) (rCatA X.K) := Zby.or Zck
theorem catA {K : PySem.W.Frag} {H : Hp} {a b : Addr} {xs ys : List V} {Q : VK} (ha : H a = some (.tup xs)) (hb : H b = some (.tup ys)) (hl : xs.length + ys.length ≤ sizeLine) (q : ∀ (c : Addr) H', Same H H' → H' c = some (.tup (xs ++ ys)) → Q (.ref c) H') : rCatA K (.ref a) (.ref b) H Q := by
 by_cases hx : xs = []
 ·subst hx
  exact .inl ⟨a, b, ys, rfl, rfl, SqT.of ha, SqT.of hb, q b H (Same.refl _) hb⟩
 ·refine .inr ⟨a, b, xs, ys, rfl, rfl, SqT.of ha, SqT.of hb, hx, hl, fun hy => ?_, fun _ c hc => q c _ (Zd hc) Zc⟩
  subst hy
  exact q a H (Same.refl _) (by rw [List.append_nil]; exact ha)
theorem Zb9 {xs : List V} {k : Nat} (h : k ≤ xs.length) : cutV xs (some (k : Int)) none = xs.drop k := by
 unfold cutV
 have e1 : HT.sIx xs.length 0 (some (k : Int)) = k := by rw [HT.sIx_nat]; omega
 rw [e1, HT.sIx_none, List.take_of_length_le (by rw [List.length_drop]; exact Nat.le_refl _)]
theorem WJ {b a c : Int} (h0 : a ≤ b) (h1 : b ≤ c) : wholeIn (.int b) a c = true := by
 show (decide (a ≤ b) && decide (b ≤ c)) = true
 rw [decide_eq_true h0, decide_eq_true h1]; rfl
structure LayAt (K : PySem.W.Frag) (H : Hp) (x : V) (l : Addr) (xs : List V) (wd hg : Int) : Prop where
 bd : BoardAt H x wd hg
 at_ : H l = some (.tup xs)
 ly : isLayV wd hg (some xs) = true
theorem LayAt.same {K : PySem.W.Frag} {H H' : Hp} {x : V} {l : Addr} {xs : List V} {wd hg : Int} (a : LayAt K H x l xs wd hg) (s : Same H H') : LayAt K H' x l xs wd hg := ⟨a.bd.same s, s _ _ a.at_, a.ly⟩
theorem Jf {xs : List V} {wd hg : Int} (h : isLayV wd hg (some xs) = true) : (xs.length : Int) = wd := by
 unfold isLayV at h
 rw [Bool.and_eq_true, Bool.and_eq_true] at h
 exact of_decide_eq_true h.1.1
theorem Yu {xs : List V} {wd hg : Int} {v : V} (h : isLayV wd hg (some xs) = true) (hv : v ∈ xs) : v = .non ∨ ∃ i : Int, v = .int i ∧ 0 ≤ i ∧ i < hg := by
 unfold isLayV at h
 rw [Bool.and_eq_true, Bool.and_eq_true] at h
 by_cases e : v = .non
 ·exact .inl e
 ·have := List.all_eq_true.mp h.1.2 v (List.mem_filter.mpr ⟨hv, by simp [e]⟩)
  cases v with
  | int i =>
   have z : (decide (0 ≤ i) && decide (i ≤ hg - 1)) = true := this
   rw [Bool.and_eq_true] at z
   have z1 := of_decide_eq_true z.1
   have z2 := of_decide_eq_true z.2
   exact .inr ⟨i, rfl, z1, by omega⟩
  | _ => cases this
theorem LayAt.pl {K : PySem.W.Frag} {H : Hp} {x : V} {l : Addr} {xs : List V} {wd hg : Int} (a : LayAt K H x l xs wd hg) : Pl1 K H (.ref l) := by
 refine ⟨⟨_, .tup a.at_⟩, fun ys e y hy => ?_⟩
 rw [Zo a.at_] at e
 cases e
 rcases Yu a.ly hy with rfl | ⟨i, rfl, _⟩
 ·exact ⟨_, .non⟩
 ·exact ⟨_, .int i⟩
end
end U
set_option Elab.async false
set_option linter.all false
set_option maxRecDepth 100000
set_option maxHeartbeats 40000000
namespace U
open PySem L2 PyProof.Rows
section
theorem Wn (n : Nat) : L2.upTo n = (frTo 0 n).map V.int := by
 unfold L2.upTo frTo
 rw [List.map_map]
 refine List.map_congr_left fun k _ => ?_
 show V.int (k : Int) = V.int (0 + (k : Int))
 rw [Int.zero_add]
theorem J7 {n : Nat} {i : Int} : i ∈ frTo 0 n ↔ 0 ≤ i ∧ i < n := by
 unfold frTo
 rw [List.mem_map]
 constructor
 ·rintro ⟨k, hk, rfl⟩
  have := List.mem_range.mp hk
  omega
 ·rintro ⟨h1, h2⟩
  exact ⟨i.toNat, List.mem_range.mpr (by omega), by omega⟩
theorem J8 (n : Nat) : (frTo 0 n).length = n := by unfold frTo; rw [List.length_map, List.length_range]
theorem J6 (n : Nat) : (frTo 0 n).Nodup := by
 unfold frTo
 refine List.Pairwise.map _ (fun a b h => ?_) List.nodup_range
 omega
theorem J9 : ∀ {ls : List Int} {k : Nat} (h : k < ls.length), (ls[k] :: ls.eraseIdx k).Perm ls
 | _ :: _, 0, _ => .refl _
 | a :: ls, k + 1, h => ((List.Perm.swap _ _ _).trans (List.Perm.cons a (J9 (ls := ls) (k := k) (by simpa using h))))
theorem JM {t u : TS} {D : Ends} {σ : L2.St} {H : Hp} (R : L2.St → Hp → Prop) (h2 : ∀ σ' H', R σ' H' → u D σ' H') (h1 : ∀ D' : Ends, (∀ σ' H', R σ' H' → D'.nx σ' H') → t D' σ H) : tSeq t u D σ H := h1 _ h2
theorem YB {p L : Addr} {H H1 : Hp} {o : HO} (x : SameX p H H1) (hp : H1 p = some o) (hL : H1 L = none) : H L = none ∧ L ≠ p := by
 have n : L ≠ p := fun e => by rw [e, hp] at hL; cases hL
 refine ⟨?_, n⟩
 cases h : H L with
 | none => rfl
 | some u => rw [x _ _ h n] at hL; cases hL
theorem YA {p L : Addr} {H H1 : Hp} {o : HO} (x : SameX p H H1) (n : H L = none) : SameX p H (upd H1 L o) := fun b u h nb => by
 rw [Zg (Zj h n)]
 exact x b u h nb
theorem JG {p L : Addr} {H : Hp} {o : HO} (s : StAt H p) (n : L ≠ p) : StAt (upd H L o) p := by
 obtain ⟨u, v, e, r⟩ := s
 exact ⟨u, v, by rw [Zg n.symm]; exact e, r⟩
theorem WZ {n : Nat} {k : Int} (h0 : 0 ≤ k) (h1 : k < n) : ixN n k = some k.toNat := by
 unfold ixN
 rw [if_pos h0, if_pos h1]
theorem U4 {ns : List Int} {k : Int} (h0 : 0 ≤ k) (h1 : k < ns.length) : atI (ns.map V.int) k = some (.int (ns[k.toNat]'(by omega))) := by
 unfold atI
 rw [WZ h0 (by rw [List.length_map]; exact h1)]
 show (ns.map V.int)[k.toNat]? = _
 rw [List.getElem?_map, List.getElem?_eq_getElem (by omega)]
 rfl
theorem WA {α β : Type} (f : α → β) : ∀ (xs : List α) (k : Nat), (xs.map f).eraseIdx k = (xs.eraseIdx k).map f
 | [], _ => rfl
 | _ :: _, 0 => rfl
 | a :: xs, k + 1 => by
  show f a :: (xs.map f).eraseIdx k = f a :: (xs.eraseIdx k).map f
  rw [WA f xs k]
theorem ZcS {t : TE} {σ : L2.St} {H : Hp} {Q : VK} (R : V → Hp → Prop) (h2 : ∀ v H', R v H' → Q v H') (h1 : ∀ Q' : VK, (∀ v H', R v H' → Q' v H') → t σ H Q') : t σ H Q := h1 Q h2
theorem Zcf {te : TE} {t : TA} {σ : L2.St} {H : Hp} {Q : List V → Hp → Prop} (h : te σ H fun v H1 => t σ H1 fun vs H2 => Q (v :: vs) H2) : tCons te t σ H Q := h
theorem Zau {xs : List V} {lo hi : Option Int} {y : V} (h : y ∈ cutV xs lo hi) : y ∈ xs := List.mem_of_mem_drop (List.mem_of_mem_take h)
theorem Zbb {i b : Int} (h : i < 0 ∨ b < i) : wholeIn (.int i) 0 b = false := by
 show (decide (0 ≤ i) && decide (i ≤ b)) = false
 rcases h with h | h
 ·rw [decide_eq_false (by omega), Bool.false_and]
 ·rw [decide_eq_false (show ¬ i ≤ b by omega), Bool.and_false]
end
end U
set_option Elab.async false
set_option linter.all false
set_option maxRecDepth 100000
set_option maxHeartbeats 40000000
namespace U
open PySem L2 PyProof.Rows
section
theorem Zbh {fs : List V} : rowsOf (fs ++ [.non]) = rowsOf fs := by
 unfold rowsOf
 rw [List.filter_append]
 simp
theorem Zbi {fs : List V} {i : Int} : rowsOf (fs ++ [.int i]) = rowsOf fs ++ [.int i] := by
 unfold rowsOf
 rw [List.filter_append]
 simp
theorem Ur {fs : List V} {is ls : List Int} {wd hg : Int} (hg1 : 1 ≤ hg) (h1 : rowsOf fs = is.map V.int) (h2 : (is ++ ls).Perm (frTo 0 hg.toNat)) (h3 : (fs.length : Int) = wd) : isLayV wd hg (some fs) = true := by
 unfold isLayV
 dsimp only
 rw [h1, decide_eq_true h3]
 have a1 : ((is.map V.int).all fun r => wholeIn r 0 (hg - 1)) = true := by
  rw [List.all_eq_true]
  intro x hx
  obtain ⟨i, hi, rfl⟩ := List.mem_map.mp hx
  have := J7.mp (h2.mem_iff.mp (List.mem_append_left _ hi))
  exact WJ this.1 (by omega)
 have a2 : (is.map V.int).Nodup := (Wv is).mpr (List.nodup_append.mp ((List.Perm.nodup_iff h2).mpr (J6 _))).1
 rw [a1, decide_eq_true a2]
 rfl
end
end U
namespace U
open PySem L2 PyProof.Rows
section
variable {P : Program} {w : World} {K : PySem.W.Frag} {mg : Str → Option Value} {base : Heap}
abbrev sLL : Stmt := top 45
def spLL (K : PySem.W.Frag) : Sp := fun vs H Q _ => ∃ (p b : Addr) (wd hg : Int), vs = [.ref p, .ref b] ∧ StAt H p ∧ BoardAt H (.ref b) wd hg ∧ ∀ (l : Addr) H' (xs : List V), SameX p H H' → StAt H' p → H' l = some (.tup xs) → isLayV wd hg (some xs) = true → Q (.ref l) H'
theorem scLL : FnScope ["_law_state_here", "_law_board", "_law_left", "_law_found", "_law_line", "_law_row"] ["_law_state_here", "_law_board"] (defScope sLL) := ⟨rfl, rfl, rfl, by decide +kernel, rfl, by decide +kernel, by decide +kernel⟩
theorem ZdL {f : Addr} {fd : FuncData} (F : Fun K "_law_lay" "_law_lay" sLL f fd) (G : Gs mg) (D1 : Def P w K mg base 1 "_law_take" ["_law_state_here", "_law_many"] spTake) : FnOk P w K mg base CX0 2 f fd ["_law_state_here", "_law_board"] (spLL K) := by
 refine F.ok scLL (fun vs H Q E h => ?_) (fun cdv A outer s H vs Q E hr h => ?_)
 ·obtain ⟨p, b, wd, hg, rfl, _⟩ := h
  rfl
 ·obtain ⟨p, b, wd, hg, rfl, st, bd, q⟩ := h
  obtain ⟨_, w1, w2, g1, g2⟩ := id bd
  obtain ⟨a', eb, hb⟩ := Zw bd.1
  cases eb
  refine ⟨_, Ze (UK (i := 2) (j := 3) rfl scLL.nd rfl rfl (by decide) rfl rfl (Za (ZL Y3 rfl G.list boot_list (Za (ZL JC rfl G.range boot_range (Za (ZB ZK (pv 1) Zf (fun _ _ => rfl)) Zb)) Zb)) (Za (Zs Zb) Zb)) rfl)
   (Ze (Yo PassesOwn.never rfl (Z9 rfl G.range (Za (ZB ZK (pv 1) Zf (fun _ _ => rfl)) Zb)) (ZC (i := 4) scLL.nd rfl (Or.inl rfl))
    (Ze (Zv (i := 5) scLL.nd rfl (Or.inl rfl) Yq)
    (Ze (ZI (PW.pt (UI (ZA (Zc2 hr.units0) (pv 2) (ZG Zb) (nomark _)) (WP (ZA ZcK (Zh D1 hr (Za (pv 0) (Za Zf Zb))) Zf (nomark _)))))
     (Zi (Zv (i := 5) scLL.nd rfl (Or.inl rfl) (Jy PySem.F.plainAttrs_list PySem.F.slot_list_pop PySem.F.type_list_pop ZbM (pv 2) (Za (Zh D1 hr (Za (pv 0) (Za (Zk ZD rfl G.len boot_len (Za (pv 2) Zb)) Zb))) Zb)))) Zt)
    (Zi (Zv (i := 3) scLL.nd rfl (Or.inl rfl) (Zu YV (pv 3) (Zs (Za (pv 5) Zb))))))))
   (Zi (Zq (pv 3)))), ?_⟩
  obtain ⟨u0, v0, ep0, _⟩ := id st
  have nbp : b ≠ p := YG hb ep0 (by intro z; cases z)
  refine Zl ⟨_, rfl, b, _, _, _, rfl, rfl, SqT.of hb, at1, hg, rfl, fun rg hrg => ⟨rg, hg, rfl, Zc, by omega, by omega, fun L hL => ⟨Nat.zero_le _, fun f0 hf0 => ⟨_, _, rfl, ?_⟩⟩⟩⟩
  dsimp only [List.set]
  have sA := Zd (o := .rng 0 hg) hrg
  have sB := Zd (o := .lst (L2.upTo hg.toNat)) hL
  have sC := Zd (o := .tup []) hf0
  have eL := sC _ _ (Zc (H := upd H rg (.rng 0 hg)) (a := L) (o := .lst (L2.upTo hg.toNat)))
  have eF : upd (upd (upd H rg (.rng 0 hg)) L (.lst (L2.upTo hg.toNat))) f0 (.tup []) f0 = some (.tup []) := Zc
  have sAll := sA.trans (sB.trans sC)
  have hLf : H L = none ∧ L ≠ p := YB (p := p) sA.x (sA _ _ ep0) hL
  generalize upd (upd (upd H rg (.rng 0 hg)) L (.lst (L2.upTo hg.toNat))) f0 (.tup []) = H1 at sAll eL eF
  obtain ⟨hLn, hLp⟩ := hLf
  rw [Wn] at eL
  have hb1 := sAll _ _ hb
  refine Zl ⟨_, rfl, b, _, _, _, rfl, rfl, SqT.of hb1, at0, wd, rfl, by omega, by omega, ?_⟩
  refine Yx (n := wd.toNat) (fun i σ H2 => ∃ (fa : Addr) (fs : List V) (is ls : List Int) (x4 x5 : Option V), σ = [some (.ref p), some (.ref b), some (.ref L), some (.ref fa), x4, x5] ∧ SameX p H H2 ∧ StAt H2 p ∧ H2 L = some (.lst (ls.map V.int)) ∧ H2 fa = some (.tup fs) ∧ fs.length = i ∧ rowsOf fs = is.map V.int ∧ (is ++ ls).Perm (frTo 0 hg.toNat))
   ⟨f0, [], [], frTo 0 hg.toNat, none, none, rfl, sAll.x, st.same sAll, eL, eF, rfl, rfl, .refl _⟩ ?_ ?_
  ·rintro i σ H2 hi ⟨fa, fs, is, ls, x4, x5, rfl, x2, st2, eL2, eF2, fl, rw2, pm⟩
   have hlen := pm.length_eq
   rw [List.length_append, J8] at hlen
   obtain ⟨u2, v2, ep2, _⟩ := id st2
   have nfp : fa ≠ p := YG eF2 ep2 (by intro z; cases z)
   have nfL : fa ≠ L := YG eF2 eL2 (by intro z; cases z)
   refine Zm (Zl (Zr (Zm ?_)))
   dsimp only [List.set]
   refine JM (fun σ H3 => ∃ (row : V) (is' ls' : List Int), σ = [some (.ref p), some (.ref b), some (.ref L), some (.ref fa), some (.int (0 + (i : Int))), some row] ∧ SameX p H H3 ∧ StAt H3 p ∧ H3 L = some (.lst (ls'.map V.int)) ∧ H3 fa = some (.tup fs) ∧ rowsOf (fs ++ [row]) = is'.map V.int ∧ (is' ++ ls').Perm (frTo 0 hg.toNat)) ?_ ?_
   ·rintro σ H3 ⟨row, is', ls', rfl, x3, st3, eL3, eF3, rw3, pm3⟩
    refine Zr ⟨_, rfl, _, rfl, (by show 1 ≤ sizeLine; decide), fun t ht => ?_⟩
    have s4 := Zd (o := .tup [row]) ht
    refine catA (s4 _ _ eF3) Zc (by rw [sizeLine_eq]; show fs.length + 1 ≤ _; omega) fun c H5 s5 e5 => Zm ?_
    have s45 := s4.trans s5
    exact ⟨c, fs ++ [row], is', ls', _, _, rfl, x3.trans s45.x, st3.same s45, s45 _ _ eL3, e5, by rw [List.length_append, fl]; rfl, rw3, pm3⟩
   ·intro D' hD
    refine ⟨_, rfl, Nat.zero_le _, fun e he => ⟨L, e, ls.map V.int, rfl, rfl, SqL.of (Zd he _ _ eL2), SqL.of Zc, _, rfl, ?_⟩⟩
    have se := Zd (o := .lst []) he
    have st3 := st2.same se
    have x3 := x2.trans se.x
    have eL3 := se _ _ eL2
    have eF3 := se _ _ eF2
    generalize upd H2 e (.lst []) = H3 at se st3 x3 eL3 eF3
    have none_ : ∀ {H4 : Hp}, SameX p H H4 → StAt H4 p → H4 L = some (.lst (ls.map V.int)) → H4 fa = some (.tup fs) → D'.nx [some (.ref p), some (.ref b), some (.ref L), some (.ref fa), some (.int (0 + (i : Int))), some .non] H4 := fun x s e1 e2 => hD _ _ ⟨.non, is, ls, rfl, x, s, e1, e2, by rw [Zbh]; exact rw2, pm⟩
    cases ls with
    | nil => exact iteF (iteF (ZF (none_ x3 st3 eL3 eF3)))
    | cons l0 lr =>
     refine iteT ⟨_, rfl, p, 4, rfl, st3, by decide, by decide, fun r o r0 r4 st4 => ⟨_, _, rfl, rfl, _, rfl, ?_⟩⟩
     have x4' : SameX p H (upd H3 p o) := x3.trans SameX.upd
     have eL4 : upd H3 p o L = some (.lst ((l0 :: lr).map V.int)) := by rw [Zg hLp]; exact eL3
     have eF4 : upd H3 p o fa = some (.tup fs) := by rw [Zg nfp]; exact eF3
     generalize upd H3 p o = H4 at st4 x4' eL4 eF4
     by_cases hr0 : (0 : Int) < r
     ·rw [decide_eq_true hr0]
      refine iteT (Zr ⟨_, rfl, .inl ⟨rfl, _, SqL.of eL4⟩, _, rfl, _, rfl, L, _, rfl, .inl (SqL.of eL4), p, _, rfl, st4, by rw [List.length_map]; simp, by rw [List.length_map]; omega, fun r' o' r0' r1' st5 => ?_⟩)
      rw [List.length_map] at r1'
      have e5 : upd H4 p o' L = some (.lst ((l0 :: lr).map V.int)) := by rw [Zg hLp]; exact eL4
      have hr' : r'.toNat < (l0 :: lr).length := by omega
      refine ⟨L, _, r', r'.toNat, .int ((l0 :: lr)[r'.toNat]), rfl, rfl, e5, by omega, by omega, seqIndex_of r0' (by rw [List.length_map]; exact r1'), by rw [List.getElem?_map, List.getElem?_eq_getElem hr']; rfl, Zm ?_⟩
      refine hD _ _ ⟨_, is ++ [(l0 :: lr)[r'.toNat]], (l0 :: lr).eraseIdx r'.toNat, rfl, YA (x4'.trans SameX.upd) hLn, JG st5 hLp, ?_, ?_, ?_, ?_⟩
      ·rw [Zc, WA]
      ·rw [Zg nfL, Zg nfp]; exact eF4
      ·rw [Zbi, rw2, List.map_append]; rfl
      ·rw [List.append_assoc]
       exact ((J9 hr').append_left is).trans pm
     ·rw [decide_eq_false hr0]
      exact iteF (ZF (none_ x4' st4 eL4 eF4))
  ·rintro σ H2 ⟨fa, fs, is, ls, x4, x5, rfl, x2, st2, eL2, eF2, fl, rw2, pm⟩
   exact ⟨_, rfl, q fa H2 fs x2 st2 eF2 (Ur g1 rw2 pm (by omega))⟩
end
end U
set_option Elab.async false
set_option linter.all false
set_option maxRecDepth 100000
set_option maxHeartbeats 40000000
namespace U
open PySem L2 PyProof.Rows
section
theorem cat3n {K : PySem.W.Frag} {σ : L2.St} {H : Hp} {Q : VK} {l : Addr} {ls : List V} {a : Int} {tm : TE} {i j : Nat} (Pm : List V → Hp → Prop) (pk : ∀ {ms H1 H2}, Same H1 H2 → Pm ms H1 → Pm ms H2) (h1 : σ[i]? = some (some (.ref l))) (h3 : σ[j]? = some (some (.int a))) (hl : H l = some (.tup ls)) (ll : ls.length ≤ 12)
  (hm : ∀ H1 (Q1 : VK), Same H H1 → (∀ (c : Addr) (ms : List V) H2, Same H1 H2 → H2 c = some (.tup ms) → ms.length ≤ 12 → Pm ms H2 → Q1 (.ref c) H2) → tm σ H1 Q1)
  (q : ∀ (c : Addr) (ms : List V) H', Same H H' → H' c = some (.tup ((cutV ls none (some a) ++ ms) ++ cutV ls (some (a + 1)) none)) → ms.length ≤ 12 → Pm ms H' → Q (.ref c) H') :
  tOp (rCatA K) (tOp (rCatA K) (tSl (rSlA K) (tVar i) tNoPart (tPart (tVar j))) tm) (tSl (rSlA K) (tVar i) (tPart (tOp (rI0 fun i j => .int (i + j)) (tVar j) (tC (.int 1)))) tNoPart) σ H Q := by
 refine ⟨_, h1, _, h3, _, rfl, l, _, rfl, hl, fun c1 H1 s1 e1 => ?_⟩
 refine hm H1 _ s1 fun c2 ms H2 s2 e2 hml pm => ?_
 have l1 := YT ls none (some a)
 have l3 := YT ls (some (a + 1)) none
 refine catA (s2 _ _ e1) e2 (by rw [sizeLine_eq]; omega) fun c3 H3 s3 e3 => ?_
 refine ⟨_, h1, _, h3, _, _, rfl, rfl, _, rfl, l, _, rfl, (s1.trans (s2.trans s3)) _ _ hl, fun c4 H4 s4 e4 => ?_⟩
 refine catA (s4 _ _ e3) e4 (by rw [sizeLine_eq, List.length_append]; omega) fun c5 H5 s5 e5 => ?_
 exact q c5 ms H5 (s1.trans (s2.trans (s3.trans (s4.trans s5)))) e5 hml (pk (s3.trans (s4.trans s5)) pm)
def GoodL (K : PySem.W.Frag) (p : Addr) (wd hg : Int) (H : Hp) (v : V) : Prop := (Pl1 K H v ∧ isLayV wd hg (tupOf H v) = false) ∧ NoRef p H v
theorem Zcz {K : PySem.W.Frag} {p : Addr} {wd hg : Int} {H H' : Hp} {v : V} (g : GoodL K p wd hg H v) (s : SameX p H H') : GoodL K p wd hg H' v :=
 ⟨⟨Zbq g.1.1 s g.2, by rw [Y9 g.1.1.1 s g.2.1]; exact g.1.2⟩, Zct g.1.1.1 s g.2.1 g.2⟩
theorem Ym {K : PySem.W.Frag} {p : Addr} {wd hg : Int} {H H' : Hp} {v : V} (g : GoodL K p wd hg H v) (s : Same H H') : GoodL K p wd hg H' v := Zcz g s.x
theorem Yw {K : PySem.W.Frag} {p a : Addr} {wd hg : Int} {H : Hp} {xs : List V} (h : H a = some (.tup xs)) (st : StAt H p) (hx : ∀ y ∈ xs, PlT K H y ∧ y ≠ .ref p) (nf : isLayV wd hg (some xs) = false) : GoodL K p wd hg H (.ref a) := by
 obtain ⟨u, v, e, _⟩ := st
 have nap : a ≠ p := YG h e (by intro z; cases z)
 refine ⟨⟨⟨⟨_, .tup h⟩, fun ys e y hy => ?_⟩, ?_⟩, fun z => nap (by cases z; rfl), fun ys e y hy => ?_⟩
 ·rw [Zo h] at e
  cases e
  exact (hx y hy).1
 ·rw [Zo h]
  exact nf
 ·rw [Zo h] at e
  cases e
  exact (hx y hy).2
theorem Yn {K : PySem.W.Frag} {p : Addr} {wd hg : Int} {H : Hp} {v : V} (h : tupOf H v = none) (t : PlT K H v) (hn : v ≠ .ref p) : GoodL K p wd hg H v := by
 refine ⟨⟨⟨t, fun ys e y hy => ?_⟩, ?_⟩, hn, fun ys e y hy => ?_⟩
 ·rw [h] at e; cases e
 ·rw [h]; rfl
 ·rw [h] at e; cases e
theorem ZbI {wd hg : Int} {xs : List V} (h : (xs.length : Int) ≠ wd) : isLayV wd hg (some xs) = false := by
 unfold isLayV
 dsimp only
 rw [decide_eq_false h, Bool.false_and, Bool.false_and]
theorem Zal {wd hg : Int} {xs : List V} {y : V} (hy : y ∈ xs) (e : y ≠ .non) (h : wholeIn y 0 (hg - 1) = false) : isLayV wd hg (some xs) = false := by
 unfold isLayV
 dsimp only
 have : ((rowsOf xs).all fun r => wholeIn r 0 (hg - 1)) = false := by
  cases hh : (rowsOf xs).all fun r => wholeIn r 0 (hg - 1) with
  | false => rfl
  | true =>
   have := List.all_eq_true.mp hh y (List.mem_filter.mpr ⟨hy, by simp [e]⟩)
   rw [h] at this
   cases this
 rw [this, Bool.and_false, Bool.false_and]
theorem ZbH {wd hg : Int} {x : V} {r : List V} (e : x ≠ .non) : isLayV wd hg (some (x :: x :: r)) = false := by
 unfold isLayV
 dsimp only
 have : ¬ (rowsOf (x :: x :: r)).Nodup := fun h => by
  unfold rowsOf at h
  rw [List.filter_cons_of_pos (by simp [e]), List.filter_cons_of_pos (by simp [e])] at h
  exact (List.nodup_cons.mp h).1 List.mem_cons_self
 rw [decide_eq_false this, Bool.and_false]
theorem Jn {H : Hp} {Z : Addr} {as bs : List V} (h : H Z = some (.lst as)) (v : V) : tupOf (upd H Z (.lst bs)) v = tupOf H v := by
 cases v with
 | ref c =>
  rw [Zz, Zz]
  by_cases e : c = Z
  ·rw [e, Zc, h]; rfl
  ·rw [Zg e]
 | _ => rfl
theorem Zab {K : PySem.W.Frag} {H : Hp} {Z : Addr} {as bs : List V} {v : V} (h : H Z = some (.lst as)) (t : PlT K H v) : PlT K (upd H Z (.lst bs)) v := by
 obtain ⟨T, t⟩ := t
 have ne : ∀ {a : Addr} {o : HO}, H a = some o → (∀ xs, o ≠ .lst xs) → upd H Z (.lst bs) a = some o := fun {a o} e n => by
  rw [Zg (fun z => by rw [z, h] at e; cases e; exact n _ rfl)]
  exact e
 cases t with
 | tup e => exact ⟨_, .tup (ne e (by intro xs z; cases z))⟩
 | lst e =>
  rename_i a xs
  by_cases z : a = Z
  ·rw [z]; exact ⟨_, .lst Zc⟩
  ·exact ⟨_, .lst (by rw [Zg z]; exact e)⟩
 | frz e => exact ⟨_, .frz (ne e (by intro xs z; cases z))⟩
 | dK e => exact ⟨_, .dK (ne e (by intro xs z; cases z))⟩
 | dT e => exact ⟨_, .dT (ne e (by intro xs z; cases z))⟩
 | non => exact ⟨_, .non⟩
 | bl b => exact ⟨_, .bl b⟩
 | int i => exact ⟨_, .int i⟩
 | str x => exact ⟨_, .str x⟩
 | flt x => exact ⟨_, .flt x⟩
theorem Za5 {K : PySem.W.Frag} {p : Addr} {wd hg : Int} {H : Hp} {Z : Addr} {as bs : List V} {v : V} (h : H Z = some (.lst as)) (g : GoodL K p wd hg H v) : GoodL K p wd hg (upd H Z (.lst bs)) v := by
 refine ⟨⟨⟨Zab h g.1.1.1, fun xs e y hy => Zab h (g.1.1.2 xs (by rw [← Jn (bs := bs) h v]; exact e) y hy)⟩, by rw [Jn h v]; exact g.1.2⟩, g.2.1, fun xs e y hy => g.2.2 xs (by rw [← Jn (bs := bs) h v]; exact e) y hy⟩
theorem Ut {K : PySem.W.Frag} {p : Addr} {H : Hp} {xs : List V} {wd hg : Int} {y : V} (l : isLayV wd hg (some xs) = true) (h : y ∈ xs) : PlT K H y ∧ y ≠ .ref p := by
 rcases Yu l h with rfl | ⟨i, rfl, _⟩
 ·exact ⟨⟨_, .non⟩, by intro z; cases z⟩
 ·exact ⟨⟨_, .int i⟩, by intro z; cases z⟩
end
end U
namespace U
open PySem L2 PyProof.Rows
section
variable {P : Program} {w : World} {K : PySem.W.Frag} {mg : Str → Option Value} {base : Heap}
abbrev sNL : Stmt := top 47
def spNL (K : PySem.W.Frag) : Sp := fun vs H Q _ => ∃ (p b l : Addr) (xs : List V) (wd hg : Int), vs = [.ref p, .ref b, .ref l] ∧ StAt H p ∧ LayAt K H (.ref b) l xs wd hg ∧ ∀ v H', SameX p H H' → StAt H' p → GoodL K p wd hg H' v → Q v H'
theorem scNL : FnScope ["_law_state_here", "_law_board", "_law_lay_here", "_law_way", "_law_at", "_law_odd", "_law_bent", "_law_some"] ["_law_state_here", "_law_board", "_law_lay_here"] (defScope sNL) := ⟨rfl, rfl, rfl, by decide +kernel, rfl, by decide +kernel, by decide +kernel⟩
theorem ZdG {f : Addr} {fd : FuncData} (F : Fun K "_law_no_lay" "_law_no_lay" sNL f fd) (G : Gs mg) (D1 : Def P w K mg base 1 "_law_take" ["_law_state_here", "_law_many"] spTake) : FnOk P w K mg base CX0 2 f fd ["_law_state_here", "_law_board", "_law_lay_here"] (spNL K) := by
 refine F.ok scNL (fun vs H Q E h => ?_) (fun cdv A outer s H vs Q E hr h => ?_)
 ·obtain ⟨p, b, l, xs, wd, hg, rfl, _⟩ := h
  rfl
 ·obtain ⟨p, b, l, xs, wd, hg, rfl, st, la, q⟩ := h
  refine ⟨_, Ze (UK (i := 3) (j := 4) rfl scNL.nd rfl rfl (by decide) rfl rfl (Za (Zh D1 hr (Za (pv 0) (Za Zf Zb))) (Za (Zh D1 hr (Za (pv 0) (Za (ZB ZK (pv 1) Zf (fun _ _ => rfl)) Zb))) Zb)) rfl)
   (Ze (Zv (i := 5) scNL.nd rfl (Or.inl rfl) (ZB ZJ (ZG (Za (ZB ZK (pv 1) Zf (fun _ _ => rfl)) (Za (Zae WK Zf) (Za Wt (Za Y4 (Za (Zs (Za Zf Zb)) (Za (Zu UN Zf Zf) (Za (ZG (Za Zf Zb)) Zb)))))))) (Zh D1 hr (Za (pv 0) (Za Zf Zb))) (fun _ _ => rfl)))
   (Ze (Zv (i := 6) scNL.nd rfl (Or.inl rfl) (Zu YV (Zu YV (JS WL (pv 2) WR (WQ (pv 4))) (Zs (Za (pv 5) Zb))) (JS WL (pv 2) (WQ (Zu YL (pv 4) Zf)) WR)))
   (Ze (Zv (i := 7) scNL.nd rfl (Or.inl rfl) (ZG (Za (pv 6) (Za (pv 6) (Za (pv 6) (Za (Zu YV (pv 2) (Zs (Za Yq Zb))) (Za (JS WL (pv 2) (WQ Zf) WR) (Za (ZL W4 rfl G.list boot_list (Za (pv 2) Zb)) (Za Yq (Za Ue (Za Y4 (Za Zf Zb))))))))))))
   (Ze (ZU (Jy PySem.F.plainAttrs_list PySem.F.slot_list_append PySem.F.type_list_append YX (pv 7) (Za (YK (ZA ZcK (ZB ZK (pv 1) Zf (fun _ _ => rfl)) Zf (nomark _)) (Zu Zai (Zs (Za Zf Zb)) (ZB ZK (pv 1) Zf (fun _ _ => rfl))) (Zs (Za (pv 2) Zb))) Zb)))
   (Zi (Zq (ZB ZJ (pv 7) (pv 3) (fun _ _ => rfl)))))))), ?_⟩
  obtain ⟨u0, v0, ep0, _⟩ := id st
  obtain ⟨_, w1, w2, g1, g2⟩ := id la.bd
  have nlp : l ≠ p := YG la.at_ ep0 (by intro z; cases z)
  obtain ⟨b', eb, hb⟩ := Zw la.bd.1
  cases eb
  have nbp : b ≠ p := YG hb ep0 (by intro z; cases z)
  have ll := Jf la.ly
  have hl := la.at_
  refine Zl ⟨_, rfl, p, 11, rfl, st, by decide, by decide, fun way o1 w0 w11 st1 => ?_⟩
  have x1 : SameX p H (upd H p o1) := SameX.upd
  have hl1 := x1 _ _ hl nlp
  have hb1 := x1 _ _ hb nbp
  generalize upd H p o1 = H1 at hl1 hb1 x1 st1
  refine ⟨_, rfl, _, rfl, b, _, _, _, rfl, rfl, SqT.of hb1, at0, p, wd, rfl, st1, by omega, by omega, fun a o2 a0 a1 st2 => ⟨_, _, rfl, ?_⟩⟩
  have x2 : SameX p H (upd H1 p o2) := x1.trans SameX.upd
  have hl2 := x2 _ _ hl nlp
  have hb2 := x2 _ _ hb nbp
  generalize upd H1 p o2 = H2 at hl2 hb2 x2 st2
  dsimp only [List.set]
  refine Zl (Zr ⟨_, rfl, b, _, _, _, rfl, rfl, SqT.of hb2, at1, _, rfl, (by show 1 ≤ sizeLine; decide), fun t ht => ?_⟩)
  have s3 := Zd (o := .tup [V.int 0]) ht
  have e3 : upd H2 t (.tup [V.int 0]) t = some (.tup [V.int 0]) := Zc
  generalize upd H2 t (HO.tup [V.int 0]) = H3 at s3 e3
  refine ⟨_, _, rfl, rfl, ⟨by decide, by decide, by decide⟩, (by show 1 ≤ sizeLine; decide), fun m hm => ?_⟩
  have s3' := Zd (o := .lst [V.int 0]) hm
  have e3' : upd H3 m (.lst [V.int 0]) m = some (.lst [V.int 0]) := Zc
  generalize upd H3 m (HO.lst [V.int 0]) = H3' at s3' e3'
  refine ⟨(by show 7 ≤ sizeLine; decide), fun L hL => ?_⟩
  generalize hS : [V.int hg, V.int (-1), V.bl true, V.str "0", V.ref t, V.int (10 ^ (39 : Int).toNat), V.ref m] = S
  have lS : S.length = 7 := by rw [← hS]; rfl
  have s4 := Zd (o := .lst S) hL
  have e4 : upd H3' L (.lst S) L = some (.lst S) := Zc
  generalize upd H3' L (HO.lst S) = H4 at s4 e4
  have s24 := s3.trans (s3'.trans s4)
  have st4 := st2.same s24
  refine ⟨_, rfl, p, 7, rfl, st4, by decide, by decide, fun r o5 r0 r1 st5 => ?_⟩
  obtain ⟨u4, v4, ep4, _⟩ := id st4
  have nLp : L ≠ p := YG e4 ep4 (by intro z; cases z; cases lS)
  have ntp : t ≠ p := YG ((s3'.trans s4) _ _ e3) ep4 (by intro z; cases z)
  have nmp : m ≠ p := YG (s4 _ _ e3') ep4 (by intro z; cases z)
  have x5 : SameX p H4 (upd H4 p o5) := SameX.upd
  generalize upd H4 p o5 = H5 at x5 st5
  have hlt : r.toNat < S.length := by omega
  have hat := YZ (List.getElem?_eq_getElem hlt)
  rw [Int.toNat_of_nonneg r0] at hat
  refine ⟨L, _, _, _, rfl, rfl, SqL.of (x5 _ _ e4 nLp), hat, Zm ?_⟩
  dsimp only [List.set]
  have xH5 : SameX p H H5 := x2.trans (s24.x.trans x5)
  have hm' : S[r.toNat] ∈ S := List.getElem_mem hlt
  generalize S[r.toNat] = odd at hm'
  have p39 : (1000 : Int) ≤ 10 ^ (39 : Int).toNat := by decide
  have good : (PlT K H5 odd ∧ odd ≠ .ref p) ∧ odd ≠ .non ∧ wholeIn odd 0 (hg - 1) = false := by
   rw [← hS] at hm'
   generalize (10 : Int) ^ (39 : Int).toNat = t39 at hm' p39
   simp only [List.mem_cons, List.not_mem_nil, or_false] at hm'
   rcases hm' with rfl | rfl | rfl | rfl | rfl | rfl | rfl
   ·exact ⟨⟨⟨_, .int _⟩, fun z => by cases z⟩, (fun z => by cases z), Zbb (by omega)⟩
   ·exact ⟨⟨⟨_, .int _⟩, fun z => by cases z⟩, (fun z => by cases z), Zbb (by omega)⟩
   ·exact ⟨⟨⟨_, .bl _⟩, fun z => by cases z⟩, (fun z => by cases z), rfl⟩
   ·exact ⟨⟨⟨_, .str _⟩, fun z => by cases z⟩, (fun z => by cases z), rfl⟩
   ·exact ⟨⟨⟨_, .tup (x5 _ _ ((s3'.trans s4) _ _ e3) ntp)⟩, fun z => ntp (by cases z; rfl)⟩, (fun z => by cases z), rfl⟩
   ·exact ⟨⟨⟨_, .int _⟩, fun z => by cases z⟩, (fun z => by cases z), Zbb (by omega)⟩
   ·exact ⟨⟨⟨_, .lst (x5 _ _ (s4 _ _ e3') nmp)⟩, fun z => nmp (by cases z; rfl)⟩, (fun z => by cases z), rfl⟩
  have hl5 := xH5 _ _ hl nlp
  have hb5 := xH5 _ _ hb nbp
  clear x5 e4 s4 s3 s3' hl2 x2 st2 hl1 x1 st1 st4 ep4 e3 e3' hb1 hb2
  have ll12 : xs.length ≤ 12 := by omega
  have it : ∀ {H' : Hp} {y : V}, y ∈ xs → PlT K H' y ∧ y ≠ .ref p := fun h => Ut la.ly h
  refine Zl (Zr (cat3n (l := l) (ls := xs) (a := a) (fun ms H' => ms = [odd]) (fun _ h => h) rfl rfl hl5 ll12 (fun H6 Q6 s6 k6 => ⟨_, rfl, (by show 1 ≤ sizeLine; decide), fun c hc => k6 c _ _ (Zd hc) Zc (by show 1 ≤ 12; decide) rfl⟩) fun bt ms H6 s6 e6 _ em => ?_))
  subst em
  refine Zm ?_
  dsimp only [List.set]
  have gb : GoodL K p wd hg H6 (.ref bt) := by
   refine Yw e6 (st5.same s6) (fun y hy => ?_) (Zal (y := odd) (by simp) good.2.1 good.2.2)
   rcases List.mem_append.mp hy with hy | hy
   ·rcases List.mem_append.mp hy with hy | hy
    ·exact it (Zau hy)
    ·cases List.mem_singleton.mp hy
     exact ⟨s6.plT good.1.1, good.1.2⟩
   ·exact it (Zau hy)
  have hl6 := s6 _ _ hl5
  have st6 := st5.same s6
  refine Zl (Zr ⟨_, rfl, _, rfl, _, rfl, _, rfl, (by show 1 ≤ sizeLine; decide), fun t9 ht9 => ?_⟩)
  have s9 := Zd (o := .tup [V.non]) ht9
  have e9 : upd H6 t9 (.tup [V.non]) t9 = some (.tup [V.non]) := Zc
  generalize upd H6 t9 (.tup [V.non]) = H9 at s9 e9
  refine catA (s9 _ _ hl6) e9 (by rw [sizeLine_eq]; show xs.length + 1 ≤ _; omega) fun c10 H10 s10 e10 => ?_
  have hl10 := s10 _ _ (s9 _ _ hl6)
  have st10 := st6.same (s9.trans s10)
  have g4 : GoodL K p wd hg H10 (.ref c10) := Yw e10 st10 (fun y hy => by
   rcases List.mem_append.mp hy with hy | hy
   ·exact it hy
   ·cases List.mem_singleton.mp hy
    exact ⟨⟨_, .non⟩, fun z => by cases z⟩) (ZbI (by rw [List.length_append]; show ((xs.length + 1 : Nat) : Int) ≠ wd; omega))
  refine ⟨_, rfl, _, rfl, l, _, rfl, hl10, fun c13 H13 s13 e13 => ?_⟩
  have hl13 := s13 _ _ hl10
  have st13 := st10.same s13
  have z13 : cutV xs (some 1) none = xs.drop 1 := Zb9 (k := 1) (by omega)
  rw [z13] at e13
  have g5 : GoodL K p wd hg H13 (.ref c13) := Yw e13 st13 (fun y hy => it (List.mem_of_mem_drop hy)) (ZbI (by rw [List.length_drop]; omega))
  refine ⟨_, rfl, l, _, rfl, .inr (SqT.of hl13), fun m11 hm11 => ?_⟩
  have s11 := Zd (o := .lst xs) hm11
  have e11 : upd H13 m11 (.lst xs) m11 = some (.lst xs) := Zc
  generalize upd H13 m11 (.lst xs) = H11 at s11 e11
  have st11 := st13.same s11
  have nm11 : m11 ≠ p := fun z => by
   obtain ⟨u, v, e, _⟩ := id st13
   rw [z, e] at hm11
   cases hm11
  have g6 : GoodL K p wd hg H11 (.ref m11) := Yn (by rw [Zz, e11]; rfl) ⟨_, .lst e11⟩ (fun z => nm11 (by cases z; rfl))
  refine fun d hd => ?_
  have s12 := Zd (o := .dK []) hd
  have e12 : upd H11 d (.dK []) d = some (.dK []) := Zc
  generalize upd H11 d (.dK []) = H12 at s12 e12
  have st12 := st11.same s12
  have ndp : d ≠ p := fun z => by
   obtain ⟨u, v, e, _⟩ := id st11
   rw [z, e] at hd
   cases hd
  have g7 : GoodL K p wd hg H12 (.ref d) := Yn (by rw [Zz, e12]; rfl) ⟨_, .dK e12⟩ (fun z => ndp (by cases z; rfl))
  have gn : GoodL K p wd hg H12 .non := Yn rfl ⟨_, .non⟩ (fun z => by cases z)
  have gi : GoodL K p wd hg H12 (.int 5) := Yn rfl ⟨_, .int 5⟩ (fun z => by cases z)
  have gs : GoodL K p wd hg H12 (.str "lay") := Yn rfl ⟨_, .str _⟩ (fun z => by cases z)
  have g6' := Ym g6 s12
  have g5' := Ym g5 (s11.trans s12)
  have g4' := Ym g4 (s13.trans (s11.trans s12))
  have sA := s9.trans (s10.trans (s13.trans (s11.trans s12)))
  have gb' := Ym gb sA
  refine ⟨(by show 10 ≤ sizeLine; decide), fun Z hZ => Zm ?_⟩
  dsimp only [List.set]
  have all : ∀ v ∈ [V.ref bt, V.ref bt, V.ref bt, V.ref c10, V.ref c13, V.ref m11, V.non, V.ref d, V.str "lay", V.int 5], GoodL K p wd hg H12 v :=
   List.forall_mem_cons.mpr ⟨gb', List.forall_mem_cons.mpr ⟨gb', List.forall_mem_cons.mpr ⟨gb', List.forall_mem_cons.mpr ⟨g4', List.forall_mem_cons.mpr ⟨g5', List.forall_mem_cons.mpr ⟨g6', List.forall_mem_cons.mpr ⟨gn, List.forall_mem_cons.mpr ⟨g7, List.forall_mem_cons.mpr ⟨gs, List.forall_mem_cons.mpr ⟨gi, fun _ h => by cases h⟩⟩⟩⟩⟩⟩⟩⟩⟩⟩
  have lA : ([V.ref bt, V.ref bt, V.ref bt, V.ref c10, V.ref c13, V.ref m11, V.non, V.ref d, V.str "lay", V.int 5] : List V).length = 10 := rfl
  generalize [V.ref bt, V.ref bt, V.ref bt, V.ref c10, V.ref c13, V.ref m11, V.non, V.ref d, V.str "lay", V.int 5] = zs at all lA
  have s16 := Zd (o := .lst zs) hZ
  have e16 : upd H12 Z (.lst zs) Z = some (.lst zs) := Zc
  have sF := s6.trans (sA.trans s16)
  have hFree : H Z = none ∧ Z ≠ p := by
   obtain ⟨u, v, e, _⟩ := id st12
   exact YB (xH5.trans (s6.trans sA).x) e hZ
  generalize upd H12 Z (.lst zs) = H16 at s16 e16 sF
  have hl16 := sF _ _ hl5
  have hb16 := sF _ _ hb5
  have st16 := st5.same sF
  refine Zl ⟨_, rfl, .inl ⟨rfl, _, SqL.of e16⟩, Zcf (ZcS (t := tIf _ _ _) (fun v H' => Same H16 H' ∧ GoodL K p wd hg H' v) ?_ ?_)⟩
  ·rintro v10 H17 ⟨s17, g10⟩
   refine ⟨Z, _, v10, rfl, rfl, s17 _ _ e16, by rw [lA, sizeLine_eq]; decide, ?_⟩
   dsimp only
   have xE : SameX p H (upd H17 Z (.lst (zs ++ [v10]))) := YA (xH5.trans (sF.trans s17).x) hFree.1
   have stE : StAt (upd H17 Z (.lst (zs ++ [v10]))) p := JG (st16.same s17) hFree.2
   have lW : (zs ++ [v10]).length = 11 := by rw [List.length_append, lA]; rfl
   have hlw : way.toNat < (zs ++ [v10]).length := by omega
   have hatw := YZ (List.getElem?_eq_getElem hlw)
   rw [Int.toNat_of_nonneg w0] at hatw
   refine ⟨_, rfl, _, rfl, Z, _, _, _, rfl, rfl, SqL.of Zc, hatw, ?_⟩
   refine q _ _ xE stE ?_
   have gv : GoodL K p wd hg H17 (zs ++ [v10])[way.toNat] := by
    rcases List.mem_append.mp (List.getElem_mem hlw) with hy | hy
    ·exact Ym (all _ hy) (s16.trans s17)
    ·rw [List.mem_singleton.mp hy]; exact g10
   exact Za5 (s17 _ _ e16) gv
  ·intro Q' hQ
   refine ⟨_, rfl, b, _, _, _, rfl, rfl, SqT.of hb16, at0, _, _, rfl, rfl, _, rfl, ?_⟩
   by_cases hgt : (1 : Int) < wd
   ·rw [decide_eq_true hgt]
    refine iteT ⟨(by show 1 ≤ sizeLine; decide), fun t0 ht0 => ⟨_, rfl, b, _, _, _, rfl, rfl, SqT.of (Zd ht0 _ _ hb16), at0, t0, wd, _, rfl, rfl, Zc, (by simp), by omega, by omega, (by show 1 * wd.toNat ≤ 1000; omega), fun c H17 s17 e17 => ?_⟩⟩
    have s0 := (Zd (o := .tup [V.int 0]) ht0).trans s17
    obtain ⟨k, ek⟩ : ∃ k, wd.toNat = k + 2 := ⟨wd.toNat - 2, by omega⟩
    rw [ek] at e17
    have e17' : H17 c = some (.tup (V.int 0 :: V.int 0 :: (List.replicate k [V.int 0]).flatten)) := e17
    refine hQ _ _ ⟨s0, Yw e17' (st16.same s0) (fun y hy => ?_) (ZbH (by intro z; cases z))⟩
    have : y = .int 0 := by
     rcases List.mem_cons.mp hy with h | hy
     ·exact h
     ·rcases List.mem_cons.mp hy with h | hy
      ·exact h
      ·obtain ⟨zz, h1, h2⟩ := List.mem_flatten.mp hy
       rw [(List.mem_replicate.mp h1).2] at h2
       exact List.mem_singleton.mp h2
    rw [this]
    exact ⟨⟨_, .int 0⟩, fun z => by cases z⟩
   ·rw [decide_eq_false hgt]
    refine iteF ⟨_, rfl, (by show 1 ≤ sizeLine; decide), fun c hc => ?_⟩
    have sc := Zd (o := .tup [V.ref l]) hc
    exact hQ _ _ ⟨sc, Yw Zc (st16.same sc) (fun y hy => by
     cases List.mem_singleton.mp hy
     exact ⟨⟨_, .tup (sc _ _ hl16)⟩, fun z => nlp (by cases z; rfl)⟩) (Zal (y := .ref l) List.mem_cons_self (by intro z; cases z) rfl)⟩
end
end U
set_option Elab.async false
set_option linter.all false
set_option maxRecDepth 100000
set_option maxHeartbeats 40000000
namespace U
open PySem L2 PyProof.Rows
section
variable {P : Program} {w : World} {K : PySem.W.Frag} {mg : Str → Option Value} {base : Heap}
def R1 (_ : Hp) (x y : V) : Prop := (∃ i : Int, x = .int i ∧ y = .int i) ∨ (x = .non ∧ y = .non)
theorem R1.same {H H' : Hp} {x y : V} (r : R1 H x y) (_ : Same H H') : R1 H' x y := r
theorem ZbD {f : Addr} {fd : FuncData} (F : Fun K "_law_same" "_law_same" sSame f fd) (G : Gs mg) : FnOk P w K mg base CX0 1 f fd ["_law_found", "_law_due"] (spSame R1) := by
 refine F.ok scSame (fun vs H Q E h => ?_) (fun cdv A outer s H vs Q E hr h => ?_)
 ·obtain ⟨x, y, rfl, _⟩ := h
  rfl
 ·obtain ⟨x, y, rfl, r, q⟩ := h
  refine ⟨_, Ze (ZI (ZO (Zk (Yd (a := "list") (b := "tuple")) rfl G.isinstance boot_isinstance (Za (pv 1) (Za (Zs (Za (Zy (v := .ty "list") rfl G.list boot_list rfl) (Za (Zy (v := .ty "tuple") rfl G.tuple boot_tuple rfl) Zb))) Zb)))) Zp Zt)
   (Ze (ZI (PW.pt (YI (Yf (Yr (pv 1))) (Yi (Yf (Yr (pv 0)))))) (Zi (Zq (Z7 (Zbu (Yr (pv 0))) (Z4 (Zbu (Yr (pv 1))))))) Zt)
   (Zi (Zq (Z7 (Z6 Z8 (Zk (Zx (c := "bool")) rfl G.isinstance boot_isinstance (Za (pv 0) (Za (Zy (v := .ty "bool") rfl G.bool boot_bool rfl) Zb)))
     (Zk (Zx (c := "bool")) rfl G.isinstance boot_isinstance (Za (pv 1) (Za (Zy (v := .ty "bool") rfl G.bool boot_bool rfl) Zb))) (nomark _))
    (Z4 (Z6 Z8 (pv 0) (pv 1) (nomark _))))))), ?_⟩
  refine ⟨_, rfl, (by show 2 ≤ sizeLine; decide), fun t ht => ?_⟩
  have s1 := Zd (o := .tup [V.ty "list", V.ty "tuple"]) ht
  rcases r with ⟨i, rfl, rfl⟩ | ⟨rfl, rfl⟩
  ·refine ⟨_, t, _, _, rfl, SqT.of Zc, .inl ⟨i, rfl, rfl⟩, (show _ = some false from rfl), _, rfl, iteF ?_⟩
   refine ⟨_, rfl, _, rfl, iteF ⟨_, rfl, _, rfl, iteF ?_⟩⟩
   refine ⟨_, rfl, _, _, _, rfl, .int i, (show _ = some false from rfl), _, rfl, _, _, _, rfl, .int i, (show _ = some false from rfl), rfl, _, rfl, ?_⟩
   refine iteT ⟨_, rfl, _, rfl, rfl, ?_⟩
   have e : decide (V.int i = V.int i) = true := decide_eq_true rfl
   rw [e]
   exact q _ s1
  ·refine ⟨_, t, _, _, rfl, SqT.of Zc, .inr (.inl ⟨rfl, rfl⟩), (show _ = some false from rfl), _, rfl, iteF ?_⟩
   refine ⟨_, rfl, _, rfl, iteT (iteT ⟨_, rfl, _, rfl, iteT ⟨_, rfl, ?_⟩⟩)⟩
   have e : decide (V.non = V.non) = true := decide_eq_true rfl
   exact q _ s1
end
end U
set_option Elab.async false
set_option linter.all false
set_option maxRecDepth 100000
set_option maxHeartbeats 40000000
namespace U
open PySem L2 PyProof.Rows
section
def CellAt (Y : Cx) (cl : List (Str × Addr)) (x : Str) (v : V) (H : Hp) (s : Shared) : Prop := ∃ c u, cl.lookup x = some c ∧ s.heap.IsCell c (some u) ∧ RelV v u ∧ H c = none ∧ c ∉ frs Y.stack
def lfOk (so si : Scope) : Bool := si.names.all fun z => z.2 != .free || so.names.lookup z.1 == some .cell || so.names.lookup z.1 == some .free
theorem ZcL {X : Cx} {scope : Scope} (h : lfOk X.env.scope scope = true) : ∀ z ∈ scope.names, z.2 = .free → X.env.kindOf z.1 = some .cell ∨ X.env.kindOf z.1 = some .free := fun z hz e => by
 have := List.all_eq_true.mp h z hz
 simp only [Bool.or_eq_true, bne_iff_ne, ne_eq, beq_iff_eq] at this
 rcases this with (h | h) | h
 ·exact absurd e h
 ·exact .inl h
 ·exact .inr h
end
end U
namespace U
open PySem L2 PyProof.Rows
section
variable {Y : Cx} {pins : List (Addr × Obj)} {σ : L2.St} {H : Hp} {s : Shared}
theorem Zcb {i : Nat} {x : Str} {v : V} {scope : Scope} (I : Inv Y pins σ H s) (hi : Y.N[i]? = some x) (hσ : σ[i]? = some (some v)) (hk : Y.env.scope.names.lookup x = some .cell) (hfn : Y.fn x = true) (hfr : (x, NameKind.free) ∈ scope.names) : CellAt Y (clOf scope Y.env) x v H s := by
 obtain ⟨m, hn, hl⟩ := I.loc
 obtain ⟨u, r, l⟩ := hl i x v hi hσ (.inr (.inl hk))
 obtain ⟨c, hc⟩ := Wd (env := Y.env) hfr
 have e1 := (Yy hc).1
 rcases l with ⟨hk', _⟩ | ⟨_, c', hc', hcell⟩
 ·have : Y.env.scope.names.lookup x = some .local := hk'
  rw [hk] at this
  cases this
 ·rw [hc'] at e1
  have e2 : c = c' := e1
  subst e2
  refine ⟨c, u, hc, hcell, r, I.freeC x c hc', fun hm => ?_⟩
  rcases List.mem_cons.mp (I.stkSub c hm) with z | z
  ·exact I.cne x c hc' z
  ·obtain ⟨_, o, ho, _⟩ := I.ok.funs.mem z
   exact absurd (Nat.lt_of_lt_of_le (Heap.lt_size ho) (I.ok.cab x c hfn hc')) (Nat.lt_irrefl _)
theorem Zdw {scope : Scope} {env : Env} {z : Str} {c : Addr} (h : (clOf scope env).lookup z = some c) : (z, NameKind.free) ∈ scope.names := (Yy h).2
end
end U
namespace U
open PySem L2 PyProof.Rows
section
variable {X : Cx} {cS c P fR : Addr} {fn : Str} {kf : Nat} {ps : List Str} {sp : Sp}
abbrev lq (X : Cx) : Str := X.env.qual ++ "<lambda>"
theorem Z2 {H H' : Hp} {P : Addr} {q : Str} (h : TabAt H P q) (s : Same H H') : TabAt H' P q := by
 obtain ⟨ps, h1, h2, h3⟩ := h
 exact ⟨ps, s _ _ h1, h2, fun pos cv z => by obtain ⟨d, e, g⟩ := h3 pos cv z; exact ⟨d, e, s _ _ g⟩⟩
structure LCtx (X : Cx) (cS c P fR : Addr) (fn : Str) (kf : Nat) (ps : List Str) (sp : Sp) : Prop where
 lam : LamX X c P
 hR : ∀ b', Def X.prog X.w X.K X.mg b' (kf + 2) "_law_word" ["_law_call"] (spWord X.prog X.w X.K X.mg b' cS (kf + 1))
 hU : ∀ b', DefR X.prog X.w X.K X.mg b' kf fn ps sp
 room : Room (kf + 2) X.A
 mR : X.mg "_law_word" = some (.ref fR)
 kR : PySem.W.keepIn X.K (.ref fR) = true
structure LN (X : Cx) (x : Str) (i : Nat) : Prop where
 nx : X.N[i]? = some x
 kx : X.env.scope.names.lookup x = some .cell
 fx : X.fn x = true
end
end U
namespace U
open PySem L2 PyProof.Rows
section
theorem Zdz {H H' : Hp} {P p : Addr} {q : Str} {o : HO} (h : TabAt H P q) (s : SameX p H H') (hp : H p = some o) (h1 : ∀ ps, o ≠ .tbl ps) (h2 : ∀ c, o ≠ codeO c q) : TabAt H' P q := by
 obtain ⟨ps, e, t, f⟩ := h
 refine ⟨ps, s _ _ e fun z => by rw [z, hp] at e; cases e; exact h1 _ rfl, t, fun pos cv z => ?_⟩
 obtain ⟨d, e1, e2⟩ := f pos cv z
 exact ⟨d, e1, s _ _ e2 fun z => by rw [z, hp] at e2; cases e2; exact h2 _ rfl⟩
theorem WS {K : PySem.W.Frag} {H : Hp} {P : Addr} {ps : Array Value} {v : V} (t : PlT K H v) (h : H P = some (.tbl ps)) : v ≠ .ref P := fun z => by
 obtain ⟨T, ty⟩ := t
 subst z
 cases ty with
 | lst e => rw [h] at e; cases e
 | frz e => rw [h] at e; cases e
 | tup e => rw [h] at e; cases e
 | dK e => rw [h] at e; cases e
 | dT e => rw [h] at e; cases e
end
end U
set_option Elab.async false
set_option linter.all false
set_option maxRecDepth 100000
set_option maxHeartbeats 40000000
namespace U
open PySem L2 PyProof.Rows
section
variable {X : Cx} {cS c P fR : Addr} {fn : Str} {kf : Nat} {ps : List Str} {sp : Sp}
structure LScopeN (params : Arguments) (body : Expr) (scope : Scope) (N : List Str) : Prop where
 kind : scope.kind = .function
 co : scope.isCoroutine = false
 gen : scope.isGenerator = false
 nocell : ∀ z ∈ scope.names, z.2 ≠ .cell
 only : ∀ z ∈ scope.names, z.2 = .free → z.1 ∈ N
 free : ∀ x ∈ N, scope.names.lookup x = some .free
 bind : ∀ (q : Str) (cl : List (Str × Addr)) (pm : Value) (c : Addr) (ct : Value), bindArgs (PySem.W.kla_fn "<lambda>" q params body scope cl pm (.ref c) ct) ⟨[], []⟩ = pure []
def BodyN (X : Cx) (kf : Nat) (C : Addr) (f : Addr) (q : Str) (bd : Expr) (scope : Scope) (cl : List (Str × Addr)) (N : List Str) (ws : List V) (Pre : Hp → Prop) : Prop :=
 ∀ (base' : Heap) (cc : Addr) (A : Around) (outer : List Env) (s2 : Shared) (H2 : Hp) (Q2 : VK) (E2 : XK), Room kf (A.deeper (PySem.W.envX q scope s2.heap.objs.size f (.ref cc) cl)) → Pre H2 → (∀ e H', Same H2 H' → E2 (.ref e) (some C) H') →
  ∃ t, PE (cxL X.prog X.w X.K X.mg base' N q scope f (.ref cc) cl A outer s2 H2 E2) bd t ∧ t (ws.map some) H2 Q2
theorem ZaG {pins : List (Addr × Obj)} {σ : L2.St} {H : Hp} {s : Shared} {f C : Addr} {iC : Nat} {q : Str} {params : Arguments} {bd : Expr} {scope : Scope} {cl : List (Str × Addr)} {Q : VK} {N : List Str} {ws : List V} {Pre : Hp → Prop} (L : LCtx X cS c P fR fn kf ps sp)
  (LS : LScopeN params bd scope N) (I : Inv X pins σ H s) (hl : LamAt H f q params bd scope cl) (hlen : ws.length = N.length) (hcl : ∀ (i : Nat) x v, N[i]? = some x → ws[i]? = some v → CellAt X cl x v H s) (hmem : ∀ z c, cl.lookup z = some c → (z, NameKind.free) ∈ scope.names)
  (hinj : ∀ a b c, cl.lookup a = some c → cl.lookup b = some c → a = b) (M : Mk15 X.K X.mg cS C iC) (bad : BodyN X kf C f q bd scope cl N ws Pre) (pre : Pre H) (hq : ∀ H', Same H H' → Q (.str (wordOf iC)) H') :
  wpAny (model X.prog X.w) X.A (call (.ref fR) [.ref f]) (EP X pins σ Q) X.xe s := by
 obtain ⟨base', st, e0, cov⟩ := I.rebase
 obtain ⟨pm, cc, ct, hf, hc⟩ := hl
 have T : Cells base' scope cl N ws := ⟨hlen, fun u hu => by
   rcases hu with hu | hu
   ·exact absurd rfl (LS.nocell _ (PySem.mem_of_lookup hu))
   ·exact LS.only _ (PySem.mem_of_lookup hu) rfl, fun i a v h1 h2 => by
   obtain ⟨ax, ux, lx, ⟨ox, gx, dx⟩, rx, nx, fx⟩ := hcl i a v h1 h2
   exact ⟨LS.free a (List.mem_of_getElem? h1), ax, ux, lx, ⟨ox, cov _ _ gx nx fx, dx⟩, rx⟩, fun u c h => LS.only _ (hmem u c h) rfl, hinj⟩
 have FL : FnOk X.prog X.w X.K X.mg base' (CXR X.prog X.w) (kf + 1) f (PySem.W.kla_fn "<lambda>" q params bd scope cl pm (.ref cc) ct) []
   (fun vs H2 Q2 E2 => (vs = [] ∧ H2 f = some (lamO f q params bd scope cl pm cc ct) ∧ H2 cc = some (codeO cc q)) ∧ Pre H2 ∧ ∀ e H', Same H2 H' → E2 (.ref e) (some C) H') := by
  refine Zcw (k := kf) T LS.kind LS.co LS.gen LS.nocell (fun vs H2 Q2 E2 h => h.1) fun A outer s2 H2 Q2 E2 hr2 h => ?_
  exact bad base' cc A outer s2 H2 Q2 E2 hr2 h.2.1 h.2.2
 obtain ⟨fR', fdR, FR, hm', hk, hb⟩ := L.hR base'
 rw [L.mR] at hm'
 cases hm'
 refine wpAny_call (codeAny_mono (FR.run X.A X.stack s H ⟨[.ref f], []⟩ [.ref f] [.ref f] Q E0 L.room e0 (hb s [.ref f] I.kIn rfl) (.cons rfl .nil)
  ⟨f, _, _, C, iC, rfl, M, fun h hok => ?_, FL, fun s2 => .of_eq (LS.bind q cl pm cc ct), fun Q' E' hE => ⟨⟨rfl, hf, hc⟩, pre, hE⟩, hq⟩) fun r s' h => ?_)
 ·have z : h.get? f = some _ := (hok f _ hf).1
  exact ⟨_, _, _, _, z⟩
 ·cases r with
  | error e => exact h.elim
  | ok fl =>
   cases fl with
   | ret u => exact I.after h
   | next => exact False.elim h
   | brk => exact False.elim h
   | cont => exact False.elim h
def tWordN (X : Cx) (P : Addr) (iC : Nat) (idx : List Nat) (Pre : List V → Hp → Prop) : TE := fun σ H Q => ∃ ws : List V, ws.length = idx.length ∧ (∀ (k i : Nat) v, idx[k]? = some i → ws[k]? = some v → σ[i]? = some (some v)) ∧ TabAt H P (lq X) ∧ (∀ H', SameX P H H' → Pre ws H') ∧ ∀ H', SameX P H H' → TabAt H' P (lq X) → Q (.str (wordOf iC)) H'
theorem Ud {params : Arguments} {scope : Scope} {bd : Expr} {p lp pos : Pos} {C : Addr} {iC : Nat} {N : List Str} {idx : List Nat} {Pre : List V → Hp → Prop} (L : LCtx X cS c P fR fn kf ps sp) (LS : LScopeN params bd scope N) (hN : idx.length = N.length) (LNs : ∀ (k : Nat) x i, N[k]? = some x → idx[k]? = some i → LN X x i) (hg : Gl X "_law_word") (hdef : defaultsOf params X.env = ([], []))
  (hfr : ∀ z ∈ scope.names, z.2 = .free → X.env.kindOf z.1 = some .cell ∨ X.env.kindOf z.1 = some .free) (M : Mk15 X.K X.mg cS C iC) (bad : ∀ f ws, ws.length = N.length → BodyN X kf C f (lq X) bd scope (clOf scope X.env) N ws (Pre ws)) :
  PE X (.Call (.Name "_law_word" p) [.Lambda params bd scope lp] [] pos) (tWordN X P iC idx Pre) := by
 intro pins s σ H Q I h
 obtain ⟨ws, hws, hσ, tab, pre, q⟩ := h
 refine wpAny_Call_Name_kw (YY I hg L.mR ?_ (by decide))
 have ha : PA X [.Lambda params bd scope lp] _ := Za (Zc0 L.lam hdef hfr) Zb
 refine PySem.W.callWith_K (h₀ := X.base) I.ok.mod.kin L.kR (thn (ha pos pins s σ H (fun vs H1 => ∃ f, vs = [.ref f] ∧ SameX P H H1 ∧ TabAt H1 P (lq X) ∧ LamAt H1 f (lq X) params bd scope (clOf scope X.env)) I ⟨tab, fun f H1 sx nf t1 l1 => ⟨f, rfl, sx, t1, l1⟩⟩) fun us s1 ⟨vs, H1, I1, r, f, ev, sx, t1, l1⟩ => ⟨I1.kIn, ?_⟩) rfl rfl
 subst ev
 obtain ⟨u, rfl, ru⟩ := vals1 r
 cases ru
 refine ZaG L LS I1 l1 (by rw [hws, hN]) (fun i x v h1 h2 => ?_) (fun z c h => Zdw h) (fun a b c h1 h2 => ?_) M (bad f ws (by rw [hws, hN])) (pre H1 sx) fun H2 s2 => q H2 (sx.trans s2.x) (Z2 t1 s2)
 ·have hi : i < idx.length := by
   have := (List.getElem?_eq_some_iff.mp h1).1
   omega
  have ei := List.getElem?_eq_getElem hi
  have n := LNs i x _ h1 ei
  exact Zcb I1 n.nx (hσ i _ v ei h2) n.kx n.fx (PySem.mem_of_lookup (LS.free x (List.mem_of_getElem? h1)))
 obtain ⟨e1, m1⟩ := Yy h1
 obtain ⟨e2, m2⟩ := Yy h2
 obtain ⟨c1, g1⟩ := I1.ok.has a (hfr _ m1 rfl)
 obtain ⟨c2, g2⟩ := I1.ok.has b (hfr _ m2 rfl)
 rw [g1] at e1
 rw [g2] at e2
 have z1 : c1 = c2 := by
  have y1 : _ = c1 := e1
  have y2 : _ = c2 := e2
  rw [← y1, ← y2]
 subst z1
 exact I1.ok.inj _ _ _ g1 g2
end
end U
set_option Elab.async false
set_option linter.all false
set_option maxRecDepth 100000
set_option maxHeartbeats 40000000
namespace U
open PySem L2 PyProof.Rows
section
def bi (b : Bool) : Int := if b = true then 1 else 0
abbrev tv (q : Bool × Bool × Bool) : List V := [.int (bi q.1), .int (bi q.2.1), .int (bi q.2.2)]
end
end U
namespace U
open PySem L2 PyProof.Rows
section
variable {P : Program} {w : World} {K : PySem.W.Frag} {mg : Str → Option Value} {base : Heap} {aB aT : Addr}
def tA (n : Int) (l : Bool) (x : Int) : Int := if l = true then n - 1 - x else x
def tpt (wd hg : Int) (q : Bool × Bool × Bool) (x : Int × Int) : Int × Int := if q.1 = true then (tA hg q.2.2 x.2, tA wd q.2.1 x.1) else (tA wd q.2.1 x.1, tA hg q.2.2 x.2)
theorem W6 (b : Bool) : decide (V.int (bi b) = V.int 1) = b := by cases b <;> decide
abbrev tW (wd hg : Int) (q : Bool × Bool × Bool) : Int := if q.1 = true then hg else wd
abbrev tH (wd hg : Int) (q : Bool × Bool × Bool) : Int := if q.1 = true then wd else hg
end
end U
set_option Elab.async false
set_option linter.all false
set_option maxRecDepth 100000
set_option maxHeartbeats 40000000
namespace U
open PySem L2 PyProof.Rows
section
def rowV : V → Option Int
 | .int r => some r
 | _ => none
theorem Zdq {α β : Type} (g : α → Option β) (a : α) : [a].filterMap g = (g a).toList := by
 rw [List.filterMap_cons]
 cases g a <;> rfl
def ptsTo (xs : List V) (n : Nat) : List (Int × Int) := (List.range n).filterMap fun (l : Nat) => ((xs[l]?).bind rowV).map fun r => ((l : Int), r)
theorem Yj (xs : List V) (n : Nat) : ptsTo xs (n + 1) = ptsTo xs n ++ (((xs[n]?).bind rowV).map fun r => ((n : Int), r)).toList := by
 unfold ptsTo
 rw [List.range_succ, List.filterMap_append, Zdq]
abbrev pointsL (xs : List V) : List (Int × Int) := ptsTo xs xs.length
def PtAt (H : Hp) (v : V) (q : Int × Int) : Prop := ∃ t : Addr, v = .ref t ∧ H t = some (.tup [.int q.1, .int q.2])
theorem PtAt.same {H H' : Hp} {v : V} {q : Int × Int} (h : PtAt H v q) (s : Same H H') : PtAt H' v q := by
 obtain ⟨t, e, h1⟩ := h
 exact ⟨t, e, s _ _ h1⟩
theorem Zbm {xs : List V} {n : Nat} {q : Int × Int} (h : q ∈ ptsTo xs n) : ∃ k : Nat, k < n ∧ q.1 = k ∧ xs[k]? = some (.int q.2) := by
 unfold ptsTo at h
 obtain ⟨k, hk, e⟩ := List.mem_filterMap.mp h
 refine ⟨k, List.mem_range.mp hk, ?_⟩
 cases e1 : xs[k]? with
 | none => rw [e1] at e; cases e
 | some v =>
  rw [e1] at e
  cases v with
  | int r => cases e; exact ⟨rfl, rfl⟩
  | _ => cases e
def Dis (qs : List (Int × Int)) : Prop := qs.Pairwise fun a b => a.1 ≠ b.1 ∧ a.2 ≠ b.2
def InB (wd hg : Int) (qs : List (Int × Int)) : Prop := ∀ q ∈ qs, (0 ≤ q.1 ∧ q.1 < wd) ∧ 0 ≤ q.2 ∧ q.2 < hg
theorem U7 {xs : List V} {wd hg : Int} (h : isLayV wd hg (some xs) = true) : InB wd hg (pointsL xs) := fun q hq => by
 obtain ⟨k, hk, e1, e2⟩ := Zbm hq
 have hl := Jf h
 rcases Yu h (List.mem_of_getElem? e2) with z | ⟨i, z, i0, i1⟩
 ·cases z
 ·cases z
  exact ⟨⟨by omega, by omega⟩, i0, i1⟩
def ptV (ps : List (Int × Int)) (k : Int) : V := ps.foldl (fun v p => if k = p.1 then .int p.2 else v) .non
theorem Zbn {ps : List (Int × Int)} {p : Int × Int} {k : Int} : ptV (ps ++ [p]) k = if k = p.1 then .int p.2 else ptV ps k := by
 unfold ptV
 rw [List.foldl_append]
 rfl
theorem Zbo {k : Int} : ∀ (ps : List (Int × Int)) (v : V), ps.foldl (fun v p => if k = p.1 then V.int p.2 else v) v = v ∨ ∃ p ∈ ps, p.1 = k ∧ ps.foldl (fun v p => if k = p.1 then V.int p.2 else v) v = .int p.2
 | [], v => .inl rfl
 | p :: ps, v => by
  rw [List.foldl_cons]
  rcases Zbo ps (if k = p.1 then V.int p.2 else v) with h | ⟨q, hq, e1, e2⟩
  ·by_cases z : k = p.1
   ·right
    refine ⟨p, List.mem_cons_self, z.symm, ?_⟩
    rw [h, if_pos z]
   ·left
    rw [h, if_neg z]
  ·exact .inr ⟨q, List.mem_cons_of_mem _ hq, e1, e2⟩
theorem Wq (ps : List (Int × Int)) (k : Int) : ptV ps k = .non ∨ ∃ p ∈ ps, p.1 = k ∧ ptV ps k = .int p.2 := Zbo ps .non
theorem Zbp {ps : List (Int × Int)} {k : Int} (h : ∀ p ∈ ps, p.1 ≠ k) : ptV ps k = .non := by
 rcases Wq ps k with z | ⟨p, hp, e, _⟩
 ·exact z
 ·exact absurd e (h p hp)
def layOfL (W : Nat) (ps : List (Int × Int)) : List V := (List.range W).map fun (k : Nat) => ptV ps k
theorem Ya (W : Nat) (ps : List (Int × Int)) : (layOfL W ps).length = W := by unfold layOfL; rw [List.length_map, List.length_range]
theorem ZaZ (W : Nat) : layOfL W [] = List.replicate W .non := by
 unfold layOfL
 rw [show (fun (k : Nat) => ptV [] (k : Int)) = fun _ => V.non from rfl, List.map_const', List.length_range]
theorem Jg {W : Nat} {ps : List (Int × Int)} {k : Nat} (h : k < W) : (layOfL W ps)[k]? = some (ptV ps k) := by
 unfold layOfL
 rw [List.getElem?_map, List.getElem?_range h]
 rfl
theorem ZaY {W : Nat} {ps : List (Int × Int)} {p : Int × Int} (h0 : 0 ≤ p.1) : (layOfL W ps).set p.1.toNat (.int p.2) = layOfL W (ps ++ [p]) := by
 refine List.ext_getElem (by rw [List.length_set, Ya, Ya]) fun i h1 h2 => ?_
 rw [Ya] at h2
 have e1 := List.getElem?_eq_some_iff.mp (Jg (ps := ps) h2)
 have e2 := List.getElem?_eq_some_iff.mp (Jg (ps := ps ++ [p]) h2)
 rw [List.getElem_set]
 obtain ⟨_, e1⟩ := e1
 obtain ⟨_, e2⟩ := e2
 rw [e1, e2, Zbn]
 by_cases z : p.1.toNat = i
 ·rw [if_pos z, if_pos (by omega)]
 ·rw [if_neg z, if_neg (by omega)]
theorem Jt {W : Nat} {ps : List (Int × Int)} {v : V} (h : v ∈ layOfL W ps) : v = .non ∨ ∃ p ∈ ps, v = .int p.2 := by
 unfold layOfL at h
 obtain ⟨k, _, rfl⟩ := List.mem_map.mp h
 rcases Wq ps (k : Int) with z | ⟨p, hp, _, e⟩
 ·exact .inl z
 ·exact .inr ⟨p, hp, e⟩
theorem ZbU {W : Nat} {ps : List (Int × Int)} {r : Int} (h : ∀ p ∈ ps, p.2 ≠ r) : inV (.int r) (layOfL W ps) = false := by
 unfold inV
 rw [List.any_eq_false]
 intro y hy
 rcases Jt hy with rfl | ⟨p, hp, rfl⟩
 ·show ¬ false = true
  exact Bool.false_ne_true
 ·show ¬ (p.2 == r) = true
  rw [beq_iff_eq]
  exact h p hp
theorem UV {W : Nat} {ps : List (Int × Int)} : (layOfL W ps).all flatV = true := by
 rw [List.all_eq_true]
 intro y hy
 rcases Jt hy with rfl | ⟨p, hp, rfl⟩ <;> rfl
theorem JP (n : Nat) (v : V) : (List.replicate n [v]).flatten = List.replicate n v := by
 induction n with
 | zero => rfl
 | succ n ih => rw [List.replicate_succ, List.flatten_cons, ih, List.replicate_succ]; rfl
theorem Wp {H H1 : Hp} {L : Addr} {o : HO} (s : Same H H1) (n : H L = none) : Same H (upd H1 L o) := fun b u h => by
 rw [Zg (Zj h n)]
 exact s b u h
end
end U
namespace U
open PySem L2 PyProof.Rows
section
variable {P : Program} {w : World} {K : PySem.W.Frag} {mg : Str → Option Value} {base : Heap} {aB aL aT : Addr}
abbrev sPoints : Stmt := top 26
def spPoints (K : PySem.W.Frag) : Sp := fun vs H Q _ => ∃ (x : V) (l : Addr) (xs : List V) (wd hg : Int), vs = [x, .ref l] ∧ LayAt K H x l xs wd hg ∧ ∀ (L : Addr) (H' : Hp) (ps : List V), Same H H' → H' L = some (.lst ps) → Paired (PtAt H') ps (pointsL xs) → Q (.ref L) H'
theorem scPoints : FnScope ["board", "lay"] ["board", "lay"] (defScope sPoints) := ⟨rfl, rfl, rfl, by decide +kernel, rfl, by decide +kernel, by decide +kernel⟩
theorem ZaM {f : Addr} {fd : FuncData} (F : Fun K "points" "points" sPoints f fd) (G : Gs mg) (D1 : Def P w K mg base 6 "need_lay" ["board", "lay"] (spNeedLay K)) : FnOk P w K mg base CX0 7 f fd ["board", "lay"] (spPoints K) := by
 refine F.ok scPoints (fun vs H Q E h => ?_) (fun cdv A outer s H vs Q E hr h => ?_)
 ·obtain ⟨x, l, xs, wd, hg, rfl, _⟩ := h
  rfl
 ·obtain ⟨x, a, xs, wd, hg, rfl, la, q⟩ := h
  refine ⟨_, Ze (ZU (Zh D1 hr (Za (pv 0) (Za (pv 1) Zb))))
   (Zi (Zq (ZM ["line", "row"] 2 [] (Zad rfl G.enumerate (Za (pv 1) Zb))
    (fun C s H fp => show PG (blk _ _ _ C s H fp) _ (gTup K 2 (gCons (gName 0) (gCons (gName 1) gNil))) from ZY rfl (Zn (pb 0) (Zn (pb 1) ZP)))
    (fun C s H fp => Jb (Yf (JI (pv 1)))) (fun C s H fp D => ZE rfl (Zs (Za (pv 0) (Za (pv 1) Zb))))))), ?_⟩
  refine Zl ⟨_, rfl, _, rfl, x, .ref a, wd, hg, rfl, la.bd, la.pl, by rw [Zo la.at_]; exact la.ly, fun H1 s1 => ?_⟩
  dsimp only
  have ha := s1 _ _ la.at_
  have hl := Jf la.ly
  have hlen : xs.length ≤ 12 := by
   have h2 := la.bd.2.2.1
   omega
  refine ⟨_, rfl, a, rfl, ⟨xs, SqT.of ha⟩, ?_⟩
  refine Ww (xs := xs) (fun i ys σ H2 => ∃ v0 v1, σ = [v0, v1] ∧ Same H1 H2 ∧ Paired (PtAt H2) ys (ptsTo xs i) ∧ ys.length ≤ i) ⟨_, _, rfl, Same.refl _, .nil, Nat.zero_le _⟩ (fun i ys σ H2 _ ⟨_, _, _, s2, _⟩ => SqT.of (s2 _ _ ha)) ?_ ?_
  ·rintro i v T ys σ H2 hv hT ⟨v0, v1, rfl, s2, pr2, hl2⟩
   have hi : i < xs.length := (List.getElem?_eq_some_iff.mp hv).1
   have sT : Same H2 (upd H2 T (.par [.int (i : Int), v])) := Zd hT
   refine ⟨T, _, rfl, SqT.ofP Zc, rfl, _, _, rfl, _, _, rfl, rfl, ?_⟩
   refine ⟨_, rfl, _, rfl, ?_⟩
   generalize hH3 : upd H2 T (HO.par [V.int (i : Int), v]) = H3 at sT
   rcases Yu la.ly (List.mem_of_getElem? hv) with rfl | ⟨r, rfl, _⟩
   ·refine iteF ⟨_, _, rfl, s2.trans sT, ?_, by omega⟩
    rw [Yj, hv]
    exact (by simpa [rowV] using Paired.mapP pr2 fun v q' hq => hq.same sT)
   ·refine iteT ?_
    refine ⟨_, rfl, _, rfl, (by show 2 ≤ sizeLine; decide), fun t ht => ⟨by rw [sizeLine_eq]; omega, ?_⟩⟩
    have s4 : Same H3 (upd H3 t (.tup [.int (i : Int), .int r])) := Zd ht
    refine ⟨_, _, rfl, s2.trans (sT.trans s4), ?_, by rw [List.length_append]; simp; omega⟩
    rw [Yj, hv]
    exact Paired.snoc (Paired.mapP pr2 fun v q' hq => hq.same (sT.trans s4)) ⟨t, rfl, Zc⟩
  ·rintro ys σ H2 ⟨v0, v1, rfl, s2, pr2, hl2⟩ p hp
   have s4 : Same H2 (upd H2 p (.lst ys)) := Zd hp
   exact q p _ ys (s1.trans (s2.trans s4)) Zc (Paired.mapP pr2 fun v q' hq => hq.same s4)
theorem UP {f : Addr} {fd : FuncData} (F : Fun K "points" "points" sPoints f fd) (D1 : DefR P w K mg base 6 "need_lay" ["board", "lay"] (spNLx K aB aL)) : FnOk P w K mg base (CXR P w) 7 f fd ["board", "lay"] (spNLx K aB aL) := by
 refine F.okR scPoints (fun vs H Q E h => ?_) (fun cdv A outer s H vs Q E hr h => ?_)
 ·obtain ⟨x, y, C, rfl, _⟩ := h
  rfl
 ·obtain ⟨x, y, C, rfl, b, q⟩ := h
  refine ⟨_, Ze (ZU (Yl D1 hr (Za (pv 0) (Za (pv 1) Zb)))) Zp, ?_⟩
  exact ⟨x, rfl, y, rfl, x, y, C, rfl, b, q⟩
abbrev sIP : Stmt := top 27
def spIP (K : PySem.W.Frag) : Sp := fun vs H Q _ => ∃ (b : Addr) (v : V) (wd hg : Int) (x : Int × Int), vs = [.ref b, v] ∧ H b = some (.tup [.int wd, .int hg]) ∧ PtAt H v x ∧ (0 ≤ x.1 ∧ x.1 < wd) ∧ (0 ≤ x.2 ∧ x.2 < hg) ∧ ∀ H', Same H H' → Q (.bl true) H'
theorem scIP : FnScope ["board", "thing"] ["board", "thing"] (defScope sIP) := ⟨rfl, rfl, rfl, by decide +kernel, rfl, by decide +kernel, by decide +kernel⟩
theorem ZdM {f : Addr} {fd : FuncData} (F : Fun K "is_point" "is_point" sIP f fd) (G : Gs mg) (D1 : Def P w K mg base 1 "is_tuple_of" ["thing", "many"] (spTupOf K)) (D2 : Def P w K mg base 2 "is_whole_within" ["thing", "least", "most"] (spWithin K)) :
  FnOk P w K mg base CX0 3 f fd ["board", "thing"] (spIP K) := by
 refine F.ok scIP (fun vs H Q E h => ?_) (fun cdv A outer s H vs Q E hr h => ?_)
 ·obtain ⟨b, v, wd, hg, x, rfl, _⟩ := h
  rfl
 ·obtain ⟨b, v, wd, hg, ⟨x, y⟩, rfl, hb, ⟨t, rfl, ht⟩, hx, hy, q⟩ := h
  refine ⟨_, Zi (Zq (Z7 (Zh D1 (hr.mono (by decide)) (Za (pv 1) (Za Zf Zb)))
   (Z4 (Zk Ye rfl G.all boot_all (Za (ZM ["at", "side"] 2 [] (WT rfl G.zip (Za (pv 1) (Za (pv 0) Zb)))
    (fun C s H fp => show PG (blk _ _ _ C s H fp) _ (gTup K 2 (gCons (gName 0) (gCons (gName 1) gNil))) from ZY rfl (Zn (pb 0) (Zn (pb 1) ZP))) (fun C s H fp => ZQ)
    (fun C s H fp D => ZE rfl (Zh D2 (hr.mono (by decide)) (Za (pv 0) (Za Zf (Za (Zu ZZ (pv 1) Zf) Zb)))))) Zb))))), ?_⟩
  refine ⟨_, rfl, .ref t, 2, rfl, ⟨_, .tup ht⟩, _, rfl, ?_⟩
  rw [Zo ht]
  show if decide ((2 : Int) = 2) = true then _ else _
  rw [decide_eq_true rfl]
  refine iteT ⟨_, rfl, _, rfl, t, b, rfl, ⟨_, _, SqT.of ht, SqT.of hb⟩, ?_⟩
  refine Js (xs := [.int x, .int y]) (zs := [.int wd, .int hg]) rfl (fun i zs σ H2 => ∃ v0 v1, σ = [v0, v1] ∧ Same H H2 ∧ zs = List.replicate i (V.bl true)) ⟨_, _, rfl, Same.refl _, rfl⟩ (fun i zs σ H2 _ ⟨_, _, _, s2, _⟩ => ⟨SqT.of (s2 _ _ ht), SqT.of (s2 _ _ hb)⟩) ?_ ?_
  ·rintro i u v T zs σ H2 hu hv hT ⟨v0, v1, rfl, s2, rfl⟩
   have sT := Zd (o := .par [u, v]) hT
   obtain ⟨a, sd, rfl, rfl, h0, h1⟩ : ∃ a sd : Int, u = .int a ∧ v = .int sd ∧ 0 ≤ a ∧ a < sd := by
    match i, hu, hv with
    | 0, hu, hv => cases hu; cases hv; exact ⟨_, _, rfl, rfl, hx.1, hx.2⟩
    | 1, hu, hv => cases hu; cases hv; exact ⟨_, _, rfl, rfl, hy.1, hy.2⟩
   have hi : i < 2 := (List.getElem?_eq_some_iff.mp hu).1
   refine ⟨T, _, rfl, SqT.ofP Zc, rfl, _, _, rfl, _, _, rfl, rfl, ?_⟩
   refine ⟨_, rfl, _, rfl, _, _, rfl, rfl, .int a, 0, sd - 1, rfl, ⟨_, .int a⟩, by rw [List.length_replicate, sizeLine_eq]; omega, _, _, rfl, s2.trans sT, ?_⟩
   rw [WJ h0 (by omega), List.replicate_succ']
  ·rintro zs σ H2 ⟨v0, v1, rfl, s2, rfl⟩ p hp
   refine ⟨p, List.replicate 2 true, rfl, SqL.of Zc, ?_⟩
   exact q _ (s2.trans (Zd hp))
abbrev sLO : Stmt := top 28
def spLO (K : PySem.W.Frag) : Sp := fun vs H Q _ => ∃ (b L : Addr) (ps : List V) (qs : List (Int × Int)) (wd hg : Int), vs = [.ref b, .ref L] ∧ BoardAt H (.ref b) wd hg ∧ H L = some (.lst ps) ∧ Paired (PtAt H) ps qs ∧ InB wd hg qs ∧ Dis qs ∧ qs.length ≤ 12 ∧ ∀ (t : Addr) H', Same H H' → H' t = some (.tup (layOfL wd.toNat qs)) → Q (.ref t) H'
theorem scLO : FnScope ["board", "points", "rows", "line", "row"] ["board", "points"] (defScope sLO) := ⟨rfl, rfl, rfl, by decide +kernel, rfl, by decide +kernel, by decide +kernel⟩
theorem ZdK {f : Addr} {fd : FuncData} (F : Fun K "lay_of" "lay_of" sLO f fd) (G : Gs mg) (D1 : Def P w K mg base 4 "need_board" ["board"] (spNeedBoard K)) (D2 : Def P w K mg base 3 "is_point" ["board", "thing"] (spIP K)) : FnOk P w K mg base CX0 5 f fd ["board", "points"] (spLO K) := by
 refine F.ok scLO (fun vs H Q E h => ?_) (fun cdv A outer s H vs Q E hr h => ?_)
 ·obtain ⟨b, L, ps, qs, wd, hg, rfl, _⟩ := h
  rfl
 ·obtain ⟨b, L, ps, qs, wd, hg, rfl, bd, hL, pr, inb, dis, hlen, q⟩ := h
  refine ⟨_, Ze (ZU (Zh D1 hr (Za (pv 0) Zb)))
   (Ze (ZI (PW.pt (YI (ZX (ZO (Zk (Zx (c := "list")) rfl G.isinstance boot_isinstance (Za (pv 1) (Za (Zy (v := .ty "list") rfl G.list boot_list rfl) Zb)))))
     (Yi (ZX (ZO (Zk Ye rfl G.all boot_all (Za (ZM ["point", "board"] 1 [0] (Yg (pv 1)) (fun C s H fp => pb 0) (fun C s H fp => ZQ)
      (fun C s H fp D => ZE rfl (Zh D2 (hr.mono (by decide)) (Za (pv 1) (Za (pv 0) Zb))))) Zb))))))) Zp Zt)
   (Ze (Zv (i := 2) scLO.nd rfl (Or.inl rfl) (Zu Zbx (ZG (Za Yq Zb)) (ZB ZK (pv 0) Zf (fun _ _ => rfl))))
   (Ze (Yo PassesOwn.never rfl (Yg (pv 1)) (ZY rfl (Zn (ZC (i := 3) scLO.nd rfl (Or.inl rfl)) (Zn (ZC (i := 4) scLO.nd rfl (Or.inl rfl)) ZP)))
    (Ze (ZI (PW.pt (YI (Yf (JI (ZB ZJ (pv 2) (pv 3) (fun _ _ => rfl)))) (Yi (ZA ZaI (pv 4) (pv 2) rfl)))) Zp Zt)
    (Zi (Yp (pv 4) (JQ (pv 2) (pv 3) YH)))))
   (Zi (Zq (ZL ZT rfl G.tuple boot_tuple (Za (pv 2) Zb))))))), ?_⟩
  obtain ⟨_, w1, w12, g1, g12⟩ := id bd
  obtain ⟨b', eb, hb⟩ := Zw bd.1
  cases eb
  have lp : ps.length = qs.length := Paired.length pr
  refine Zl ⟨_, rfl, .ref b, wd, hg, rfl, bd, fun H1 s1 => ?_⟩
  dsimp only
  have hL1 := s1 _ _ hL
  have hb1 := s1 _ _ hb
  refine Zl ⟨_, rfl, _, _, _, rfl, .lst hL1, (show _ = some true from rfl), _, rfl, iteF ?_⟩
  refine ⟨_, rfl, L, rfl, ⟨ps, SqL.of hL1⟩, ?_⟩
  refine YW (xs := ps) (fun i zs σ H2 => ∃ v0, σ = [v0, some (.ref b)] ∧ Same H1 H2 ∧ zs = List.replicate i (V.bl true)) ⟨_, rfl, Same.refl _, rfl⟩ (fun i zs σ H2 _ ⟨_, _, s2, _⟩ => SqL.of (s2 _ _ hL1)) ?_ ?_
  ·rintro i v zs σ H2 hv ⟨v0, rfl, s2, rfl⟩
   obtain ⟨x, hx, px⟩ := Z3 pr hv
   obtain ⟨hx1, hx2⟩ := inb x (List.mem_of_getElem? hx)
   have hi : i < ps.length := (List.getElem?_eq_some_iff.mp hv).1
   refine ⟨_, rfl, _, rfl, b, v, wd, hg, x, rfl, s2 _ _ hb1, px.same (s1.trans s2), hx1, hx2, fun H3 s3 => ⟨by rw [List.length_replicate, sizeLine_eq]; omega, _, rfl, s2.trans s3, ?_⟩⟩
   rw [List.replicate_succ']
  rintro zs σ H2 ⟨v0, rfl, s2, rfl⟩ p hp
  refine ⟨p, List.replicate ps.length true, rfl, ?_, ?_⟩
  ·rw [List.map_replicate]
   exact SqL.of Zc
  have ea : (List.replicate ps.length true).all id = true := by simp
  rw [ea]
  refine ⟨_, rfl, iteF (ZF ?_)⟩
  dsimp only
  have s3 := s2.trans (Zd (o := .lst (List.replicate ps.length (V.bl true))) hp)
  generalize upd H2 p (.lst (List.replicate ps.length (V.bl true))) = H3 at s3
  have hb3 := s3 _ _ hb1
  have hL3 := s3 _ _ hL1
  refine Zl (Zr ⟨(by show 1 ≤ sizeLine; decide), fun l0 h0 => ?_⟩)
  have s4 := Zd (o := .lst [V.non]) h0
  have e4 : upd H3 l0 (.lst [V.non]) l0 = some (.lst [V.non]) := Zc
  generalize upd H3 l0 (HO.lst [V.non]) = H4 at s4 e4
  refine ⟨_, rfl, b, _, _, _, rfl, rfl, SqT.of (s4 _ _ hb3), at0, l0, wd, _, rfl, rfl, e4, by omega, by omega, (by rw [sizeLine_eq]; show 1 * wd.toNat ≤ _; omega), fun R hR => Zm ?_⟩
  dsimp only [List.set]
  have er : (List.replicate wd.toNat [V.non]).flatten = layOfL wd.toNat [] := by rw [JP, ZaZ]
  rw [er]
  have hL4 := s4 _ _ hL3
  have s14 := s3.trans s4
  have prH : Paired (PtAt H4) ps qs := Paired.mapP pr fun v q' hq => hq.same (s1.trans s14)
  refine Zl ⟨_, rfl, L, rfl, ⟨ps, SqL.of ((Zd hR) _ _ hL4)⟩, ?_⟩
  refine YQ (xs := ps) (fun i σ H5 => ∃ v3 v4, σ = [some (.ref b), some (.ref L), some (.ref R), v3, v4] ∧ Same H4 H5 ∧ H5 R = some (.lst (layOfL wd.toNat (qs.take i)))) ⟨_, _, rfl, Zd hR, Zc⟩ (fun i σ H5 _ ⟨_, _, _, s5, _⟩ => SqL.of (s5 _ _ hL4)) ?_ ?_
  ·rintro i v σ H5 hv ⟨v3, v4, rfl, s5, e5⟩
   obtain ⟨x, hx, px⟩ := Z3 prH hv
   obtain ⟨t, rfl, ht⟩ := px.same s5
   obtain ⟨⟨x0, x1⟩, y0, y1⟩ := inb x (List.mem_of_getElem? hx)
   have hi : i < qs.length := (List.getElem?_eq_some_iff.mp hx).1
   have far : ∀ p ∈ qs.take i, p.1 ≠ x.1 ∧ p.2 ≠ x.2 := fun p hp => by
    obtain ⟨j, hj, e⟩ := List.getElem_of_mem hp
    rw [List.length_take] at hj
    rw [List.getElem_take] at e
    have := List.pairwise_iff_getElem.mp dis j i (by omega) hi (by omega)
    rw [e, (List.getElem?_eq_some_iff.mp hx).2] at this
    exact this
   refine ⟨t, _, rfl, SqT.of ht, rfl, _, _, rfl, _, _, rfl, rfl, ?_⟩
   dsimp only [List.set]
   have ek : x.1 = (x.1.toNat : Int) := by omega
   have hat : atI (layOfL wd.toNat (qs.take i)) x.1 = some .non := by
    rw [ek]
    refine YZ ?_
    rw [Jg (by omega), ← ek, Zbp fun p hp => (far p hp).1]
   refine Zl ⟨_, rfl, _, rfl, R, _, _, _, rfl, rfl, SqL.of e5, hat, ?_⟩
   refine ⟨_, rfl, iteF ?_⟩
   refine ⟨_, rfl, _, rfl, R, _, rfl, .inl (SqL.of e5), rfl, UV, ?_⟩
   have zi : inV (.int x.2) (layOfL wd.toNat (qs.take i)) = false := ZbU fun p hp => (far p hp).2
   rw [if_neg Bool.false_ne_true, zi]
   refine ⟨_, rfl, iteF (ZF ?_)⟩
   dsimp only
   refine Zr ⟨_, rfl, _, rfl, _, rfl, R, _, x.1, x.1.toNat, rfl, rfl, e5, WZ x0 (by rw [Ya]; omega), ?_⟩
   refine ⟨_, _, rfl, Wp s5 hR, ?_⟩
   rw [Zc, ZaY x0, List.take_add_one, hx]
   rfl
  ·rintro σ H5 ⟨v3, v4, rfl, s5, e5⟩
   rw [lp, List.take_length] at e5
   refine ⟨_, rfl, R, _, rfl, .inl ⟨SqL.of e5, fun t ht => ?_⟩⟩
   exact q t _ (s1.trans (s14.trans (s5.trans (Zd ht)))) Zc
end
end U
set_option Elab.async false
set_option linter.all false
set_option maxRecDepth 100000
set_option maxHeartbeats 40000000
namespace U
open PySem L2 PyProof.Rows
section
theorem WY {xs : List V} {wd hg : Int} : isLayV wd hg (some xs) = true ↔ (xs.length : Int) = wd ∧ (∀ v ∈ xs, v = .non ∨ wholeIn v 0 (hg - 1) = true) ∧ xs.Pairwise fun a b => a = b → a = .non := by
 have pw : (rowsOf xs).Nodup ↔ xs.Pairwise fun a b => a = b → a = .non := by
  unfold rowsOf List.Nodup
  rw [List.pairwise_filter]
  constructor
  ·intro h
   refine h.imp fun {a b} h e => ?_
   by_cases z : a = .non
   ·exact z
   ·exact absurd e (h (by simp [z]) (by rw [← e]; simp [z]))
  ·intro h
   refine h.imp fun {a b} h p1 p2 e => ?_
   rw [h e] at p1
   simp at p1
 have al : ((rowsOf xs).all fun r => wholeIn r 0 (hg - 1)) = true ↔ ∀ v ∈ xs, v = .non ∨ wholeIn v 0 (hg - 1) = true := by
  rw [List.all_eq_true]
  unfold rowsOf
  constructor
  ·intro h v hv
   by_cases z : v = .non
   ·exact .inl z
   ·exact .inr (h v (List.mem_filter.mpr ⟨hv, by simp [z]⟩))
  ·intro h v hv
   obtain ⟨h1, h2⟩ := List.mem_filter.mp hv
   rcases h v h1 with z | z
   ·rw [z] at h2; simp at h2
   ·exact z
 unfold isLayV
 rw [Bool.and_eq_true, Bool.and_eq_true, decide_eq_true_iff, decide_eq_true_iff, al, pw, and_assoc]
theorem U8 {xs : List V} {wd hg : Int} (h : isLayV wd hg (some xs) = true) : ∀ n, Dis (ptsTo xs n)
 | 0 => .nil
 | n + 1 => by
  rw [Yj]
  unfold Dis
  rw [List.pairwise_append]
  refine ⟨U8 h n, ?_, fun a ha b hb => ?_⟩
  ·cases ((xs[n]?).bind rowV).map fun r => ((n : Int), r) <;> simp
  ·obtain ⟨k, hk, e1, e2⟩ := Zbm ha
   cases e3 : xs[n]? with
   | none => rw [e3] at hb; cases hb
   | some v =>
    rw [e3] at hb
    cases v with
    | int r =>
     obtain rfl : b = ((n : Int), r) := List.mem_singleton.mp hb
     refine ⟨by show a.1 ≠ (n : Int); omega, fun z => ?_⟩
     obtain ⟨_, _, h3⟩ := WY.mp h
     obtain ⟨k1, g1⟩ := List.getElem?_eq_some_iff.mp e2
     obtain ⟨n1, g2⟩ := List.getElem?_eq_some_iff.mp e3
     have := List.pairwise_iff_getElem.mp h3 k n k1 n1 hk (by rw [g1, g2, z])
     rw [g1] at this
     cases this
    | _ => cases hb
theorem U6 (xs : List V) : (pointsL xs).length ≤ xs.length := by
 have := List.length_filterMap_le (fun (l : Nat) => ((xs[l]?).bind rowV).map fun r => ((l : Int), r)) (List.range xs.length)
 rw [List.length_range] at this
 exact this
theorem ZcF {n x : Int} {l : Bool} (h0 : 0 ≤ x) (h1 : x < n) : 0 ≤ tA n l x ∧ tA n l x < n := by
 unfold tA
 cases l
 ·rw [if_neg Bool.false_ne_true]; exact ⟨h0, h1⟩
 ·rw [if_pos rfl]; omega
theorem ZcE {n x y : Int} {l : Bool} (h : x ≠ y) : tA n l x ≠ tA n l y := by
 unfold tA
 cases l
 ·rw [if_neg Bool.false_ne_true, if_neg Bool.false_ne_true]; exact h
 ·rw [if_pos rfl, if_pos rfl]; omega
theorem Zbf {wd hg : Int} {q : Bool × Bool × Bool} {ps : List (Int × Int)} (h : InB wd hg ps) : InB (tW wd hg q) (tH wd hg q) (ps.map (tpt wd hg q)) := fun x hx => by
 obtain ⟨y, hy, rfl⟩ := List.mem_map.mp hx
 obtain ⟨⟨a0, a1⟩, b0, b1⟩ := h y hy
 obtain ⟨o, l, r⟩ := q
 have z1 := ZcF (l := l) a0 a1
 have z2 := ZcF (l := r) b0 b1
 cases o
 ·exact ⟨z1, z2⟩
 ·exact ⟨z2, z1⟩
theorem Zce {wd hg : Int} {q : Bool × Bool × Bool} {ps : List (Int × Int)} (h : Dis ps) : Dis (ps.map (tpt wd hg q)) := by
 unfold Dis
 rw [List.pairwise_map]
 refine List.Pairwise.imp (fun {a b} hab => ?_) h
 obtain ⟨o, l, r⟩ := q
 have z1 := ZcE (n := wd) (l := l) hab.1
 have z2 := ZcE (n := hg) (l := r) hab.2
 cases o
 ·exact ⟨z1, z2⟩
 ·exact ⟨z2, z1⟩
end
end U
namespace U
open PySem L2 PyProof.Rows
section
variable {P : Program} {w : World} {K : PySem.W.Frag} {mg : Str → Option Value} {base : Heap} {aB aL aT : Addr}
abbrev turnedL (wd hg : Int) (q : Bool × Bool × Bool) (xs : List V) : List V := layOfL (tW wd hg q).toNat ((pointsL xs).map (tpt wd hg q))
end
end U
set_option Elab.async false
set_option linter.all false
set_option maxRecDepth 100000
set_option maxHeartbeats 40000000
namespace U
open PySem L2 PyProof.Rows
section
theorem UC {a b : V} {l : Bool} : atI [a, b] (bi l) = some (if l = true then b else a) := by cases l <;> rfl
def kvsOf (ps : List (Int × Int)) : List (Key × V) := ps.map fun p => (Sum.inl p.1, .int p.2)
theorem Uj {k : Int} : ∀ (ps : List (Int × Int)) (kvs : List (Key × V)) (v : V), (valV kvs (Sum.inl k)).getD .non = v → (valV (mergeK kvs (kvsOf ps)) (Sum.inl k)).getD .non = ps.foldl (fun v p => if k = p.1 then V.int p.2 else v) v
 | [], _, _, h => h
 | p :: ps, kvs, v, h => by
  refine Uj ps (putK kvs (Sum.inl p.1) (.int p.2)) (if k = p.1 then V.int p.2 else v) ?_
  rw [Zbc]
  by_cases z : k = p.1
  ·rw [if_pos z, if_pos (by rw [z])]; rfl
  ·rw [if_neg z, if_neg (fun e => z (Sum.inl.inj e))]; exact h
end
end U
namespace U
open PySem L2 PyProof.Rows
section
variable {P : Program} {w : World} {K : PySem.W.Frag} {mg : Str → Option Value} {base : Heap}
abbrev sMv : Stmt := top 51
def spMv : Sp := fun vs H Q _ => ∃ (b t p : Addr) (wd hg : Int) (x : Int × Int) (q : Bool × Bool × Bool), vs = [.ref b, .ref t, .ref p] ∧ H b = some (.tup [.int wd, .int hg]) ∧ H t = some (.tup (tv q)) ∧ H p = some (.tup [.int x.1, .int x.2]) ∧ ∀ (r : Addr) H', Same H H' → H' r = some (.tup [.int (tpt wd hg q x).1, .int (tpt wd hg q x).2]) → Q (.ref r) H'
theorem scMv : FnScope ["_law_board", "_law_turn_here", "_law_point", "_law_over", "_law_lines", "_law_rows", "_law_line", "_law_row"] ["_law_board", "_law_turn_here", "_law_point"] (defScope sMv) := ⟨rfl, rfl, rfl, by decide +kernel, rfl, by decide +kernel, by decide +kernel⟩
theorem ZdH {f : Addr} {fd : FuncData} (F : Fun K "_law_moved" "_law_moved" sMv f fd) : FnOk P w K mg base CX0 1 f fd ["_law_board", "_law_turn_here", "_law_point"] spMv := by
 refine F.ok scMv (fun vs H Q E h => ?_) (fun cdv A outer s H vs Q E hr h => ?_)
 ·obtain ⟨b, t, p, wd, hg, x, q, rfl, _⟩ := h
  rfl
 ·obtain ⟨b, t, p, wd, hg, ⟨x, y⟩, ⟨o, l, r⟩, rfl, hb, ht, hp, q⟩ := h
  refine ⟨_, Ze (Yp (pv 1) (ZY rfl (Zn (ZC (i := 3) scMv.nd rfl (Or.inl rfl)) (Zn (ZC (i := 4) scMv.nd rfl (Or.inl rfl)) (Zn (ZC (i := 5) scMv.nd rfl (Or.inl rfl)) ZP)))))
   (Ze (Zv (i := 6) scMv.nd rfl (Or.inl rfl) (ZB ZJ (ZG (Za (ZB ZK (pv 2) Zf (fun _ _ => rfl)) (Za (Zu ZZ (Zu ZZ (ZB ZK (pv 0) Zf (fun _ _ => rfl)) Zf) (ZB ZK (pv 2) Zf (fun _ _ => rfl))) Zb))) (pv 4) (fun _ _ => rfl)))
   (Ze (Zv (i := 7) scMv.nd rfl (Or.inl rfl) (ZB ZJ (ZG (Za (ZB ZK (pv 2) Zf (fun _ _ => rfl)) (Za (Zu ZZ (Zu ZZ (ZB ZK (pv 0) Zf (fun _ _ => rfl)) Zf) (ZB ZK (pv 2) Zf (fun _ _ => rfl))) Zb))) (pv 5) (fun _ _ => rfl)))
   (Zi (Zq (ZB ZJ (ZG (Za (Zs (Za (pv 6) (Za (pv 7) Zb))) (Za (Zs (Za (pv 7) (Za (pv 6) Zb))) Zb))) (pv 3) (fun _ _ => rfl)))))), ?_⟩
  refine Zl (Zr ⟨_, rfl, t, _, rfl, SqT.of ht, rfl, _, _, rfl, _, _, rfl, _, _, rfl, rfl, ?_⟩)
  dsimp only [List.set]
  refine Zl (Zr ⟨_, rfl, p, _, _, _, rfl, rfl, SqT.of hp, at0, _, rfl, b, _, _, _, rfl, rfl, SqT.of hb, at0, _, _, rfl, rfl, _, rfl, p, _, _, _, rfl, rfl, SqT.of hp, at0, _, _, rfl, rfl, (by show 2 ≤ sizeLine; decide), fun L hL => ?_⟩)
  have s1 := Zd (o := .lst [V.int x, V.int (wd - 1 - x)]) hL
  have e1 : upd H L (.lst [V.int x, V.int (wd - 1 - x)]) L = some (.lst [V.int x, V.int (wd - 1 - x)]) := Zc
  try dsimp only
  generalize upd H L (HO.lst [V.int x, V.int (wd - 1 - x)]) = H1 at s1 e1
  refine ⟨_, rfl, L, _, _, _, rfl, rfl, SqL.of e1, UC, Zm ?_⟩
  try dsimp only [List.set]
  have el : (if l = true then V.int (wd - 1 - x) else V.int x) = .int (tA wd l x) := by cases l <;> rfl
  rw [el]
  refine Zl (Zr ⟨_, rfl, p, _, _, _, rfl, rfl, SqT.of (s1 _ _ hp), at1, _, rfl, b, _, _, _, rfl, rfl, SqT.of (s1 _ _ hb), at1, _, _, rfl, rfl, _, rfl, p, _, _, _, rfl, rfl, SqT.of (s1 _ _ hp), at1, _, _, rfl, rfl, (by show 2 ≤ sizeLine; decide), fun L2' hL2 => ?_⟩)
  have s2 := Zd (o := .lst [V.int y, V.int (hg - 1 - y)]) hL2
  have e2 : upd H1 L2' (.lst [V.int y, V.int (hg - 1 - y)]) L2' = some (.lst [V.int y, V.int (hg - 1 - y)]) := Zc
  try dsimp only
  generalize upd H1 L2' (HO.lst [V.int y, V.int (hg - 1 - y)]) = H2 at s2 e2
  refine ⟨_, rfl, L2', _, _, _, rfl, rfl, SqL.of e2, UC, Zm ?_⟩
  try dsimp only [List.set]
  have er : (if r = true then V.int (hg - 1 - y) else V.int y) = .int (tA hg r y) := by cases r <;> rfl
  rw [er]
  refine ⟨_, rfl, _, rfl, (by show 2 ≤ sizeLine; decide), fun t1 h1 => ?_⟩
  have s3 := Zd (o := .tup [V.int (tA wd l x), V.int (tA hg r y)]) h1
  have e3 : upd H2 t1 (.tup [V.int (tA wd l x), V.int (tA hg r y)]) t1 = some (.tup [V.int (tA wd l x), V.int (tA hg r y)]) := Zc
  generalize upd H2 t1 (HO.tup [V.int (tA wd l x), V.int (tA hg r y)]) = H3 at s3 e3
  refine ⟨_, rfl, _, rfl, (by show 2 ≤ sizeLine; decide), fun t2 h2 => ?_⟩
  have s4 := Zd (o := .tup [V.int (tA hg r y), V.int (tA wd l x)]) h2
  have e4 : upd H3 t2 (.tup [V.int (tA hg r y), V.int (tA wd l x)]) t2 = some (.tup [V.int (tA hg r y), V.int (tA wd l x)]) := Zc
  generalize upd H3 t2 (HO.tup [V.int (tA hg r y), V.int (tA wd l x)]) = H4 at s4 e4
  refine ⟨(by show 2 ≤ sizeLine; decide), fun L3 hL3 => ?_⟩
  have s5 := Zd (o := .lst [V.ref t1, V.ref t2]) hL3
  have e5 : upd H4 L3 (.lst [V.ref t1, V.ref t2]) L3 = some (.lst [V.ref t1, V.ref t2]) := Zc
  generalize upd H4 L3 (HO.lst [V.ref t1, V.ref t2]) = H5 at s5 e5
  have sA := s1.trans (s2.trans (s3.trans (s4.trans s5)))
  refine ⟨_, rfl, L3, _, _, _, rfl, rfl, SqL.of e5, UC, ?_⟩
  cases o with
  | true => exact q t2 _ sA (s5 _ _ e4)
  | false => exact q t1 _ sA ((s4.trans s5) _ _ e3)
abbrev sBB : Stmt := top 52
def spBB : Sp := fun vs H Q _ => ∃ (b t : Addr) (wd hg : Int) (q : Bool × Bool × Bool), vs = [.ref b, .ref t] ∧ H b = some (.tup [.int wd, .int hg]) ∧ H t = some (.tup (tv q)) ∧ ∀ (c : Addr) H', Same H H' → H' c = some (.tup [.int (tW wd hg q), .int (tH wd hg q)]) → Q (.ref c) H'
theorem scBB : FnScope ["_law_board", "_law_turn_here"] ["_law_board", "_law_turn_here"] (defScope sBB) := ⟨rfl, rfl, rfl, by decide +kernel, rfl, by decide +kernel, by decide +kernel⟩
theorem ZdO {f : Addr} {fd : FuncData} (F : Fun K "_law_board_by" "_law_board_by" sBB f fd) : FnOk P w K mg base CX0 1 f fd ["_law_board", "_law_turn_here"] spBB := by
 refine F.ok scBB (fun vs H Q E h => ?_) (fun cdv A outer s H vs Q E hr h => ?_)
 ·obtain ⟨b, t, wd, hg, q, rfl, _⟩ := h
  rfl
 ·obtain ⟨b, t, wd, hg, ⟨o, l, r⟩, rfl, hb, ht, q⟩ := h
  refine ⟨_, Zi (Zq (ZB ZJ (ZG (Za (pv 0) (Za (Zs (Za (ZB ZK (pv 0) Zf (fun _ _ => rfl)) (Za (ZB ZK (pv 0) Zf (fun _ _ => rfl)) Zb))) Zb))) (ZB ZK (pv 1) Zf (fun _ _ => rfl)) (fun _ _ => rfl))), ?_⟩
  refine ⟨_, rfl, _, rfl, b, _, _, _, rfl, rfl, SqT.of hb, at1, _, rfl, b, _, _, _, rfl, rfl, SqT.of hb, at0, (by show 2 ≤ sizeLine; decide), fun t1 h1 => ?_⟩
  have s1 := Zd (o := .tup [V.int hg, V.int wd]) h1
  have e1 : upd H t1 (.tup [V.int hg, V.int wd]) t1 = some (.tup [V.int hg, V.int wd]) := Zc
  generalize upd H t1 (HO.tup [V.int hg, V.int wd]) = H1 at s1 e1
  refine ⟨(by show 2 ≤ sizeLine; decide), fun L hL => ?_⟩
  have s2 := Zd (o := .lst [V.ref b, V.ref t1]) hL
  have e2 : upd H1 L (.lst [V.ref b, V.ref t1]) L = some (.lst [V.ref b, V.ref t1]) := Zc
  generalize upd H1 L (HO.lst [V.ref b, V.ref t1]) = H2 at s2 e2
  refine ⟨_, rfl, t, _, _, _, rfl, rfl, SqT.of ((s1.trans s2) _ _ ht), rfl, L, _, _, _, rfl, rfl, SqL.of e2, UC, ?_⟩
  cases o with
  | true => exact q t1 _ (s1.trans s2) (s2 _ _ e1)
  | false => exact q b _ (s1.trans s2) ((s1.trans s2) _ _ hb)
abbrev sLTu : Stmt := top 53
def spLTu (K : PySem.W.Frag) : Sp := fun vs H Q _ => ∃ (b l t : Addr) (xs : List V) (wd hg : Int) (q : Bool × Bool × Bool), vs = [.ref b, .ref l, .ref t] ∧ LayAt K H (.ref b) l xs wd hg ∧ H t = some (.tup (tv q)) ∧ ∀ (u : Addr) H', Same H H' → H' u = some (.tup (turnedL wd hg q xs)) → Q (.ref u) H'
theorem scLTu : FnScope ["_law_board", "_law_lay_here", "_law_turn_here", "_law_there"] ["_law_board", "_law_lay_here", "_law_turn_here"] (defScope sLTu) := ⟨rfl, rfl, rfl, by decide +kernel, rfl, by decide +kernel, by decide +kernel⟩
theorem Zdd {f : Addr} {fd : FuncData} (F : Fun K "_law_turned" "_law_turned" sLTu f fd) (G : Gs mg) (D1 : Def P w K mg base 1 "_law_moved" ["_law_board", "_law_turn_here", "_law_point"] spMv) (D2 : Def P w K mg base 1 "_law_board_by" ["_law_board", "_law_turn_here"] spBB) :
  FnOk P w K mg base CX0 2 f fd ["_law_board", "_law_lay_here", "_law_turn_here"] (spLTu K) := by
 refine F.ok scLTu (fun vs H Q E h => ?_) (fun cdv A outer s H vs Q E hr h => ?_)
 ·obtain ⟨b, l, t, xs, wd, hg, q, rfl, _⟩ := h
  rfl
 ·obtain ⟨b, a, t, xs, wd, hg, x, rfl, la, ht, q⟩ := h
  have hu := ZdR hr
  refine ⟨_, Ze (Zv (i := 3) scLTu.nd rfl (Or.inr rfl) (ZL Wk rfl G.dict boot_dict (Za (ZM ["_law_line", "_law_row", "_law_board", "_law_turn_here"] 2 [0, 2] (Zad rfl G.enumerate (Za (pv 1) Zb))
    (fun C s H fp => show PG (blk _ _ _ C s H fp) _ (gTup K 2 (gCons (gName 0) (gCons (gName 1) gNil))) from ZY rfl (Zn (pb 0) (Zn (pb 1) ZP)))
    (fun C s H fp => Jb (Yf (JI (pv 1)))) (fun C s H fp D => ZE rfl (Zh D1 hr (Za (pv 2) (Za (pv 3) (Za (Zs (Za (pv 0) (Za (pv 1) Zb))) Zb)))))) Zb)))
   (Zi (Zq (ZL ZT rfl G.tuple boot_tuple (Za (ZM ["_law_line", "_law_there"] 1 [3] (Z9 rfl G.range (Za (ZB ZK (Zh D2 hr (Za (pv 0) (Za (pv 2) Zb))) Zf (fun _ _ => rfl)) Zb)) (fun C s H fp => pb 0) (fun C s H fp => ZQ)
    (fun C s H fp D => ZE rfl (Zbt hu (pv 1) (pv 0) ⟨rfl, rfl, rfl, rfl⟩))) Zb)))), ?_⟩
  obtain ⟨_, w1, w12, g1, g12⟩ := id la.bd
  obtain ⟨b', eb, hb⟩ := Zw la.bd.1
  cases eb
  have ha := la.at_
  have hl := Jf la.ly
  refine Zl (Zr ⟨_, rfl, a, rfl, ⟨xs, SqT.of ha⟩, ?_⟩)
  refine Ww (xs := xs) (fun i ys σ H2 => ∃ v0 v1, σ = [v0, v1, some (.ref b), some (.ref t)] ∧ Same H H2 ∧ PrV H2 ys (kvsOf ((ptsTo xs i).map (tpt wd hg x))) ∧ ys.length ≤ i) ⟨_, _, rfl, Same.refl _, .nil, Nat.zero_le _⟩ (fun i ys σ H2 _ ⟨_, _, _, s2, _⟩ => SqT.of (s2 _ _ ha)) ?_ ?_
  ·rintro i v T ys σ H2 hv hT ⟨v0, v1, rfl, s2, pr2, hl2⟩
   have hi : i < xs.length := (List.getElem?_eq_some_iff.mp hv).1
   have sT : Same H2 (upd H2 T (.par [.int (i : Int), v])) := Zd hT
   refine ⟨T, _, rfl, SqT.ofP Zc, rfl, _, _, rfl, _, _, rfl, rfl, ?_⟩
   refine ⟨_, rfl, _, rfl, ?_⟩
   generalize hH3 : upd H2 T (HO.par [V.int (i : Int), v]) = H3 at sT
   rcases Yu la.ly (List.mem_of_getElem? hv) with rfl | ⟨r, rfl, _⟩
   ·refine iteF ⟨_, _, rfl, s2.trans sT, ?_, by omega⟩
    rw [Yj, hv]
    exact (by simpa [rowV] using Paired.mapP pr2 fun v q' ⟨bb, e, hbb⟩ => ⟨bb, e, sT _ _ hbb⟩)
   ·refine iteT ?_
    refine ⟨_, rfl, _, rfl, _, rfl, _, rfl, (by show 2 ≤ sizeLine; decide), fun t4 h4 => ?_⟩
    have s4 := Zd (o := .tup [V.int (i : Int), V.int r]) h4
    have e4 : upd H3 t4 (.tup [V.int (i : Int), V.int r]) t4 = some (.tup [V.int (i : Int), V.int r]) := Zc
    generalize upd H3 t4 (HO.tup [V.int (i : Int), V.int r]) = H4 at s4 e4
    have s24 := s2.trans (sT.trans s4)
    refine ⟨b, t, t4, wd, hg, ((i : Int), r), x, rfl, s24 _ _ hb, s24 _ _ ht, e4, fun u H5 s5 e5 => ⟨by rw [sizeLine_eq]; omega, _, _, rfl, s24.trans s5, ?_, by rw [List.length_append]; simp; omega⟩⟩
    have ep : kvsOf ((ptsTo xs (i + 1)).map (tpt wd hg x)) = kvsOf ((ptsTo xs i).map (tpt wd hg x)) ++ [(Sum.inl (tpt wd hg x ((i : Int), r)).1, V.int (tpt wd hg x ((i : Int), r)).2)] := by
     rw [Yj, hv]
     unfold kvsOf
     rw [List.map_append, List.map_append]
     rfl
    rw [ep]
    exact Paired.snoc (Paired.mapP pr2 fun v q' ⟨bb, e, hbb⟩ => ⟨bb, e, (sT.trans (s4.trans s5)) _ _ hbb⟩) ⟨u, rfl, e5⟩
  ·rintro ys σ H2 ⟨v0, v1, rfl, s2, pr2, hl2⟩ L hL
   have s3 := Zd (o := .lst ys) hL
   have e3 : upd H2 L (.lst ys) L = some (.lst ys) := Zc
   generalize upd H2 L (.lst ys) = H3 at s3 e3
   have pr3 : PrV H3 ys (kvsOf ((pointsL xs).map (tpt wd hg x))) := Paired.mapP pr2 fun v q' ⟨bb, e, hbb⟩ => ⟨bb, e, s3 _ _ hbb⟩
   have l12 : (kvsOf ((pointsL xs).map (tpt wd hg x))).length ≤ 1000 := by
    unfold kvsOf
    rw [List.length_map, List.length_map]
    have h1 := U6 xs
    omega
   have hm : ∀ k : Int, (valV (mergeK [] (kvsOf ((pointsL xs).map (tpt wd hg x)))) (Sum.inl k)).getD .non = ptV ((pointsL xs).map (tpt wd hg x)) k := fun k => Uj _ [] .non rfl
   refine ⟨L, ys, _, rfl, e3, pr3, l12, fun d hd => Zm ?_⟩
   dsimp only [List.set]
   generalize mergeK [] (kvsOf ((pointsL xs).map (tpt wd hg x))) = kvs at hm
   have s4 := Zd (o := .dK kvs) hd
   have e4 : upd H3 d (.dK kvs) d = some (.dK kvs) := Zc
   generalize upd H3 d (.dK kvs) = H4 at s4 e4
   have sA := s2.trans (s3.trans s4)
   refine ⟨_, rfl, _, rfl, b, t, wd, hg, x, rfl, sA _ _ hb, sA _ _ ht, fun c H5 s5 e5 => ?_⟩
   have hW : 1 ≤ tW wd hg x ∧ tW wd hg x ≤ 12 := by
    unfold tW
    split <;> omega
   refine ⟨c, _, _, _, rfl, rfl, SqT.of e5, at0, _, rfl, by omega, by omega, ?_⟩
   have e45 := s5 _ _ e4
   refine J0 (n := (tW wd hg x).toNat) (fun j ys σ H6 => ys = (turnedL wd hg x xs).take j ∧ H6 = H5 ∧ ∃ v, σ = [v, some (.ref d)]) ⟨rfl, rfl, none, rfl⟩ ?_ ?_
   ·rintro j ys σ H6 hj ⟨rfl, rfl, v, rfl⟩
    have look : DGet H6 d (.int (0 + (j : Int))) (valV kvs (Sum.inl (j : Int))) := by
     rw [Int.zero_add]
     exact DGet.k (k := Sum.inl (j : Int)) e45
    refine ⟨_, rfl, d, rfl, .inl ⟨_, .inl e45⟩, _, rfl, _, look, ?_, ?_, rfl, _, rfl⟩
    ·rw [List.length_take, sizeLine_eq]; omega
    ·rw [List.take_add_one, Jg hj, ← hm]
     rfl
   ·rintro ys σ H6 ⟨rfl, rfl, v, rfl⟩ L6 hL6
    refine ⟨L6, _, rfl, .inl ⟨SqL.of Zc, fun t' ht' => ?_⟩⟩
    refine q t' _ (sA.trans (s5.trans ((Zd hL6).trans (Zd ht')))) ?_
    rw [Zc, List.take_of_length_le (by rw [Ya]; exact Nat.le_refl _)]
end
end U
set_option Elab.async false
set_option linter.all false
set_option maxRecDepth 100000
set_option maxHeartbeats 40000000
namespace U
open PySem L2 PyProof.Rows
section
theorem Ws {X : Cx} {k : Nat} {x : Str} {sp : Sp} {p pos : Pos} (d : Def X.prog X.w X.K X.mg X.base k x [] sp) (hr : Room k X.A) (hg : Gl X x := by rfl) (hdb : (x == ("__debug__" : Str)) = false := by decide) : PE X (.Call (.Name x p) [] [] pos) (tCall sp [] E0 tNil) := by
 obtain ⟨f, fd, F, hm, hk, hb⟩ := d
 exact Zbw F hr hg hm hk hb .nil pass0 hdb
theorem Jc {α β γ : Type} {R : α → γ → Prop} {f : β → γ} : ∀ {xs : List α} {ys : List β}, Paired R xs (ys.map f) → Paired (fun x y => R x (f y)) xs ys
 | _, [], h => by cases h; exact .nil
 | _, _ :: _, h => by
  cases h with
  | cons h1 h2 => exact .cons h1 (Jc h2)
def LAt (H : Hp) (v : V) (l : List Bool) : Prop := ∃ t : Addr, v = .ref t ∧ H t = some (.tup (l.map fun b => V.int (bi b)))
theorem LAt.same {H H' : Hp} {v : V} {l : List Bool} (h : LAt H v l) (s : Same H H') : LAt H' v l := by
 obtain ⟨t, e, h1⟩ := h
 exact ⟨t, e, s _ _ h1⟩
def TrAt (H : Hp) (v : V) (q : Bool × Bool × Bool) : Prop := ∃ t : Addr, v = .ref t ∧ H t = some (.tup (tv q))
theorem TrAt.same {H H' : Hp} {v : V} {q : Bool × Bool × Bool} (h : TrAt H v q) (s : Same H H') : TrAt H' v q := by
 obtain ⟨t, e, h1⟩ := h
 exact ⟨t, e, s _ _ h1⟩
def two (l : List Bool) : List (List Bool) := [l ++ [false], l ++ [true]]
def allK : Nat → List (List Bool)
 | 0 => [[]]
 | k + 1 => (allK k).flatMap two
def allT : List (Bool × Bool × Bool) := [(false, false, false), (false, false, true), (false, true, false), (false, true, true), (true, false, false), (true, false, true), (true, true, false), (true, true, true)]
theorem Zdx : allK 3 = allT.map fun q => [q.1, q.2.1, q.2.2] := by decide
theorem Zcc : ∀ {k : Nat}, k ≤ 3 → (allK k).length ≤ 8 ∧ ∀ l ∈ allK k, l.length = k := by
 intro k h
 rcases (by omega : k = 0 ∨ k = 1 ∨ k = 2 ∨ k = 3) with rfl | rfl | rfl | rfl <;> exact ⟨by decide, by decide⟩
end
end U
namespace U
open PySem L2 PyProof.Rows
section
variable {P : Program} {w : World} {K : PySem.W.Frag} {mg : Str → Option Value} {base : Heap}
abbrev sAT : Stmt := top 54
def spAT : Sp := fun vs H Q _ => vs = [] ∧ ∀ (L : Addr) H' (ts : List V), Same H H' → H' L = some (.lst ts) → Paired (TrAt H') ts allT → Q (.ref L) H'
theorem scAT : FnScope ["_law_found", "_law_k", "_law_longer", "_law_one"] [] (defScope sAT) := ⟨rfl, rfl, rfl, by decide +kernel, rfl, by decide +kernel, by decide +kernel⟩
theorem ZdP {f : Addr} {fd : FuncData} (F : Fun K "_law_all_turns" "_law_all_turns" sAT f fd) (G : Gs mg) : FnOk P w K mg base CX0 1 f fd [] spAT := by
 refine F.ok scAT (fun vs H Q E h => ?_) (fun cdv A outer s H vs Q E hr h => ?_)
 ·obtain ⟨rfl, _⟩ := h
  rfl
 ·obtain ⟨rfl, q⟩ := h
  refine ⟨_, Ze (Zv (i := 0) scAT.nd rfl (Or.inl rfl) (ZG (Za (Zs Zb) Zb)))
   (Ze (Yo PassesOwn.never rfl (Z9 rfl G.range (Za Zf Zb)) (ZC (i := 1) scAT.nd rfl (Or.inl rfl))
    (Ze (Zv (i := 2) scAT.nd rfl (Or.inl rfl) (ZG Zb))
    (Ze (Yo PassesOwn.never rfl (Yg (pv 0)) (ZC (i := 3) scAT.nd rfl (Or.inl rfl))
     (Zi (ZU (Jy PySem.F.plainAttrs_list PySem.F.slot_list_extend PySem.F.type_list_extend ZaR (pv 2) (Za (ZG (Za (Zu YV (pv 3) (Zs (Za Zf Zb))) (Za (Zu YV (pv 3) (Zs (Za Zf Zb))) Zb))) Zb)))))
    (Zi (Zv (i := 0) scAT.nd rfl (Or.inl rfl) (pv 2))))))
   (Zi (Zq (pv 0)))), ?_⟩
  refine Zl (Zr ⟨Nat.zero_le _, fun t0 h0 => ⟨(by show 1 ≤ sizeLine; decide), fun L0 hL0 => Zm ?_⟩⟩)
  dsimp only [List.set]
  have s1 := Zd (o := .tup []) h0
  have e1 : upd H t0 (.tup []) t0 = some (.tup []) := Zc
  generalize upd H t0 (.tup []) = H1 at s1 e1 hL0
  have s2 := Zd (o := .lst [V.ref t0]) hL0
  have e2 : upd H1 L0 (.lst [V.ref t0]) L0 = some (.lst [V.ref t0]) := Zc
  generalize upd H1 L0 (.lst [V.ref t0]) = H2 at s2 e2
  refine Zl ⟨3, rfl, by decide, by decide, ?_⟩
  refine Yx (n := 3) (fun i σ H' => ∃ (L : Addr) (ts : List V) (v1 v2 v3 : Option V), σ = [some (.ref L), v1, v2, v3] ∧ Same H H' ∧ H' L = some (.lst ts) ∧ Paired (LAt H') ts (allK i)) ⟨L0, _, _, _, _, rfl, s1.trans s2, e2, .cons ⟨t0, rfl, s2 _ _ e1⟩ .nil⟩ ?_ ?_
  ·rintro i σ H3 hi ⟨L, ts, v1, v2, v3, rfl, s3, e3, pr⟩
   refine Zm ?_
   dsimp only [List.set]
   refine Zl (Zr ⟨Nat.zero_le _, fun M hM => Zm ?_⟩)
   dsimp only [List.set]
   obtain ⟨k8, kl⟩ := Zcc (k := i) (by omega)
   have lt : ts.length = (allK i).length := Paired.length pr
   refine Zl ⟨_, rfl, L, rfl, ⟨ts, SqL.of (Zd hM _ _ e3)⟩, ?_⟩
   refine YQ (xs := ts) (fun j σ H4 => ∃ (ws : List V) (v3 : Option V), σ = [some (.ref L), some (.int (0 + (i : Int))), some (.ref M), v3] ∧ Same H3 H4 ∧ H4 M = some (.lst ws) ∧ Paired (LAt H4) ws (((allK i).take j).flatMap two)) ⟨[], _, rfl, Zd hM, Zc, .nil⟩ (fun j σ H4 _ ⟨_, _, _, s4, _⟩ => SqL.of (s4 _ _ e3)) ?_ ?_
   ·rintro j v σ H4 hv ⟨ws, v3, rfl, s4, e4, pw⟩
    obtain ⟨l, hl, pl⟩ := Z3 pr hv
    obtain ⟨t, rfl, ht⟩ := pl.same s4
    have ll := kl l (List.mem_of_getElem? hl)
    have hj : j < ts.length := (List.getElem?_eq_some_iff.mp hv).1
    have lw : ws.length ≤ 16 := by
     have h1 := Paired.length pw
     have h2 : ∀ ks : List (List Bool), (ks.flatMap two).length = 2 * ks.length := fun ks => by
      induction ks with
      | nil => rfl
      | cons a r ih => rw [List.flatMap_cons, List.length_append, ih, List.length_cons]; show 2 + _ = _; omega
     rw [h2, List.length_take] at h1
     omega
    refine Zm ?_
    dsimp only [List.set]
    refine ⟨_, rfl, .inl ⟨rfl, _, SqL.of e4⟩, _, rfl, (by show 1 ≤ sizeLine; decide), fun ta hta => ?_⟩
    have sa := Zd (o := .tup [V.int 0]) hta
    refine catA (sa _ _ ht) Zc (by rw [List.length_map, sizeLine_eq]; show l.length + 1 ≤ _; omega) fun c1 H5 s5 e5 => ?_
    have s45 := sa.trans s5
    refine ⟨_, rfl, (by show 1 ≤ sizeLine; decide), fun tb htb => ?_⟩
    have sb := Zd (o := .tup [V.int 1]) htb
    refine catA ((s45.trans sb) _ _ ht) Zc (by rw [List.length_map, sizeLine_eq]; show l.length + 1 ≤ _; omega) fun c2 H6 s6 e6 => ?_
    have s56 := sb.trans s6
    refine ⟨(by show 2 ≤ sizeLine; decide), fun N hN => ?_⟩
    have sn := Zd (o := .lst [V.ref c1, V.ref c2]) hN
    have en : upd H6 N (.lst [V.ref c1, V.ref c2]) N = some (.lst [V.ref c1, V.ref c2]) := Zc
    generalize upd H6 N (.lst [V.ref c1, V.ref c2]) = H7 at sn en
    have s47 := s45.trans (s56.trans sn)
    refine ⟨M, N, ws, _, rfl, rfl, s47 _ _ e4, en, (by rw [sizeLine_eq]; show ws.length + 2 ≤ _; omega), ?_⟩
    have hMn : H3 M = none := hM
    have s7 := s4.trans s47
    have keep : ∀ {v : V} {l : List Bool}, LAt H7 v l → LAt (upd H7 M (.lst (ws ++ [V.ref c1, V.ref c2]))) v l := fun ⟨t, e, h⟩ => ⟨t, e, by rw [Zg (fun z => by rw [z, s47 _ _ e4] at h; cases h)]; exact h⟩
    refine ⟨_, _, rfl, Wp s7 hMn, Zc, ?_⟩
    rw [List.take_add_one, hl, List.flatMap_append]
    have p1 : LAt H7 (.ref c1) (l ++ [false]) := ⟨c1, rfl, by rw [List.map_append]; exact (s56.trans sn) _ _ e5⟩
    have p2 : LAt H7 (.ref c2) (l ++ [true]) := ⟨c2, rfl, by rw [List.map_append]; exact sn _ _ e6⟩
    have pw' : Paired (LAt (upd H7 M (.lst (ws ++ [V.ref c1, V.ref c2])))) ws (((allK i).take j).flatMap two) := Paired.mapP pw fun v l h => keep (h.same s47)
    have := Paired.snoc (Paired.snoc pw' (keep p1)) (keep p2)
    rw [List.append_assoc, List.append_assoc] at this
    exact this
   ·rintro σ H4 ⟨ws, v3, rfl, s4, e4, pw⟩
    rw [lt, List.take_length] at pw
    dsimp only
    refine Zr ⟨_, rfl, Zm ?_⟩
    exact ⟨M, ws, _, _, _, rfl, s3.trans s4, e4, pw⟩
  ·rintro σ H3 ⟨L, ts, v1, v2, v3, rfl, s3, e3, pr⟩
   rw [Zdx] at pr
   exact ⟨_, rfl, q L H3 ts s3 e3 (Paired.mapP (Jc (R := LAt H3) pr) fun v q h => h)⟩
end
end U
set_option Elab.async false
set_option linter.all false
set_option maxRecDepth 100000
set_option maxHeartbeats 40000000
namespace U
open PySem L2 PyProof.Rows
section
theorem Jq {K : PySem.W.Frag} {H : Hp} {Pt : Addr} {ps : Array Value} {v : V} (t : Pl1 K H v) (h : H Pt = some (.tbl ps)) : NoRef Pt H v := ⟨WS t.1 h, fun xs e y hy => WS (t.2 xs e y hy) h⟩
theorem BoardAt.x {H H' : Hp} {p : Addr} {x : V} {wd hg : Int} (b : BoardAt H x wd hg) (s : SameX p H H') (hn : x ≠ .ref p) : BoardAt H' x wd hg := by
 obtain ⟨a, e, h⟩ := Zw b.1
 subst e
 exact ⟨Zo (s _ _ h fun z => hn (by rw [z])), b.2⟩
theorem BoardAt.tbl {H : Hp} {Pt : Addr} {ps : Array Value} {x : V} {wd hg : Int} (b : BoardAt H x wd hg) (h : H Pt = some (.tbl ps)) : x ≠ .ref Pt := by
 obtain ⟨a, e, h'⟩ := Zw b.1
 subst e
 intro z
 cases z
 rw [h] at h'
 cases h'
end
end U
set_option Elab.async false
set_option linter.all false
set_option maxRecDepth 100000
set_option maxHeartbeats 4000000
namespace L2
open PySem PySem.Spec PyProof.Rows
theorem SqT.keep {K : PySem.W.Frag} {H H' : Hp} {a : Addr} {xs : List V} (h : SqT K H a xs) (s : Same H H') : SqT K H' a xs := by
 rcases h with (h | ⟨o, h⟩) | h | h
 ·exact .inl (.inl (s _ _ h))
 ·exact .inl (.inr ⟨o, s _ _ h⟩)
 ·exact .inr (.inl h)
 ·exact .inr (.inr (s _ _ h))
end L2
namespace U
open PySem L2 PyProof.Rows
section
variable {P : Program} {w : World} {K : PySem.W.Frag} {mg : Str → Option Value} {base : Heap} {aB aL aT : Addr}
def spTupK (K : PySem.W.Frag) : Sp := fun vs H Q _ => ∃ (a : Addr) (xs : List V) (n : Int), vs = [.ref a, .int n] ∧ SqT K H a xs ∧ Q (.bl (decide ((xs.length : Int) = n))) H
theorem Zcm {f : Addr} {fd : FuncData} (F : Fun K "is_tuple_of" "is_tuple_of" sTupOf f fd) (G : Gs mg) : FnOk P w K mg base CX0 1 f fd ["thing", "many"] (spTupK K) := by
 refine F.ok scTupOf (fun vs H Q E h => ?_) (fun cdv A outer s H vs Q E hr h => ?_)
 ·obtain ⟨a, xs, n, rfl, _⟩ := h
  rfl
 ·obtain ⟨a, xs, n, rfl, t, q⟩ := h
  refine ⟨_, Zi (Zq (Z7 (Zk (YF (c := "tuple")) rfl G.isinstance boot_isinstance (Za (pv 0) (Za (Zy (v := .ty "tuple") rfl G.tuple boot_tuple rfl) Zb)))
   (Z4 (Z6 Z8 (Zk ZD rfl G.len boot_len (Za (pv 0) Zb)) (pv 1) (nomark _))))), ?_⟩
  refine ⟨_, rfl, a, xs, true, rfl, t, rfl, _, rfl, iteT ⟨_, rfl, a, xs, rfl, .inr t, _, rfl, rfl, ?_⟩⟩
  have z : decide (V.int (xs.length : Int) = V.int n) = decide ((xs.length : Int) = n) := by simp
  rw [z]
  exact q
def spTurnK (K : PySem.W.Frag) : Sp := fun vs H Q _ => ∃ (t : Addr) (q : Bool × Bool × Bool), vs = [.ref t] ∧ SqT K H t (tv q) ∧ ∀ H', Same H H' → Q (.bl true) H'
abbrev sTurnK : Stmt := top 31
theorem scTurnK : FnScope ["thing"] ["thing"] (defScope sTurnK) := ⟨rfl, rfl, rfl, by decide +kernel, rfl, by decide +kernel, by decide +kernel⟩
theorem ZbA {f : Addr} {fd : FuncData} (F : Fun K "is_turn" "is_turn" sTurnK f fd) (G : Gs mg) (D1 : Def P w K mg base 1 "is_tuple_of" ["thing", "many"] (spTupK K)) (D2 : Def P w K mg base 2 "is_whole_within" ["thing", "least", "most"] (spWithin K)) :
  FnOk P w K mg base CX0 3 f fd ["thing"] (spTurnK K) := by
 refine F.ok scTurnK (fun vs H Q E h => ?_) (fun cdv A outer s H vs Q E hr h => ?_)
 ·obtain ⟨t, x, rfl, _⟩ := h
  rfl
 ·obtain ⟨t, x, rfl, ht, q⟩ := h
  refine ⟨_, Zi (Zq (Z7 (Zh D1 (hr.mono (by decide)) (Za (pv 0) (Za Zf Zb)))
   (Z4 (Zk Ye rfl G.all boot_all (Za (ZM ["part"] 1 [] (YJ (pv 0)) (fun C s H fp => pb 0) (fun C s H fp => ZQ)
    (fun C s H fp D => ZE rfl (Zh D2 (hr.mono (by decide)) (Za (pv 0) (Za Zf (Za Zf Zb)))))) Zb))))), ?_⟩
  refine ⟨_, rfl, t, tv x, 3, rfl, ht, _, rfl, ?_⟩
  rw [decide_eq_true (show ((tv x).length : Int) = 3 from rfl)]
  refine iteT ⟨_, rfl, t, rfl, ⟨tv x, ht⟩, ?_⟩
  refine Yt (xs := tv x) (fun i ys σ H2 => ys = List.replicate i (V.bl true) ∧ H2 = H ∧ ∃ v, σ = [v]) ⟨rfl, rfl, none, rfl⟩ (fun i ys σ H2 _ ⟨_, e2, _⟩ => by rw [e2]; exact ht) ?_ ?_
  ·rintro i y ys σ H2 hy ⟨rfl, rfl, v, rfl⟩
   have my : y ∈ tv x := List.mem_of_getElem? hy
   obtain ⟨b, rfl⟩ : ∃ b : Bool, y = .int (bi b) := by
    simp only [List.mem_cons, List.not_mem_nil, or_false] at my
    rcases my with rfl | rfl | rfl <;> exact ⟨_, rfl⟩
   have hi : i < 3 := (List.getElem?_eq_some_iff.mp hy).1
   refine ⟨_, rfl, _, 0, 1, rfl, ⟨_, .int _⟩, ?_, ?_⟩
   ·rw [List.length_replicate, sizeLine_eq]; omega
   ·refine ⟨?_, rfl, _, rfl⟩
    rw [show wholeIn (.int (bi b)) 0 1 = true by cases b <;> rfl, List.replicate_succ']
  ·rintro ys σ H2 ⟨rfl, rfl, v, rfl⟩ p hp
   refine ⟨p, List.replicate 3 true, rfl, SqL.of Zc, ?_⟩
   exact q _ (Zd hp)
def spNTK (K : PySem.W.Frag) : Sp := fun vs H Q _ => ∃ (t : Addr) (q : Bool × Bool × Bool), vs = [.ref t] ∧ SqT K H t (tv q) ∧ ∀ H', Same H H' → Q .non H'
abbrev sNTK : Stmt := top 32
theorem scNTK : FnScope ["turn"] ["turn"] (defScope sNTK) := ⟨rfl, rfl, rfl, by decide +kernel, rfl, by decide +kernel, by decide +kernel⟩
theorem Zda {f : Addr} {fd : FuncData} (F : Fun K "need_turn" "need_turn" sNTK f fd) (D1 : Def P w K mg base 3 "is_turn" ["thing"] (spTurnK K)) : FnOk P w K mg base CX0 4 f fd ["turn"] (spNTK K) := by
 refine F.ok scNTK (fun vs H Q E h => ?_) (fun cdv A outer s H vs Q E hr h => ?_)
 ·obtain ⟨t, x, rfl, _⟩ := h
  rfl
 ·obtain ⟨t, x, rfl, ht, q⟩ := h
  refine ⟨_, Zi (ZI (ZX (ZO (Zh D1 hr (Za (pv 0) Zb)))) Zp Zt), ?_⟩
  exact ⟨_, rfl, t, x, rfl, ht, fun H1 s1 => ⟨_, rfl, iteF (q H1 s1)⟩⟩
abbrev sTPK : Stmt := top 33
def spTPK (K : PySem.W.Frag) : Sp := fun vs H Q _ => ∃ (b p t : Addr) (wd hg : Int) (x : Int × Int) (q : Bool × Bool × Bool), vs = [.ref b, .ref p, .ref t] ∧ H b = some (.tup [.int wd, .int hg]) ∧ H p = some (.tup [.int x.1, .int x.2]) ∧ SqT K H t (tv q) ∧ ∀ (r : Addr) H', Same H H' → H' r = some (.tup [.int (tpt wd hg q x).1, .int (tpt wd hg q x).2]) → Q (.ref r) H'
theorem scTPK : FnScope ["board", "point", "turn", "line", "row", "over", "lines", "rows"] ["board", "point", "turn"] (defScope sTPK) := ⟨rfl, rfl, rfl, by decide +kernel, rfl, by decide +kernel, by decide +kernel⟩
theorem Zc6 {f : Addr} {fd : FuncData} (F : Fun K "turned_point" "turned_point" sTPK f fd) : FnOk P w K mg base CX0 1 f fd ["board", "point", "turn"] (spTPK K) := by
 refine F.ok scTPK (fun vs H Q E h => ?_) (fun cdv A outer s H vs Q E hr h => ?_)
 ·obtain ⟨b, p, t, wd, hg, x, q, rfl, _⟩ := h
  rfl
 ·obtain ⟨b, p, t, wd, hg, ⟨x, y⟩, ⟨o, l, r⟩, rfl, hb, hp, ht, q⟩ := h
  refine ⟨_, Ze (Yp (pv 1) (ZY rfl (Zn (ZC (i := 3) scTPK.nd rfl (Or.inl rfl)) (Zn (ZC (i := 4) scTPK.nd rfl (Or.inl rfl)) ZP))))
   (Ze (Yp (pv 2) (ZY rfl (Zn (ZC (i := 5) scTPK.nd rfl (Or.inl rfl)) (Zn (ZC (i := 6) scTPK.nd rfl (Or.inl rfl)) (Zn (ZC (i := 7) scTPK.nd rfl (Or.inl rfl)) ZP)))))
   (Ze (ZI (ZA Z8 (pv 6) Zf (nomark _)) (Zi (Zv (i := 3) scTPK.nd rfl (Or.inl rfl) (Zu ZZ (Zu ZZ (ZB ZK (pv 0) Zf (fun _ _ => rfl)) Zf) (pv 3)))) Zt)
   (Ze (ZI (ZA Z8 (pv 7) Zf (nomark _)) (Zi (Zv (i := 4) scTPK.nd rfl (Or.inl rfl) (Zu ZZ (Zu ZZ (ZB ZK (pv 0) Zf (fun _ _ => rfl)) Zf) (pv 4)))) Zt)
   (Zi (Zq (YK (ZA Z8 (pv 5) Zf (nomark _)) (Zs (Za (pv 4) (Za (pv 3) Zb))) (Zs (Za (pv 3) (Za (pv 4) Zb))))))))), ?_⟩
  refine Zl (Zr ⟨_, rfl, p, _, rfl, SqT.of hp, rfl, _, _, rfl, _, _, rfl, rfl, ?_⟩)
  dsimp only [List.set]
  refine Zl (Zr ⟨_, rfl, t, _, rfl, ht, rfl, _, _, rfl, _, _, rfl, _, _, rfl, rfl, ?_⟩)
  dsimp only [List.set]
  refine JM (fun σ H' => H' = H ∧ σ = [some (.ref b), some (.ref p), some (.ref t), some (.int (tA wd l x)), some (.int y), some (.int (bi o)), some (.int (bi l)), some (.int (bi r))]) ?_ ?_
  ·rintro σ H' ⟨rfl, rfl⟩
   refine JM (fun σ H2 => H2 = H' ∧ σ = [some (.ref b), some (.ref p), some (.ref t), some (.int (tA wd l x)), some (.int (tA hg r y)), some (.int (bi o)), some (.int (bi l)), some (.int (bi r))]) ?_ ?_
   ·rintro σ H2 ⟨rfl, rfl⟩
    refine ⟨_, rfl, rfl, _, rfl, ?_⟩
    rw [W6]
    cases o with
    | true => exact iteT ⟨_, rfl, _, rfl, (by show 2 ≤ sizeLine; decide), fun u hu => q u _ (Zd hu) Zc⟩
    | false => exact iteF ⟨_, rfl, _, rfl, (by show 2 ≤ sizeLine; decide), fun u hu => q u _ (Zd hu) Zc⟩
   ·intro D' hD
    refine ⟨_, rfl, rfl, _, rfl, ?_⟩
    rw [W6]
    cases r with
    | true => exact iteT (Zr ⟨_, rfl, b, _, _, _, rfl, rfl, SqT.of hb, at1, _, _, rfl, rfl, _, rfl, _, _, rfl, rfl, Zm (hD _ _ ⟨rfl, rfl⟩)⟩)
    | false => exact iteF (ZF (hD _ _ ⟨rfl, rfl⟩))
  ·intro D' hD
   refine ⟨_, rfl, rfl, _, rfl, ?_⟩
   rw [W6]
   cases l with
   | true => exact iteT (Zr ⟨_, rfl, b, _, _, _, rfl, rfl, SqT.of hb, at0, _, _, rfl, rfl, _, rfl, _, _, rfl, rfl, Zm (hD _ _ ⟨rfl, rfl⟩)⟩)
   | false => exact iteF (ZF (hD _ _ ⟨rfl, rfl⟩))
abbrev sTBK : Stmt := top 34
def spTBK (K : PySem.W.Frag) : Sp := fun vs H Q _ => ∃ (b t : Addr) (wd hg : Int) (q : Bool × Bool × Bool), vs = [.ref b, .ref t] ∧ BoardAt H (.ref b) wd hg ∧ SqT K H t (tv q) ∧ ∀ (c : Addr) H', Same H H' → BoardAt H' (.ref c) (tW wd hg q) (tH wd hg q) → Q (.ref c) H'
theorem scTBK : FnScope ["board", "turn"] ["board", "turn"] (defScope sTBK) := ⟨rfl, rfl, rfl, by decide +kernel, rfl, by decide +kernel, by decide +kernel⟩
theorem Zc8 {f : Addr} {fd : FuncData} (F : Fun K "turned_board" "turned_board" sTBK f fd) (D1 : Def P w K mg base 4 "need_board" ["board"] (spNeedBoard K)) (D2 : Def P w K mg base 4 "need_turn" ["turn"] (spNTK K)) : FnOk P w K mg base CX0 5 f fd ["board", "turn"] (spTBK K) := by
 refine F.ok scTBK (fun vs H Q E h => ?_) (fun cdv A outer s H vs Q E hr h => ?_)
 ·obtain ⟨b, t, wd, hg, q, rfl, _⟩ := h
  rfl
 ·obtain ⟨b, t, wd, hg, ⟨o, l, r⟩, rfl, bd, ht, q⟩ := h
  refine ⟨_, Ze (ZU (Zh D1 hr (Za (pv 0) Zb)))
   (Ze (ZU (Zh D2 hr (Za (pv 1) Zb)))
   (Zi (Zq (YK (ZA Z8 (ZB ZK (pv 1) Zf (fun _ _ => rfl)) Zf (nomark _)) (Zs (Za (ZB ZK (pv 0) Zf (fun _ _ => rfl)) (Za (ZB ZK (pv 0) Zf (fun _ _ => rfl)) Zb))) (pv 0))))), ?_⟩
  refine Zl ⟨_, rfl, .ref b, wd, hg, rfl, bd, fun H1 s1 => ?_⟩
  dsimp only
  have ht1 := ht.keep s1
  refine Zl ⟨_, rfl, t, _, rfl, ht1, fun H2 s2 => ?_⟩
  dsimp only
  have ht2 := ht1.keep s2
  have s12 := s1.trans s2
  obtain ⟨_, w1, w12, g1, g12⟩ := id bd
  obtain ⟨b', eb, hb⟩ := Zw bd.1
  cases eb
  have hb2 := s12 _ _ hb
  refine ⟨_, rfl, t, _, _, _, rfl, rfl, ht2, rfl, rfl, _, rfl, ?_⟩
  rw [W6]
  cases o with
  | true =>
   refine iteT ⟨_, rfl, b, _, _, _, rfl, rfl, SqT.of hb2, at1, _, rfl, b, _, _, _, rfl, rfl, SqT.of hb2, at0, (by show 2 ≤ sizeLine; decide), fun u hu => q u _ (s12.trans (Zd hu)) ⟨Zo Zc, g1, g12, w1, w12⟩⟩
  | false => exact iteF ⟨_, rfl, q b _ s12 (bd.same s12)⟩
abbrev sTuK : Stmt := top 35
def spTuK (K : PySem.W.Frag) : Sp := fun vs H Q _ => ∃ (b l t : Addr) (xs : List V) (wd hg : Int) (q : Bool × Bool × Bool), vs = [.ref b, .ref l, .ref t] ∧ LayAt K H (.ref b) l xs wd hg ∧ SqT K H t (tv q) ∧ ∀ (u : Addr) H', Same H H' → H' u = some (.tup (turnedL wd hg q xs)) → Q (.ref u) H'
theorem scTuK : FnScope ["board", "lay", "turn", "elder", "come"] ["board", "lay", "turn"] (defScope sTuK) := ⟨rfl, rfl, rfl, by decide +kernel, rfl, by decide +kernel, by decide +kernel⟩
theorem Zc5 {f : Addr} {fd : FuncData} (F : Fun K "turned" "turned" sTuK f fd) (D1 : Def P w K mg base 7 "points" ["board", "lay"] (spPoints K)) (D2 : Def P w K mg base 5 "turned_board" ["board", "turn"] (spTBK K)) (D3 : Def P w K mg base 5 "lay_of" ["board", "points"] (spLO K)) (D4 : Def P w K mg base 1 "turned_point" ["board", "point", "turn"] (spTPK K)) :
  FnOk P w K mg base CX0 8 f fd ["board", "lay", "turn"] (spTuK K) := by
 refine F.ok scTuK (fun vs H Q E h => ?_) (fun cdv A outer s H vs Q E hr h => ?_)
 ·obtain ⟨b, l, t, xs, wd, hg, q, rfl, _⟩ := h
  rfl
 ·obtain ⟨b, l, t, xs, wd, hg, x, rfl, la, ht, q⟩ := h
  refine ⟨_, Ze (Zv (i := 3) scTuK.nd rfl (Or.inl rfl) (Zh D1 hr (Za (pv 0) (Za (pv 1) Zb))))
   (Ze (Zv (i := 4) scTuK.nd rfl (Or.inl rfl) (Zh D2 (hr.mono (by decide)) (Za (pv 0) (Za (pv 2) Zb))))
   (Zi (Zq (Zh D3 (hr.mono (by decide)) (Za (pv 4) (Za (ZM ["point", "board", "turn"] 1 [0, 2] (Yg (pv 3)) (fun C s H fp => pb 0) (fun C s H fp => ZQ)
    (fun C s H fp D => ZE rfl (Zh D4 (hr.mono (by decide)) (Za (pv 1) (Za (pv 0) (Za (pv 2) Zb)))))) Zb)))))), ?_⟩
  refine Zl (Zr ⟨_, rfl, _, rfl, .ref b, l, xs, wd, hg, rfl, la, fun L H1 ps s1 e1 pr => Zm ?_⟩)
  dsimp only [List.set]
  have ht1 := ht.keep s1
  refine Zl (Zr ⟨_, rfl, _, rfl, b, t, wd, hg, x, rfl, la.bd.same s1, ht1, fun c H2 s2 bd2 => Zm ?_⟩)
  dsimp only [List.set]
  obtain ⟨b', eb, hb⟩ := Zw la.bd.1
  cases eb
  have s12 := s1.trans s2
  have e2 := s2 _ _ e1
  have pr2 : Paired (PtAt H2) ps (pointsL xs) := Paired.mapP pr fun v q' hq => hq.same s2
  have lp : ps.length = (pointsL xs).length := Paired.length pr
  have l12 : (pointsL xs).length ≤ 12 := by
   have h1 := U6 xs
   have h2 := Jf la.ly
   have h3 := la.bd.2.2.1
   omega
  refine ⟨_, rfl, _, rfl, L, rfl, ⟨ps, SqL.of e2⟩, ?_⟩
  refine YW (xs := ps) (fun i zs σ H3 => ∃ v0, σ = [v0, some (.ref b), some (.ref t)] ∧ Same H2 H3 ∧ Paired (PtAt H3) zs (((pointsL xs).take i).map (tpt wd hg x))) ⟨_, rfl, Same.refl _, .nil⟩ (fun i zs σ H3 _ ⟨_, _, s3, _⟩ => SqL.of (s3 _ _ e2)) ?_ ?_
  ·rintro i v zs σ H3 hv ⟨v0, rfl, s3, pr3⟩
   obtain ⟨y, hy, py⟩ := Z3 pr2 hv
   obtain ⟨t', rfl, ht'⟩ := py.same s3
   have hi : i < ps.length := (List.getElem?_eq_some_iff.mp hv).1
   have lz : zs.length ≤ 12 := by
    have := Paired.length pr3
    rw [List.length_map, List.length_take] at this
    omega
   refine ⟨_, rfl, _, rfl, _, rfl, b, t', t, wd, hg, y, x, rfl, (s12.trans s3) _ _ hb, ht', ht1.keep (s2.trans s3), fun r H4 s4 e4 => ⟨by rw [sizeLine_eq]; omega, _, rfl, s3.trans s4, ?_⟩⟩
   rw [List.take_add_one, hy, List.map_append]
   exact Paired.snoc (Paired.mapP pr3 fun v q' hq => hq.same s4) ⟨r, rfl, e4⟩
  ·rintro zs σ H3 ⟨v0, rfl, s3, pr3⟩ p hp
   rw [lp, List.take_length] at pr3
   have s4 := Zd (o := .lst zs) hp
   refine ⟨c, p, zs, _, tW wd hg x, tH wd hg x, rfl, bd2.same (s3.trans s4), Zc, Paired.mapP pr3 fun v q' hq => hq.same s4, Zbf (U7 la.ly), Zce (U8 la.ly _), by rw [List.length_map]; exact l12, fun u H5 s5 e5 => ?_⟩
   exact q u H5 (s12.trans (s3.trans (s4.trans s5))) e5
def spTBy (K : PySem.W.Frag) (aB : Addr) : Sp := fun vs H _ E => ∃ x y, vs = [x, y] ∧ BadBoard K H x ∧ ∀ e H', Same H H' → E (.ref e) (some aB) H'
theorem Zc7 {f : Addr} {fd : FuncData} (F : Fun K "turned_board" "turned_board" sTBK f fd) (R1 : DefR P w K mg base 4 "need_board" ["board"] (spNBx K aB)) : FnOk P w K mg base (CXR P w) 5 f fd ["board", "turn"] (spTBy K aB) := by
 refine F.okR scTBK (fun vs H Q E h => ?_) (fun cdv A outer s H vs Q E hr h => ?_)
 ·obtain ⟨x, y, rfl, _⟩ := h
  rfl
 ·obtain ⟨x, y, rfl, b, q⟩ := h
  refine ⟨_, Ze (ZU (Yl R1 hr (Za (pv 0) Zb))) Zp, ?_⟩
  exact ⟨x, rfl, x, rfl, b, q⟩
def spTuy (K : PySem.W.Frag) (aB aL : Addr) : Sp := fun vs H _ E => ∃ x y z C, vs = [x, y, z] ∧ BadL K aB aL H x y C ∧ ∀ e H', Same H H' → E (.ref e) (some C) H'
theorem Zc4 {f : Addr} {fd : FuncData} (F : Fun K "turned" "turned" sTuK f fd) (R1 : DefR P w K mg base 7 "points" ["board", "lay"] (spNLx K aB aL)) : FnOk P w K mg base (CXR P w) 8 f fd ["board", "lay", "turn"] (spTuy K aB aL) := by
 refine F.okR scTuK (fun vs H Q E h => ?_) (fun cdv A outer s H vs Q E hr h => ?_)
 ·obtain ⟨x, y, z, C, rfl, _⟩ := h
  rfl
 ·obtain ⟨x, y, z, C, rfl, b, q⟩ := h
  refine ⟨_, Ze (Zv (i := 3) scTuK.nd rfl (Or.inl rfl) (Yl R1 hr (Za (pv 0) (Za (pv 1) Zb)))) Zp, ?_⟩
  exact ⟨x, rfl, y, rfl, x, y, C, rfl, b, q⟩
end
end U
set_option Elab.async false
set_option linter.all false
set_option maxRecDepth 100000
set_option maxHeartbeats 4000000
namespace U
open PySem L2 PyProof.Rows PyProof.Rows.Tim
def nlV : V → Int
 | .int i => i
 | _ => -1
def NR (ys : List V) : Prop := ∀ y ∈ ys, y = .non ∨ ∃ i : Int, y = .int i ∧ 0 ≤ i
theorem NR.ni {ys : List V} (h : NR ys) : ys.all niV = true := by
 rw [List.all_eq_true]
 intro y hy
 rcases h y hy with rfl | ⟨i, rfl, _⟩ <;> rfl
theorem Z0 {wd hg : Int} {q : Bool × Bool × Bool} {xs : List V} (ly : isLayV wd hg (some xs) = true) : NR (turnedL wd hg q xs) := fun y hy => by
 rcases Jt hy with rfl | ⟨p, hp, rfl⟩
 ·exact .inl rfl
 ·exact .inr ⟨_, rfl, (Zbf (q := q) (U7 ly) p hp).2.1⟩
theorem ZbT {wd hg : Int} {xs : List V} (ly : isLayV wd hg (some xs) = true) : NR xs := fun y hy => by
 rcases Yu ly hy with h | ⟨i, e, h, _⟩
 ·exact .inl h
 ·exact .inr ⟨i, e, h⟩
def TnG (K : PySem.W.Frag) (mg : Str → Option Value) : Prop := ∃ (aT : Addr) (ts : List Addr), mg "TURNS" = some (.ref aT) ∧ (∀ H, SqT K H aT (ts.map V.ref)) ∧ Paired (fun t q => ∀ H, SqT K H t (tv q)) ts allT
def LedAt (wd hg : Int) (xs : List V) (H : Hp) (v : V) (q : Bool × Bool × Bool) : Prop := ∃ t c u : Addr, v = .ref t ∧ H t = some (.tup [.ref c, .ref u]) ∧ BoardAt H (.ref c) (tW wd hg q) (tH wd hg q) ∧ H u = some (.tup (turnedL wd hg q xs))
theorem LedAt.same {wd hg : Int} {xs : List V} {H H' : Hp} {v : V} {q : Bool × Bool × Bool} (h : LedAt wd hg xs H v q) (s : Same H H') : LedAt wd hg xs H' v q := by
 obtain ⟨t, c, u, e, h1, h2, h3⟩ := h
 exact ⟨t, c, u, e, s _ _ h1, h2.same s, s _ _ h3⟩
section
variable {P : Program} {w : World} {K : PySem.W.Frag} {mg : Str → Option Value} {base : Heap} {aB aL aT : Addr}
abbrev sAll : Stmt := top 36
def spAll (K : PySem.W.Frag) : Sp := fun vs H Q _ => ∃ (b l : Addr) (xs : List V) (wd hg : Int), vs = [.ref b, .ref l] ∧ LayAt K H (.ref b) l xs wd hg ∧ ∀ (L : Addr) H' (ps : List V), Same H H' → H' L = some (.lst ps) → Paired (LedAt wd hg xs H') ps allT → Q (.ref L) H'
theorem scAll : FnScope ["board", "lay"] ["board", "lay"] (defScope sAll) := ⟨rfl, rfl, rfl, by decide +kernel, rfl, by decide +kernel, by decide +kernel⟩
theorem Y6 {ts : List Addr} {i : Nat} {v : V} (h : (ts.map V.ref)[i]? = some v) : ∃ t, ts[i]? = some t ∧ v = .ref t := by
 rw [List.getElem?_map] at h
 cases e : ts[i]? with
 | none => rw [e] at h; cases h
 | some t => rw [e] at h; cases h; exact ⟨t, rfl, rfl⟩
theorem Zdh {f : Addr} {fd : FuncData} (F : Fun K "all_turned" "all_turned" sAll f fd) (T : TnG K mg) (D1 : Def P w K mg base 5 "turned_board" ["board", "turn"] (spTBK K)) (D2 : Def P w K mg base 8 "turned" ["board", "lay", "turn"] (spTuK K)) : FnOk P w K mg base CX0 9 f fd ["board", "lay"] (spAll K) := by
 obtain ⟨aT, ts, hm, hq, pt⟩ := T
 refine F.ok scAll (fun vs H Q E h => ?_) (fun cdv A outer s H vs Q E hr h => ?_)
 ·obtain ⟨b, l, xs, wd, hg, rfl, _⟩ := h
  rfl
 ·obtain ⟨b, l, xs, wd, hg, rfl, la, q⟩ := h
  refine ⟨_, Zi (Zq (ZM ["turn", "board", "lay"] 1 [0, 1] (YJ (Z5 (v := .ref aT) rfl hm rfl)) (fun C s H fp => pb 0) (fun C s H fp => ZQ)
    (fun C s H fp D => ZE rfl (Zs (Za (Zh D1 (hr.mono (by decide)) (Za (pv 1) (Za (pv 0) Zb))) (Za (Zh D2 (hr.mono (by decide)) (Za (pv 1) (Za (pv 2) (Za (pv 0) Zb)))) Zb)))))), ?_⟩
  refine ⟨aT, rfl, ⟨_, hq H⟩, ?_⟩
  have lt : ts.length = 8 := Paired.length pt
  refine Yt (xs := ts.map V.ref) (fun i zs σ H2 => ∃ v0, σ = [v0, some (.ref b), some (.ref l)] ∧ Same H H2 ∧ Paired (LedAt wd hg xs H2) zs (allT.take i)) ⟨_, rfl, Same.refl _, .nil⟩ (fun i zs σ H2 _ _ => hq H2) ?_ ?_
  ·rintro i v zs σ H2 hv ⟨v0, rfl, s2, pr⟩
   obtain ⟨t, ht, rfl⟩ := Y6 hv
   obtain ⟨y, hy, py⟩ := Z3 pt ht
   have hi : i < ts.length := (List.getElem?_eq_some_iff.mp ht).1
   refine ⟨_, rfl, _, rfl, b, t, wd, hg, y, rfl, la.bd.same s2, py H2, fun c H3 s3 b3 => ?_⟩
   refine ⟨_, rfl, _, rfl, _, rfl, b, l, t, xs, wd, hg, y, rfl, la.same (s2.trans s3), py H3, fun u H4 s4 e4 => ?_⟩
   refine ⟨(by show 2 ≤ sizeLine; decide), fun p hp => ?_⟩
   have s5 := Zd (o := .tup [V.ref c, V.ref u]) hp
   have e5 : upd H4 p (.tup [V.ref c, V.ref u]) p = some (.tup [V.ref c, V.ref u]) := Zc
   generalize upd H4 p (.tup [V.ref c, V.ref u]) = H5 at s5 e5
   have lz : zs.length ≤ 8 := by
    have := Paired.length pr
    rw [List.length_take] at this
    omega
   have s25 := s3.trans (s4.trans s5)
   refine ⟨by rw [sizeLine_eq]; omega, _, rfl, s2.trans s25, ?_⟩
   rw [List.take_add_one, hy]
   exact Paired.snoc (Paired.mapP pr fun v q' h => h.same s25) ⟨p, c, u, rfl, e5, b3.same (s4.trans s5), s5 _ _ e4⟩
  ·rintro zs σ H2 ⟨v0, rfl, s2, pr⟩ p hp
   rw [List.length_map, lt] at pr
   have s3 := Zd (o := .lst zs) hp
   exact q p _ zs (s2.trans s3) Zc (Paired.mapP pr fun v q' h => h.same s3)
abbrev sNl : Stmt := top 37
def spNl : Sp := fun vs H Q _ => ∃ (t c u : Addr) (wd hg : Int) (ys : List V), vs = [.ref t] ∧ H t = some (.tup [.ref c, .ref u]) ∧ H c = some (.tup [.int wd, .int hg]) ∧ H u = some (.tup ys) ∧ NR ys ∧ ys.length ≤ 12 ∧ ∀ v H', Same H H' → KpAt H' v (wd :: hg :: ys.map nlV) → Q v H'
theorem scNl : FnScope ["led", "board", "lay"] ["led"] (defScope sNl) := ⟨rfl, rfl, rfl, by decide +kernel, rfl, by decide +kernel, by decide +kernel⟩
theorem Zdc {f : Addr} {fd : FuncData} (F : Fun K "none_least" "none_least" sNl f fd) (G : Gs mg) : FnOk P w K mg base CX0 1 f fd ["led"] spNl := by
 refine F.ok scNl (fun vs H Q E h => ?_) (fun cdv A outer s H vs Q E hr h => ?_)
 ·obtain ⟨t, c, u, wd, hg, ys, rfl, _⟩ := h
  rfl
 ·obtain ⟨t, c, u, wd, hg, ys, rfl, ht, hc, hu, nr, lu, q⟩ := h
  refine ⟨_, Ze (Yp (pv 0) (ZY rfl (Zn (ZC (i := 1) scNl.nd rfl (Or.inl rfl)) (Zn (ZC (i := 2) scNl.nd rfl (Or.inl rfl)) ZP))))
   (Zi (Zq (Zs (Za (pv 1) (Za (ZL ZT rfl G.tuple boot_tuple (Za (ZM ["row"] 1 [] (YJ (pv 2)) (fun C s H fp => pb 0) (fun C s H fp => ZQ)
    (fun C s H fp D => ZE rfl (YK (Yf (Yr (pv 0))) (Zae WK Zf) (pv 0)))) Zb)) Zb))))), ?_⟩
  refine Zl (Zr ⟨_, rfl, t, _, rfl, SqT.of ht, rfl, _, _, rfl, _, _, rfl, rfl, ?_⟩)
  dsimp only [List.set]
  refine ⟨_, rfl, _, rfl, u, rfl, ⟨ys, SqT.of hu⟩, ?_⟩
  refine Yt (xs := ys) (fun i zs σ H2 => zs = ((ys.take i).map nlV).map V.int ∧ H2 = H ∧ ∃ v, σ = [v]) ⟨rfl, rfl, none, rfl⟩ (fun i zs σ H2 _ ⟨_, e2, _⟩ => by rw [e2]; exact SqT.of hu) ?_ ?_
  ·rintro i y zs σ H2 hy ⟨rfl, rfl, v, rfl⟩
   have hz : (((ys.take i).map nlV).map V.int).length < sizeLine := by rw [List.length_map, List.length_map, List.length_take, sizeLine_eq]; omega
   have e : ((ys.take (i + 1)).map nlV).map V.int = ((ys.take i).map nlV).map V.int ++ [V.int (nlV y)] := by rw [List.take_add_one, hy, List.map_append, List.map_append]; rfl
   refine ⟨_, rfl, _, rfl, ?_⟩
   rcases nr y (List.mem_of_getElem? hy) with rfl | ⟨r, rfl, _⟩
   ·exact iteT ⟨_, rfl, hz, e.symm, rfl, _, rfl⟩
   ·exact iteF ⟨_, rfl, hz, e.symm, rfl, _, rfl⟩
  ·rintro zs σ H2 ⟨rfl, rfl, v, rfl⟩ L hL
   rw [List.take_length]
   refine ⟨L, _, rfl, .inl ⟨SqL.of Zc, fun r hr' => ?_⟩⟩
   refine ⟨(by show 2 ≤ sizeLine; decide), fun p hp => ?_⟩
   have s1 := Zd (o := .lst ((ys.map nlV).map V.int)) hL
   generalize upd H2 L (.lst ((ys.map nlV).map V.int)) = H3 at s1 hr' hp
   have s2 := Zd (o := .tup ((ys.map nlV).map V.int)) hr'
   have e2 : upd H3 r (.tup ((ys.map nlV).map V.int)) r = some (.tup ((ys.map nlV).map V.int)) := Zc
   generalize upd H3 r (.tup ((ys.map nlV).map V.int)) = H4 at s2 e2 hp
   have s3 := Zd (o := .tup [V.ref c, V.ref r]) hp
   have sA := s1.trans (s2.trans s3)
   exact q _ _ sA ⟨p, c, r, wd, hg, ys.map nlV, rfl, Zc, sA _ _ hc, s3 _ _ e2, rfl⟩
def keyQ (wd hg : Int) (xs : List V) (q : Bool × Bool × Bool) : List Int := tW wd hg q :: tH wd hg q :: (turnedL wd hg q xs).map nlV
abbrev sLt : Stmt := top 38
def spLt (K : PySem.W.Frag) : Sp := fun vs H Q _ => ∃ (b l : Addr) (xs : List V) (wd hg : Int), vs = [.ref b, .ref l] ∧ LayAt K H (.ref b) l xs wd hg ∧ ∀ v q H', Same H H' → LedAt wd hg xs H' v q → (∀ p, lexB (keyQ wd hg xs p) (keyQ wd hg xs q) = false) → Q v H'
theorem scLt : FnScope ["board", "lay"] ["board", "lay"] (defScope sLt) := ⟨rfl, rfl, rfl, by decide +kernel, rfl, by decide +kernel, by decide +kernel⟩
theorem Zax (q : Bool × Bool × Bool) : q ∈ allT := by
 obtain ⟨a, b, c⟩ := q
 cases a <;> cases b <;> cases c <;> decide
theorem ZdI {f : Addr} {fd : FuncData} (F : Fun K "least_turned" "least_turned" sLt f fd) (G : Gs mg) (D1 : Def P w K mg base 9 "all_turned" ["board", "lay"] (spAll K)) (D2 : Def P w K mg base 1 "none_least" ["led"] spNl) : FnOk P w K mg base CX0 10 f fd ["board", "lay"] (spLt K) := by
 refine F.ok scLt (fun vs H Q E h => ?_) (fun cdv A outer s H vs Q E hr h => ?_)
 ·obtain ⟨b, l, xs, wd, hg, rfl, _⟩ := h
  rfl
 ·obtain ⟨b, l, xs, wd, hg, rfl, la, q⟩ := h
  refine ⟨_, Zi (Zq (Zag rfl rfl G.min D2 rfl (hr.mono (by decide)) (Zh D1 hr (Za (pv 0) (Za (pv 1) Zb))))), ?_⟩
  refine ⟨_, rfl, _, rfl, b, l, xs, wd, hg, rfl, la, fun L H1 ps s1 e1 pr => ?_⟩
  have lp : ps.length = 8 := Paired.length pr
  refine ⟨L, ps, allT.map (keyQ wd hg xs), rfl, e1, (fun z => by rw [z] at lp; cases lp), by rw [List.length_map, lp]; rfl, fun j v k' hv hk H2 s2 Q' q' => ?_, fun i v k' H2 hv hk best s2 => ?_⟩
  ·obtain ⟨y, hy, py⟩ := Z3 pr hv
   rw [List.getElem?_map, hy] at hk
   cases hk
   obtain ⟨t, c, u, rfl, h1, h2, h3⟩ := py.same s2
   obtain ⟨c', ec, hc⟩ := Zw h2.1
   cases ec
   refine ⟨t, c, u, _, _, _, rfl, h1, hc, h3, Z0 la.ly, ?_, fun v H' s' kp => q' v H' s' kp⟩
   rw [Ya]
   have := h2.2.2.1
   omega
  ·obtain ⟨y, hy, py⟩ := Z3 pr hv
   rw [List.getElem?_map, hy] at hk
   cases hk
   exact q v y H2 (s1.trans s2) (py.same s2) fun p => best _ (List.mem_map.mpr ⟨p, Zax p, rfl⟩)
end
end U
set_option Elab.async false
set_option linter.all false
set_option maxRecDepth 100000
set_option maxHeartbeats 4000000
namespace L2
open PySem PySem.Spec PyProof.Rows
section
variable {X : Cx} {k : Nat} {x : Str} {ps : List Str} {sp : Sp} {e : Expr} {es : List Expr} {t : TA} {p pos : Pos} {E : XK}
theorem JT (hp : Passes (CXR X.prog X.w) X E) (d : DefR X.prog X.w X.K X.mg X.base k x ps sp) (hr : Room k X.A) (ha : PA X (e :: es) t) (hg : Gl X x := by rfl) (hdb : (x == ("__debug__" : Str)) = false := by decide)
  (he : starEach (e :: es) X.env = (false, eval e X.env) :: starEach es X.env := by rfl) (hpl : (backTo pos (starEach es X.env)).any (·.1) = false := by rfl) :
  PE X (.Call (.Name x p) (e :: es) [] pos) (tCall sp [] E t) := by
 obtain ⟨f, fd, F, hm, hk, hb⟩ := d
 exact WU F hr hg hm hk hb .nil hp ha hdb he hpl
end
theorem pbX {X : Cx} {N' : List Str} {scope : Scope} {C : Addr} {s : Shared} {H : Hp} {fp : List Addr} {XE : Value → Shared → Prop} (i : Nat) {x : Str} {pos : Pos} (hN : N'.Nodup := by decide +kernel) (hi : N'[i]? = some x := by rfl) (hx : (relabel scope X.env).names.lookup x = some .local := by rfl) :
  PG (blkX X N' scope C s H fp XE) (.Name x pos) (gName i) := ZC (X := blkX X N' scope C s H fp XE) hN hi (.inl hx) (.inr hx)
end L2
namespace U
open PySem L2 PyProof.Rows PyProof.Rows.Tim
def ownB (wd hg : Int) (xs : List V) (q : Bool × Bool × Bool) : Bool := decide ([V.int (tW wd hg q), V.int (tH wd hg q)] = [V.int wd, V.int hg] ∧ turnedL wd hg q xs = xs)
def TnAt (K : PySem.W.Frag) (v : V) (q : Bool × Bool × Bool) : Prop := ∃ t : Addr, v = .ref t ∧ ∀ H, SqT K H t (tv q)
section
variable {P : Program} {w : World} {K : PySem.W.Frag} {mg : Str → Option Value} {base : Heap} {aB aL aT : Addr}
abbrev sOw : Stmt := top 39
def spOw (K : PySem.W.Frag) : Sp := fun vs H Q _ => ∃ (b l : Addr) (xs : List V) (wd hg : Int), vs = [.ref b, .ref l] ∧ LayAt K H (.ref b) l xs wd hg ∧ ∀ (L : Addr) H' (ps : List V), Same H H' → (H L = none) → H' L = some (.lst ps) → Paired (TnAt K) ps (allT.filter (ownB wd hg xs)) → Q (.ref L) H'
theorem scOw : FnScope ["board", "lay"] ["board", "lay"] (defScope sOw) := ⟨rfl, rfl, rfl, by decide +kernel, rfl, by decide +kernel, by decide +kernel⟩
theorem ZdF {f : Addr} {fd : FuncData} (F : Fun K "own_turns" "own_turns" sOw f fd) (G : Gs mg) (T : TnG K mg) (D1 : Def P w K mg base 9 "all_turned" ["board", "lay"] (spAll K)) : FnOk P w K mg base CX0 10 f fd ["board", "lay"] (spOw K) := by
 obtain ⟨aT, ts, hm, hq, pt⟩ := T
 refine F.ok scOw (fun vs H Q E h => ?_) (fun cdv A outer s H vs Q E hr h => ?_)
 ·obtain ⟨b, l, xs, wd, hg, rfl, _⟩ := h
  rfl
 ·obtain ⟨b, l, xs, wd, hg, rfl, la, q⟩ := h
  have hu : (A.deeper (envOfC "own_turns" (defScope sOw) s.heap.objs.size f cdv)).units + 1 < cLine := by have := hr.un; omega
  refine ⟨_, Zi (Zq (ZM ["turn", "led", "board", "lay"] 2 [0, 1] (Zac rfl G.zip (Za (Z5 (v := .ref aT) rfl hm rfl) (Za (Zh D1 hr (Za (pv 0) (Za (pv 1) Zb))) Zb)))
    (fun C s H fp => show PG (blk _ _ _ C s H fp) _ (gTup K 2 (gCons (gName 0) (gCons (gName 1) gNil))) from ZY rfl (Zn (pb 0) (Zn (pb 1) ZP)))
    (fun C s H fp => Jb (ZA (show OpR (blk _ _ _ C s H fp) _ (rEqP K) from UO hu) (pv 1) (Zs (Za (pv 2) (Za (pv 3) Zb))) rfl))
    (fun C s H fp D => ZE rfl (pv 0)))), ?_⟩
  have lt : ts.length = 8 := Paired.length pt
  obtain ⟨b', eb, hb⟩ := Zw la.bd.1
  cases eb
  refine ⟨_, rfl, _, rfl, b, l, xs, wd, hg, rfl, la, fun L H1 ps s1 e1 pr => ?_⟩
  have lp : ps.length = 8 := Paired.length pr
  refine ⟨aT, L, rfl, ⟨_, ps, hq H1, SqL.of e1⟩, ?_⟩
  refine ZaP (xs := ts.map V.ref) (zs := ps) (by rw [List.length_map, lt, lp]) (fun i zs σ H2 => ∃ v0 v1, σ = [v0, v1, some (.ref b), some (.ref l)] ∧ Same H1 H2 ∧ Paired (TnAt K) zs ((allT.take i).filter (ownB wd hg xs)) ∧ zs.length ≤ i) ⟨_, _, rfl, Same.refl _, .nil, Nat.zero_le _⟩ (fun i zs σ H2 _ ⟨_, _, _, s2, _⟩ => ⟨hq H2, SqL.of (s2 _ _ e1)⟩) ?_ ?_
  ·rintro i v y T zs σ H2 hv hy hT ⟨v0, v1, rfl, s2, pr2, hz⟩
   obtain ⟨t, ht, rfl⟩ := Y6 hv
   obtain ⟨p, hp, pp⟩ := Z3 pt ht
   obtain ⟨p', hp', pl⟩ := Z3 pr hy
   rw [hp] at hp'
   cases hp'
   have hi : i < 8 := by have := (List.getElem?_eq_some_iff.mp ht).1; omega
   have sT := Zd (o := .par [V.ref t, y]) hT
   refine ⟨T, _, rfl, SqT.ofP Zc, rfl, _, _, rfl, _, _, rfl, rfl, ?_⟩
   generalize upd H2 T (HO.par [V.ref t, y]) = H3 at sT
   obtain ⟨t', c, u, rfl, h1, h2, h3⟩ := pl.same (s2.trans sT)
   obtain ⟨c', ec, hc⟩ := Zw h2.1
   cases ec
   refine ⟨_, rfl, _, rfl, _, rfl, (by show 2 ≤ sizeLine; decide), fun Z hZ => ?_⟩
   have s4 := Zd (o := .tup [V.ref b, V.ref l]) hZ
   have e4 : upd H3 Z (.tup [V.ref b, V.ref l]) Z = some (.tup [V.ref b, V.ref l]) := Zc
   generalize upd H3 Z (.tup [V.ref b, V.ref l]) = H4 at s4 e4
   have s14 := s1.trans (s2.trans (sT.trans s4))
   refine ⟨t', Z, c, u, b, l, _, _, _, _, rfl, rfl, SqT.of (s4 _ _ h1), SqT.of e4, SqT.of (s4 _ _ hc), SqT.of (s4 _ _ h3), SqT.of (s14 _ _ hb), SqT.of (s14 _ _ la.at_), rfl, (Z0 la.ly).ni, rfl, (ZbT la.ly).ni, _, rfl, ?_⟩
   have ef : (allT.take (i + 1)).filter (ownB wd hg xs) = (allT.take i).filter (ownB wd hg xs) ++ (if ownB wd hg xs p = true then [p] else []) := by
    rw [List.take_add_one, hp, List.filter_append]
    show _ ++ [p].filter (ownB wd hg xs) = _
    rw [List.filter_cons, List.filter_nil]
   show if ownB wd hg xs p = true then _ else _
   cases ho : ownB wd hg xs p with
   | true =>
    rw [ho, if_pos rfl] at ef
    refine iteT ⟨_, rfl, by rw [sizeLine_eq]; omega, _, _, rfl, s2.trans (sT.trans s4), ?_, by rw [List.length_append]; simp; omega⟩
    rw [ef]
    exact Paired.snoc pr2 ⟨t, rfl, pp⟩
   | false =>
    rw [ho, if_neg Bool.false_ne_true, List.append_nil] at ef
    refine iteF ⟨_, _, rfl, s2.trans (sT.trans s4), ?_, by omega⟩
    rw [ef]
    exact pr2
  ·rintro zs σ H2 ⟨v0, v1, rfl, s2, pr2, hz⟩ p hp
   rw [List.length_map, lt] at pr2
   have s3 := Zd (o := .lst zs) hp
   have hn : H p = none := by
    cases e : H p with
    | none => rfl
    | some o => rw [(s1.trans s2) _ _ e] at hp; cases hp
   exact q p _ zs (s1.trans (s2.trans s3)) hn Zc pr2
theorem Zcq {f : Addr} {fd : FuncData} (F : Fun K "all_turned" "all_turned" sAll f fd) (T : TnG K mg) (D1 : Def P w K mg base 5 "turned_board" ["board", "turn"] (spTBK K)) (R1 : DefR P w K mg base 5 "turned_board" ["board", "turn"] (spTBy K aB)) (R2 : DefR P w K mg base 8 "turned" ["board", "lay", "turn"] (spTuy K aB aL)) : FnOk P w K mg base (CXR P w) 9 f fd ["board", "lay"] (spNLx K aB aL) := by
 obtain ⟨aT, ts, hm, hq, pt⟩ := T
 refine F.okR scAll (fun vs H Q E h => ?_) (fun cdv A outer s H vs Q E hr h => ?_)
 ·obtain ⟨x, y, C, rfl, _⟩ := h
  rfl
 ·obtain ⟨x, y, C, rfl, b, q⟩ := h
  have lt : ts.length = 8 := Paired.length pt
  have go : (Itt K aT).go 0 H := ⟨ts.map V.ref, (ts.map V.ref)[0]'(by rw [List.length_map]; omega), hq H, by simp⟩
  have yl : ∀ v H', (Itt K aT).yld 0 H v H' → H' = H ∧ ∃ t q, v = .ref t ∧ SqT K H t (tv q) := fun v H' ⟨e, h⟩ => by
   obtain ⟨t, ht, rfl⟩ := Y6 (h _ (hq H))
   obtain ⟨p, hp, pp⟩ := Z3 pt ht
   exact ⟨e, t, p, rfl, pp H⟩
  rcases b with ⟨rfl, b⟩ | b
  ·refine ⟨_, Zi (Zq (Wr ["turn", "board", "lay"] 1 [0, 1] (YJ (Z5 (v := .ref aT) rfl hm rfl)) (fun C s2 H2 fp XE => pbX 0)
    (fun C s2 H2 fp XE hp => Zs (Za (JT hp R1 (hr.mono (by decide)) (Za (pv 1) (Za (pv 0) Zb))) (Za (JT hp R2 (hr.mono (by decide)) (Za (pv 1) (Za (pv 2) (Za (pv 0) Zb)))) Zb))))), ?_⟩
   refine ⟨aT, rfl, ⟨_, hq H⟩, go, fun v H' hy => ?_⟩
   obtain ⟨rfl, t, p, rfl, ht⟩ := yl v H' hy
   exact Zm ⟨_, rfl, _, rfl, x, .ref t, rfl, b, q⟩
  ·refine ⟨_, Zi (Zq (Wr ["turn", "board", "lay"] 1 [0, 1] (YJ (Z5 (v := .ref aT) rfl hm rfl)) (fun C s2 H2 fp XE => pbX 0)
    (fun C s2 H2 fp XE hp => Zs (Za (Zh D1 (hr.mono (by decide)) (Za (pv 1) (Za (pv 0) Zb))) (Za (JT hp R2 (hr.mono (by decide)) (Za (pv 1) (Za (pv 2) (Za (pv 0) Zb)))) Zb))))), ?_⟩
   refine ⟨aT, rfl, ⟨_, hq H⟩, go, fun v H' hy => ?_⟩
   obtain ⟨rfl, t, p, rfl, ht⟩ := yl v H' hy
   obtain ⟨e, wd, hg, bd, pl, nl⟩ := id b
   obtain ⟨b', eb, hb⟩ := Zw bd.1
   subst eb
   refine Zm ⟨_, rfl, _, rfl, b', t, wd, hg, p, rfl, bd, ht, fun c H3 s3 b3 => ?_⟩
   exact ⟨_, rfl, _, rfl, _, rfl, .ref b', y, .ref t, C, rfl, .inr ⟨e, wd, hg, bd.same s3, pl.same s3, by rw [Yz pl.1 s3]; exact nl⟩, fun e H' s' => q e H' (s3.trans s')⟩
theorem Zde {f : Addr} {fd : FuncData} (F : Fun K "least_turned" "least_turned" sLt f fd) (G : Gs mg) (R1 : DefR P w K mg base 9 "all_turned" ["board", "lay"] (spNLx K aB aL)) (D2 : Def P w K mg base 1 "none_least" ["led"] spNl) : FnOk P w K mg base (CXR P w) 10 f fd ["board", "lay"] (spNLx K aB aL) := by
 refine F.okR scLt (fun vs H Q E h => ?_) (fun cdv A outer s H vs Q E hr h => ?_)
 ·obtain ⟨x, y, C, rfl, _⟩ := h
  rfl
 ·obtain ⟨x, y, C, rfl, b, q⟩ := h
  refine ⟨_, Zi (Zq (Zag rfl rfl G.min D2 rfl (hr.mono (by decide)) (Yl R1 hr (Za (pv 0) (Za (pv 1) Zb))))), ?_⟩
  exact ⟨x, rfl, y, rfl, x, y, C, rfl, b, q⟩
theorem Zc9 {f : Addr} {fd : FuncData} (F : Fun K "own_turns" "own_turns" sOw f fd) (G : Gs mg) (T : TnG K mg) (R1 : DefR P w K mg base 9 "all_turned" ["board", "lay"] (spNLx K aB aL)) : FnOk P w K mg base (CXR P w) 10 f fd ["board", "lay"] (spNLx K aB aL) := by
 obtain ⟨aT, ts, hm, hq, pt⟩ := T
 refine F.okR scOw (fun vs H Q E h => ?_) (fun cdv A outer s H vs Q E hr h => ?_)
 ·obtain ⟨x, y, C, rfl, _⟩ := h
  rfl
 ·obtain ⟨x, y, C, rfl, b, q⟩ := h
  have hu : (A.deeper (envOfC "own_turns" (defScope sOw) s.heap.objs.size f cdv)).units + 1 < cLine := by have := hr.un; omega
  refine ⟨_, Zi (Zq (ZM ["turn", "led", "board", "lay"] 2 [0, 1] (Zac rfl G.zip (Za (Z5 (v := .ref aT) rfl hm rfl) (Za (Yl R1 hr (Za (pv 0) (Za (pv 1) Zb))) Zb)))
    (fun C s H fp => show PG (blk _ _ _ C s H fp) _ (gTup K 2 (gCons (gName 0) (gCons (gName 1) gNil))) from ZY rfl (Zn (pb 0) (Zn (pb 1) ZP)))
    (fun C s H fp => Jb (ZA (show OpR (blk _ _ _ C s H fp) _ (rEqP K) from UO hu) (pv 1) (Zs (Za (pv 2) (Za (pv 3) Zb))) rfl))
    (fun C s H fp D => ZE rfl (pv 0)))), ?_⟩
  exact ⟨_, rfl, _, rfl, x, y, C, rfl, b, q⟩
end
end U
set_option Elab.async false
set_option linter.all false
set_option maxRecDepth 100000
set_option maxHeartbeats 4000000
namespace L2
open PySem PySem.Spec PyProof.Rows PyProof.Rows.Tim SeqAt
def lex2 : List (List Int) → List (List Int) → Bool
 | [], [] => false
 | [], _ :: _ => true
 | _ :: _, [] => false
 | x :: xs, y :: ys => if x = y then lex2 xs ys else HT.lexLt x y
def LsAt (H : Hp) (v : V) (l : List Int) : Prop := ∃ a : Addr, v = .ref a ∧ H a = some (.lst (l.map V.int))
theorem LsAt.same {H H' : Hp} {v : V} {l : List Int} (h : LsAt H v l) (s : Same H H') : LsAt H' v l := by
 obtain ⟨a, e, h⟩ := h
 exact ⟨a, e, s _ _ h⟩
def RkAt (H : Hp) (v : V) (wd hg : Int) (ls : List (List Int)) : Prop := ∃ (t c L : Addr) (rs : List V), v = .ref t ∧ H t = some (.tup [.ref c, .ref L]) ∧ H c = some (.tup [.int wd, .int hg]) ∧ H L = some (.lst rs) ∧ Paired (LsAt H) rs ls
theorem RkAt.same {H H' : Hp} {v : V} {wd hg : Int} {ls : List (List Int)} (h : RkAt H v wd hg ls) (s : Same H H') : RkAt H' v wd hg ls := by
 obtain ⟨t, c, L, rs, e, h1, h2, h3, h4⟩ := h
 exact ⟨t, c, L, rs, e, s _ _ h1, s _ _ h2, s _ _ h3, Paired.mapP h4 fun _ _ q => q.same s⟩
theorem J4 {a b : List Int} (h : a.map V.int = b.map V.int) : a = b := by
 have := congrArg (List.map fun v => match v with | V.int i => i | _ => 0) h
 simpa [Function.comp_def] using this
section
variable {X : Cx} {pins : List (Addr × Obj)} {σ : St} {H : Hp} {s : Shared} {A : Around}
theorem Uy {a b : Addr} {xs ys : List V} (I : Inv X pins σ H s) (hu : A.units < cLine) (ha : SqL X.K H a xs) (hb : SqL X.K H b ys) (hx : xs.all niV = true) (hy : ys.all niV = true) : EqAt A s (.ref a) (.ref b) (decide (xs = ys)) := by
 by_cases e : a = b
 ·subst e
  rw [I.list_inj ha hb, decide_eq_true rfl]
  exact EqAt.same _
 ·obtain ⟨us, r1, p1, _⟩ := I.list ha
  obtain ⟨vs, r2, p2, _⟩ := I.list hb
  have l1 := r1.length
  have l2 := r2.length
  refine EqAt.of_refs e ?_
  by_cases hl : xs.length = ys.length
  ·have hsz : us.toArray.size = vs.toArray.size := by simp; omega
   have z := RcAt.lists (A := A) (s := s) p1.isList p2.isList hsz hu (UR hx hy r1 r2)
   have q := ZbK r1 r2
   rw [hsz, Nat.min_self, beq_self_eq_true, Bool.and_true, ← hsz] at q
   rw [q] at z
   exact z
  ·rw [decide_eq_false (fun z => hl (by rw [z]))]
   exact RcAt.lists_lengths p1.isList p2.isList (by simp; omega) hu
theorem WD (I : Inv X pins σ H s) (hu : A.units + 1 < cLine) : ∀ {xs ys : List V} {ls ms : List (List Int)} {us vs : List Value}, Paired (LsAt H) xs ls → Paired (LsAt H) ys ms → Vals xs us → Vals ys vs → CmpL A s us vs (lex2 ls ms)
 | _, _, _, _, _, _, .nil, .nil, .nil, .nil => .nn
 | _, _, _, _, _, _, .nil, .cons _ _, .nil, .cons _ _ => .nc
 | _, _, _, _, _, _, .cons _ _, .nil, .cons _ _, .nil => .cn
 | _, _, _, _, _, _, .cons (b := l) h1 r1, .cons (b := m) h2 r2, .cons a1 a2, .cons b1 b2 => by
  obtain ⟨a, rfl, ha⟩ := h1
  obtain ⟨b, rfl, hb⟩ := h2
  cases a1
  cases b1
  have q := Uy (A := A) I (Nat.lt_of_succ_lt hu) (SqL.of ha) (SqL.of hb) (Yb l) (Yb m)
  show CmpL A s _ _ (if l = m then _ else _)
  by_cases e : l = m
  ·rw [if_pos e]
   rw [decide_eq_true (by rw [e])] at q
   exact .eq q (WD I hu r1 r2 a2 b2)
  ·rw [if_neg e]
   rw [decide_eq_false (fun z => e (J4 z))] at q
   obtain ⟨us, i1, p1, _⟩ := I.list (SqL.of ha)
   obtain ⟨vs, i2, p2, _⟩ := I.list (SqL.of hb)
   have c := CmpL.ints (A := A.in1) (s := s) (ZS i1) (ZS i2)
   exact .lt q (LtAt.lists p1.isList p2.isList (Nat.lt_of_succ_lt hu) (by simpa using c))
theorem JV {α β : Type} {R : α → β → Prop} (hR : ∀ a b c, R a b → R a c → b = c) : ∀ {xs : List α} {ys zs : List β}, Paired R xs ys → Paired R xs zs → ys = zs
 | _, _, _, .nil, .nil => rfl
 | _, _, _, .cons a r, .cons b t => by rw [hR _ _ _ a b, JV hR r t]
theorem LsAt.fn {v : V} {l m : List Int} (a : LsAt H v l) (b : LsAt H v m) : l = m := by
 obtain ⟨x, rfl, hx⟩ := a
 obtain ⟨y, ey, hy⟩ := b
 cases ey
 rw [hx] at hy
 simp only [Option.some.injEq, HO.lst.injEq] at hy
 exact J4 hy
theorem Up : ∀ ls : List (List Int), lex2 ls ls = false
 | [] => rfl
 | x :: xs => by
  show (if x = x then lex2 xs xs else _) = false
  rw [if_pos rfl, Up xs]
theorem UZ {L L' : Addr} {rs rs' : List V} {ls ms : List (List Int)} (I : Inv X pins σ H s) (hu : A.units + 1 < cLine) (h3 : H L = some (.lst rs)) (h3' : H L' = some (.lst rs')) (h4 : Paired (LsAt H) rs ls) (h4' : Paired (LsAt H) rs' ms) : EqAt A s (.ref L) (.ref L') (decide (ls = ms)) := by
 by_cases e : L = L'
 ·subst e
  rw [h3] at h3'
  cases h3'
  have e := JV (R := LsAt H) (fun _ _ _ a b => LsAt.fn a b) h4 h4'
  rw [decide_eq_true e]
  exact EqAt.same _
 ·obtain ⟨us, r1, p1, _⟩ := I.list (SqL.of h3)
  obtain ⟨vs, r2, p2, _⟩ := I.list (SqL.of h3')
  have l1 := r1.length
  have l2 := r2.length
  have k1 : rs.length = ls.length := Paired.length h4
  have k2 : rs'.length = ms.length := Paired.length h4'
  refine EqAt.of_refs e ?_
  by_cases hl : ls.length = ms.length
  ·have hsz : us.toArray.size = vs.toArray.size := by simp; omega
   have z := RcAt.lists (A := A) (s := s) (e := fun j => decide (ls.getD j [] = ms.getD j [])) p1.isList p2.isList hsz (Nat.lt_of_succ_lt hu) (fun j g1 g2 => by
    have j1 : j < rs.length := by simp at g1; omega
    have j2 : j < rs'.length := by simp at g2; omega
    obtain ⟨u, eu, ru⟩ := r1.get (List.getElem?_eq_getElem j1)
    obtain ⟨v, ev, rv⟩ := r2.get (List.getElem?_eq_getElem j2)
    obtain ⟨l, el, a, ea, ha⟩ := Z3 h4 (List.getElem?_eq_getElem j1)
    obtain ⟨m, em, b, eb, hb⟩ := Z3 h4' (List.getElem?_eq_getElem j2)
    have f1 : us.toArray[j] = u := by simpa using (List.getElem?_eq_some_iff.mp eu).2
    have f2 : vs.toArray[j] = v := by simpa using (List.getElem?_eq_some_iff.mp ev).2
    rw [f1, f2, List.getD_eq_getElem?_getD, List.getD_eq_getElem?_getD, el, em]
    rw [ea] at ru
    rw [eb] at rv
    cases ru
    cases rv
    have q := Uy (A := A.in1) I hu (SqL.of ha) (SqL.of hb) (Yb l) (Yb m)
    have e2 : decide (l.map V.int = m.map V.int) = decide (l = m) := by
     by_cases z : l = m
     ·rw [decide_eq_true z, decide_eq_true (by rw [z])]
     ·rw [decide_eq_false z, decide_eq_false (fun y => z (J4 y))]
    rw [e2] at q
    exact q)
   have q : (List.range us.toArray.size).all (fun j => decide (ls.getD j [] = ms.getD j [])) = decide (ls = ms) := by
    rw [Bool.eq_iff_iff, List.all_eq_true, decide_eq_true_eq, List.size_toArray]
    constructor
    ·intro h
     refine List.ext_getElem hl fun i h1 h2 => ?_
     have := h i (by rw [List.mem_range]; omega)
     simpa [h1, h2] using this
    ·rintro rfl
     exact fun j _ => by simp
   rw [q] at z
   exact z
  ·rw [decide_eq_false (fun z => hl (by rw [z]))]
   exact RcAt.lists_lengths p1.isList p2.isList (by simp; omega) (Nat.lt_of_succ_lt hu)
end
section
variable {X : Cx}
def rLtR : R2 := fun x y H Q => ∃ (wd hg wd' hg' : Int) (ls ms : List (List Int)), RkAt H x wd hg ls ∧ RkAt H y wd' hg' ms ∧ ls.length ≤ sizeLine ∧ Q (.bl (if [wd, hg] = [wd', hg'] then lex2 ls ms else HT.lexLt [wd, hg] [wd', hg'])) H
theorem Zc3 (hu : X.A.units + 3 < cLine) : OpR X (compareOp .Lt) rLtR := by
 intro pins s σ H x y u v Q I rx ry h
 obtain ⟨wd, hg, wd', hg', ls, ms, ⟨t, c, L, rs, rfl, h1, h2, h3, h4⟩, ⟨t', c', L', rs', rfl, h1', h2', h3', h4'⟩, _, q⟩ := h
 cases rx
 cases ry
 obtain ⟨us, r1, p1, _⟩ := I.tuple (SqT.of h1)
 obtain ⟨vs, r2, p2, _⟩ := I.tuple (SqT.of h1')
 obtain rfl := ar2 (u := .ref c) (v := .ref L) r1 (fun _ z => z) (fun _ z => z)
 obtain rfl := ar2 (u := .ref c') (v := .ref L') r2 (fun _ z => z) (fun _ z => z)
 have q1 := YS (A := X.A.in1) I (by have : X.A.in1.units = X.A.units + 1 := rfl; omega) (SqT.of h2) (SqT.of h2') (Yb [wd, hg]) (Yb [wd', hg'])
 have e1 : decide ([V.int wd, V.int hg] = [V.int wd', V.int hg']) = decide ([wd, hg] = [wd', hg']) := by simp
 rw [e1] at q1
 refine LtAt.tuples (r := if [wd, hg] = [wd', hg'] then lex2 ls ms else HT.lexLt [wd, hg] [wd', hg']) p1 p2 (by omega) ?_ X.prog X.w _ _ ⟨.bl _, H, I, rfl, q⟩
 show CmpL X.A.in1 s [.ref c, .ref L] [.ref c', .ref L'] _
 by_cases z : [wd, hg] = [wd', hg']
 ·rw [if_pos z]
  rw [decide_eq_true z] at q1
  refine .eq q1 ?_
  obtain ⟨its, i1, j1, _⟩ := I.list (SqL.of h3)
  obtain ⟨its', i2, j2, _⟩ := I.list (SqL.of h3')
  have c := WD (A := X.A.in1.in1) I (by have : X.A.in1.in1.units = X.A.units + 2 := rfl; omega) h4 h4' i1 i2
  have q2 := UZ (A := X.A.in1) I (by have : X.A.in1.units = X.A.units + 1 := rfl; omega) h3 h3' h4 h4'
  by_cases e : ls = ms
  ·rw [decide_eq_true e] at q2
   rw [e, Up]
   exact .eq q2 .nn
  ·rw [decide_eq_false e] at q2
   exact .lt q2 (LtAt.lists j1.isList j2.isList (by have : X.A.in1.units = X.A.units + 1 := rfl; omega) (by simpa using c))
 ·rw [if_neg z]
  rw [decide_eq_false z] at q1
  obtain ⟨is1, i1, j1, _⟩ := I.tuple (SqT.of h2)
  obtain ⟨is2, i2, j2, _⟩ := I.tuple (SqT.of h2')
  have c := CmpL.ints (A := X.A.in1.in1) (s := s) (ZS (ns := [wd, hg]) i1) (ZS (ns := [wd', hg']) i2)
  exact .lt q1 (LtAt.tuples j1 j2 (by have : X.A.in1.units = X.A.units + 1 := rfl; omega) (by simpa using c))
end
end L2
namespace U
open PySem L2 PyProof.Rows PyProof.Rows.Tim
section
variable {P : Program} {w : World} {K : PySem.W.Frag} {mg : Str → Option Value} {base : Heap} {aB aL aT : Addr}
def RLi (R : Hp → V → V → Prop) (H : Hp) (x y : V) : Prop := ∃ (a b : Addr) (xs ys : List V), x = .ref a ∧ y = .ref b ∧ H a = some (.lst xs) ∧ H b = some (.lst ys) ∧ Paired (R H) xs ys ∧ xs.length ≤ 1000
theorem RTu.same {R : Hp → V → V → Prop} (hR : ∀ {H H' : Hp} {x y : V}, R H x y → Same H H' → R H' x y) {H H' : Hp} {x y : V} (r : RTu R H x y) (s : Same H H') : RTu R H' x y := by
 obtain ⟨a, b, xs, ys, e1, e2, h1, h2, pr, hl⟩ := r
 exact ⟨a, b, xs, ys, e1, e2, s _ _ h1, s _ _ h2, Paired.mapP pr fun _ _ q => hR q s, hl⟩
theorem ZaL {R : Hp → V → V → Prop} {k : Nat} (hR : ∀ {H H' : Hp} {x y : V}, R H x y → Same H H' → R H' x y) {f : Addr} {fd : FuncData} (F : Fun K "_law_same" "_law_same" sSame f fd) (G : Gs mg) (D : Def P w K mg base k "_law_same" ["_law_found", "_law_due"] (spSame R)) :
  FnOk P w K mg base CX0 (k + 1) f fd ["_law_found", "_law_due"] (spSame (RLi R)) := by
 refine F.ok scSame (fun vs H Q E h => ?_) (fun cdv A outer s H vs Q E hr h => ?_)
 ·obtain ⟨x, y, rfl, _⟩ := h
  rfl
 ·obtain ⟨x, y, rfl, ⟨a, b, xs, ys, rfl, rfl, ha, hb, pr, hl⟩, q⟩ := h
  refine ⟨_, Ze (ZI (ZO (Zk (Yd (a := "list") (b := "tuple")) rfl G.isinstance boot_isinstance (Za (pv 1) (Za (Zs (Za (Zy (v := .ty "list") rfl G.list boot_list rfl) (Za (Zy (v := .ty "tuple") rfl G.tuple boot_tuple rfl) Zb))) Zb))))
    (Ze (ZI (PW.pt (YI (ZA Jd (Zk (Zx (c := "list")) rfl G.isinstance boot_isinstance (Za (pv 0) (Za (Zy (v := .ty "list") rfl G.list boot_list rfl) Zb))) (Zk (Zx (c := "list")) rfl G.isinstance boot_isinstance (Za (pv 1) (Za (Zy (v := .ty "list") rfl G.list boot_list rfl) Zb))) (nomark _))
      (Yi (ZA Jd (Zk (Zx (c := "tuple")) rfl G.isinstance boot_isinstance (Za (pv 0) (Za (Zy (v := .ty "tuple") rfl G.tuple boot_tuple rfl) Zb))) (Zk (Zx (c := "tuple")) rfl G.isinstance boot_isinstance (Za (pv 1) (Za (Zy (v := .ty "tuple") rfl G.tuple boot_tuple rfl) Zb))) (nomark _))))) Zp Zt)
    (Zi (Zq (Z7 (Z6 Z8 (Zk ZD rfl G.len boot_len (Za (pv 0) Zb)) (Zk ZD rfl G.len boot_len (Za (pv 1) Zb)) (nomark _))
     (Z4 (Zk Ye rfl G.all boot_all (Za (ZM ["_law_one", "_law_other"] 2 [] (ZcX rfl G.zip (Za (pv 0) (Za (pv 1) Zb)))
      (fun C s H fp => show PG (blk _ _ _ C s H fp) _ (gTup K 2 (gCons (gName 0) (gCons (gName 1) gNil))) from ZY rfl (Zn (pb 0) (Zn (pb 1) ZP))) (fun C s H fp => ZQ)
      (fun C s H fp D' => ZE rfl (Zh D hr (Za (pv 0) (Za (pv 1) Zb))))) Zb))))))) Zt) Zp, ?_⟩
  refine ⟨_, rfl, (by show 2 ≤ sizeLine; decide), fun t ht => ?_⟩
  have s1 := Zd (o := .tup [V.ty "list", V.ty "tuple"]) ht
  have e1 : upd H t (.tup [V.ty "list", V.ty "tuple"]) t = some (.tup [V.ty "list", V.ty "tuple"]) := Zc
  generalize upd H t (HO.tup [V.ty "list", V.ty "tuple"]) = H1 at s1 e1
  have ha1 := s1 _ _ ha
  have hb1 := s1 _ _ hb
  refine ⟨_, t, _, _, rfl, SqT.of e1, .inr (.inr (.inl ⟨b, ys, rfl, hb1, rfl⟩)), (show _ = some true from rfl), _, rfl, iteT ?_⟩
  refine ⟨_, rfl, _, _, _, rfl, .lst ha1, (show _ = some true from rfl), _, rfl, _, _, _, rfl, .lst hb1, (show _ = some true from rfl), rfl, _, rfl, iteF ?_⟩
  refine ⟨_, rfl, _, _, _, rfl, .lst ha1, (show _ = some false from rfl), _, rfl, _, _, _, rfl, .lst hb1, (show _ = some false from rfl), rfl, _, rfl, iteF ?_⟩
  have hlen : xs.length = ys.length := Paired.length pr
  refine ⟨_, rfl, a, xs, rfl, .inl (SqL.of ha1), _, rfl, b, ys, rfl, .inl (SqL.of hb1), rfl, _, rfl, ?_⟩
  have el : decide (V.int (xs.length : Int) = V.int (ys.length : Int)) = true := decide_eq_true (by rw [hlen])
  rw [el]
  refine iteT ⟨_, rfl, _, rfl, a, b, rfl, ⟨xs, ys, SqL.of ha1, SqL.of hb1⟩, ?_⟩
  refine ZbL (xs := xs) (zs := ys) hlen (fun i zs σ H2 => ∃ v0 v1, σ = [v0, v1] ∧ Same H1 H2 ∧ zs = List.replicate i (V.bl true)) ⟨_, _, rfl, Same.refl _, rfl⟩ (fun i zs σ H2 _ ⟨_, _, _, s2, _⟩ => ⟨SqL.of (s2 _ _ ha1), SqL.of (s2 _ _ hb1)⟩) ?_ ?_
  ·rintro i x y T zs σ H2 hx hy hT ⟨v0, v1, rfl, s2, rfl⟩
   obtain ⟨y', hy', r⟩ := Z3 pr hx
   rw [hy] at hy'
   cases hy'
   have sT := Zd (o := .par [x, y]) hT
   have hi : i < xs.length := (List.getElem?_eq_some_iff.mp hx).1
   refine ⟨T, _, rfl, SqT.ofP Zc, rfl, _, _, rfl, _, _, rfl, rfl, ?_⟩
   refine ⟨x, rfl, y, rfl, x, y, rfl, hR r (s1.trans (s2.trans sT)), fun H3 s3 => ⟨by rw [List.length_replicate, sizeLine_eq]; omega, _, _, rfl, s2.trans (sT.trans s3), ?_⟩⟩
   rw [List.replicate_succ']
  ·rintro zs σ H2 ⟨v0, v1, rfl, s2, rfl⟩ p hp
   refine ⟨p, List.replicate xs.length true, rfl, ?_, ?_⟩
   ·rw [List.map_replicate]
    exact SqL.of Zc
   ·have e : (List.replicate xs.length true).all id = true := by simp
    rw [e]
    exact q _ (s1.trans (s2.trans (Zd hp)))
def RTK (K : PySem.W.Frag) (H : Hp) (x y : V) : Prop := ∃ (a b : Addr) (q : Bool × Bool × Bool), x = .ref a ∧ y = .ref b ∧ SqT K H a (tv q) ∧ H b = some (.tup (tv q))
theorem RTK.same {H H' : Hp} {x y : V} (r : RTK K H x y) (s : Same H H') : RTK K H' x y := by
 obtain ⟨a, b, q, e1, e2, h1, h2⟩ := r
 exact ⟨a, b, q, e1, e2, h1.keep s, s _ _ h2⟩
theorem ZaK {f : Addr} {fd : FuncData} (F : Fun K "_law_same" "_law_same" sSame f fd) (G : Gs mg) (D : Def P w K mg base 1 "_law_same" ["_law_found", "_law_due"] (spSame R0)) :
  FnOk P w K mg base CX0 2 f fd ["_law_found", "_law_due"] (spSame (RTK K)) := by
 refine F.ok scSame (fun vs H Q E h => ?_) (fun cdv A outer s H vs Q E hr h => ?_)
 ·obtain ⟨x, y, rfl, _⟩ := h
  rfl
 ·obtain ⟨x, y, rfl, ⟨a, b, q0, rfl, rfl, ha, hb⟩, q⟩ := h
  have pr : Paired (R0 H) (tv q0) (tv q0) := .cons ⟨_, rfl, rfl⟩ (.cons ⟨_, rfl, rfl⟩ (.cons ⟨_, rfl, rfl⟩ .nil))
  have hl : (tv q0).length ≤ 100 := by show 3 ≤ 100; decide
  generalize hxs : tv q0 = xs at ha hb pr hl
  obtain ⟨ys, hys⟩ : ∃ ys, ys = xs := ⟨_, rfl⟩
  rw [← hys] at hb
  have pr : Paired (R0 H) xs ys := by rw [hys]; exact pr
  refine ⟨_, Ze (ZI (ZO (Zk (Yd (a := "list") (b := "tuple")) rfl G.isinstance boot_isinstance (Za (pv 1) (Za (Zs (Za (Zy (v := .ty "list") rfl G.list boot_list rfl) (Za (Zy (v := .ty "tuple") rfl G.tuple boot_tuple rfl) Zb))) Zb))))
    (Ze (ZI (PW.pt (YI (ZA Jd (Zk (YF (c := "list")) rfl G.isinstance boot_isinstance (Za (pv 0) (Za (Zy (v := .ty "list") rfl G.list boot_list rfl) Zb))) (Zk (Zx (c := "list")) rfl G.isinstance boot_isinstance (Za (pv 1) (Za (Zy (v := .ty "list") rfl G.list boot_list rfl) Zb))) (nomark _))
      (Yi (ZA Jd (Zk (YF (c := "tuple")) rfl G.isinstance boot_isinstance (Za (pv 0) (Za (Zy (v := .ty "tuple") rfl G.tuple boot_tuple rfl) Zb))) (Zk (Zx (c := "tuple")) rfl G.isinstance boot_isinstance (Za (pv 1) (Za (Zy (v := .ty "tuple") rfl G.tuple boot_tuple rfl) Zb))) (nomark _))))) Zp Zt)
    (Zi (Zq (Z7 (Z6 Z8 (Zk ZD rfl G.len boot_len (Za (pv 0) Zb)) (Zk ZD rfl G.len boot_len (Za (pv 1) Zb)) (nomark _))
     (Z4 (Zk Ye rfl G.all boot_all (Za (ZM ["_law_one", "_law_other"] 2 [] (WT rfl G.zip (Za (pv 0) (Za (pv 1) Zb)))
      (fun C s H fp => show PG (blk _ _ _ C s H fp) _ (gTup K 2 (gCons (gName 0) (gCons (gName 1) gNil))) from ZY rfl (Zn (pb 0) (Zn (pb 1) ZP))) (fun C s H fp => ZQ)
      (fun C s H fp D' => ZE rfl (Zh D hr (Za (pv 0) (Za (pv 1) Zb))))) Zb))))))) Zt) Zp, ?_⟩
  refine ⟨_, rfl, (by show 2 ≤ sizeLine; decide), fun t ht => ?_⟩
  have s1 := Zd (o := .tup [V.ty "list", V.ty "tuple"]) ht
  have e1 : upd H t (.tup [V.ty "list", V.ty "tuple"]) t = some (.tup [V.ty "list", V.ty "tuple"]) := Zc
  generalize upd H t (HO.tup [V.ty "list", V.ty "tuple"]) = H1 at s1 e1
  have ha1 := ha.keep s1
  have hb1 := s1 _ _ hb
  refine ⟨_, t, _, _, rfl, SqT.of e1, .inr (.inr (.inr ⟨b, ys, rfl, hb1, rfl⟩)), (show _ = some true from rfl), _, rfl, iteT ?_⟩
  refine ⟨_, rfl, a, xs, _, rfl, ha1, (show _ = some false from rfl), _, rfl, _, _, _, rfl, .tup hb1, (show _ = some false from rfl), rfl, _, rfl, iteF ?_⟩
  refine ⟨_, rfl, a, xs, _, rfl, ha1, (show _ = some true from rfl), _, rfl, _, _, _, rfl, .tup hb1, (show _ = some true from rfl), rfl, _, rfl, iteF ?_⟩
  have hlen : xs.length = ys.length := Paired.length pr
  refine ⟨_, rfl, a, xs, rfl, .inr (ha1), _, rfl, b, ys, rfl, .inr (SqT.of hb1), rfl, _, rfl, ?_⟩
  have el : decide (V.int (xs.length : Int) = V.int (ys.length : Int)) = true := decide_eq_true (by rw [hlen])
  rw [el]
  refine iteT ⟨_, rfl, _, rfl, a, b, rfl, ⟨xs, ys, ha1, SqT.of hb1⟩, ?_⟩
  refine Js (xs := xs) (zs := ys) hlen (fun i zs σ H2 => ∃ v0 v1, σ = [v0, v1] ∧ Same H1 H2 ∧ zs = List.replicate i (V.bl true)) ⟨_, _, rfl, Same.refl _, rfl⟩ (fun i zs σ H2 _ ⟨_, _, _, s2, _⟩ => ⟨ha1.keep s2, SqT.of (s2 _ _ hb1)⟩) ?_ ?_
  ·rintro i x y T zs σ H2 hx hy hT ⟨v0, v1, rfl, s2, rfl⟩
   obtain ⟨y', hy', r⟩ := Z3 pr hx
   rw [hy] at hy'
   cases hy'
   have sT := Zd (o := .par [x, y]) hT
   have hi : i < xs.length := (List.getElem?_eq_some_iff.mp hx).1
   refine ⟨T, _, rfl, SqT.ofP Zc, rfl, _, _, rfl, _, _, rfl, rfl, ?_⟩
   refine ⟨x, rfl, y, rfl, x, y, rfl, r, fun H3 s3 => ⟨by rw [List.length_replicate, sizeLine_eq]; omega, _, _, rfl, s2.trans (sT.trans s3), ?_⟩⟩
   rw [List.replicate_succ']
  ·rintro zs σ H2 ⟨v0, v1, rfl, s2, rfl⟩ p hp
   refine ⟨p, List.replicate xs.length true, rfl, ?_, ?_⟩
   ·rw [List.map_replicate]
    exact SqL.of Zc
   ·have e : (List.replicate xs.length true).all id = true := by simp
    rw [e]
    exact q _ (s1.trans (s2.trans (Zd hp)))
end
end U
set_option Elab.async false
set_option linter.all false
set_option maxRecDepth 100000
set_option maxHeartbeats 4000000
namespace U
open PySem L2 PyProof.Rows PyProof.Rows.Tim
def rkV : V → List Int
 | .int i => [1, i]
 | _ => [0, 0]
theorem ZbR : ∀ {xs ys : List V}, NR xs → NR ys → lex2 (xs.map rkV) (ys.map rkV) = lexB (xs.map nlV) (ys.map nlV)
 | [], [], _, _ => rfl
 | [], _ :: _, _, _ => rfl
 | _ :: _, [], _, _ => rfl
 | x :: xs, y :: ys, hx, hy => by
  have ih := ZbR (xs := xs) (ys := ys) (fun z hz => hx z (List.mem_cons_of_mem _ hz)) (fun z hz => hy z (List.mem_cons_of_mem _ hz))
  show (if rkV x = rkV y then lex2 (xs.map rkV) (ys.map rkV) else HT.lexLt (rkV x) (rkV y)) = lexB (nlV x :: xs.map nlV) (nlV y :: ys.map nlV)
  rw [ih, ← YD, ← YD, HT.lexLt_cons]
  rcases hx x List.mem_cons_self with rfl | ⟨i, rfl, hi⟩
  ·rcases hy y List.mem_cons_self with rfl | ⟨j, rfl, hj⟩
   ·rfl
   ·rw [if_neg (by show ¬ [(0 : Int), 0] = [1, j]; simp), if_neg (by show ¬ (-1 : Int) = j; omega)]
    have e : decide ((-1 : Int) < j) = true := decide_eq_true (by omega)
    show HT.lexLt [0, 0] [1, j] = decide ((-1 : Int) < j)
    rw [e]
    rfl
  ·rcases hy y List.mem_cons_self with rfl | ⟨j, rfl, hj⟩
   ·rw [if_neg (by show ¬ [(1 : Int), i] = [0, 0]; simp), if_neg (by show ¬ i = (-1 : Int); omega)]
    have e : decide (i < (-1 : Int)) = false := decide_eq_false (by omega)
    show HT.lexLt [1, i] [0, 0] = decide (i < (-1 : Int))
    rw [e]
    rfl
   ·show (if [1, i] = [1, j] then _ else HT.lexLt [1, i] [1, j]) = if i = j then _ else decide (i < j)
    by_cases e : i = j
    ·rw [if_pos e, if_pos (by rw [e])]
    ·rw [if_neg e, if_neg (by simpa using e)]
     show (if (1 : Int) = 1 then HT.lexLt [i] [j] else _) = _
     rw [if_pos rfl]
     show (if i = j then _ else decide (i < j)) = _
     rw [if_neg e]
theorem ZbJ : ∀ {xs ys : List V}, NR xs → NR ys → xs.map nlV = ys.map nlV → xs = ys
 | [], [], _, _, _ => rfl
 | [], _ :: _, _, _, h => by cases h
 | _ :: _, [], _, _, h => by cases h
 | x :: xs, y :: ys, hx, hy, h => by
  rw [List.map_cons, List.map_cons, List.cons.injEq] at h
  rw [ZbJ (fun z hz => hx z (List.mem_cons_of_mem _ hz)) (fun z hz => hy z (List.mem_cons_of_mem _ hz)) h.2]
  have h1 := h.1
  rcases hx x List.mem_cons_self with rfl | ⟨i, rfl, hi⟩ <;> rcases hy y List.mem_cons_self with rfl | ⟨j, rfl, hj⟩
  ·rfl
  ·exact absurd (show (-1 : Int) = j from h1) (by omega)
  ·exact absurd (show i = (-1 : Int) from h1) (by omega)
  ·rw [show i = j from h1]
section
variable {P : Program} {w : World} {K : PySem.W.Frag} {mg : Str → Option Value} {base : Heap} {aB aL aT : Addr}
abbrev sRk : Stmt := top 55
def spRk : Sp := fun vs H Q _ => ∃ (t c u : Addr) (wd hg : Int) (ys : List V), vs = [.ref t] ∧ H t = some (.tup [.ref c, .ref u]) ∧ H c = some (.tup [.int wd, .int hg]) ∧ H u = some (.tup ys) ∧ NR ys ∧ ys.length ≤ 12 ∧ ∀ v H', Same H H' → RkAt H' v wd hg (ys.map rkV) → Q v H'
theorem scRk : FnScope ["_law_one"] ["_law_one"] (defScope sRk) := ⟨rfl, rfl, rfl, by decide +kernel, rfl, by decide +kernel, by decide +kernel⟩
theorem ZdE {f : Addr} {fd : FuncData} (F : Fun K "_law_rank" "_law_rank" sRk f fd) : FnOk P w K mg base CX0 1 f fd ["_law_one"] spRk := by
 refine F.ok scRk (fun vs H Q E h => ?_) (fun cdv A outer s H vs Q E hr h => ?_)
 ·obtain ⟨t, c, u, wd, hg, ys, rfl, _⟩ := h
  rfl
 ·obtain ⟨t, c, u, wd, hg, ys, rfl, ht, hc, hu, nr, lu, q⟩ := h
  refine ⟨_, Zi (Zq (Zs (Za (ZB ZK (pv 0) Zf (fun _ _ => rfl)) (Za (ZM ["_law_row"] 1 [] (YJ (ZB ZK (pv 0) Zf (fun _ _ => rfl))) (fun C s H fp => pb 0) (fun C s H fp => ZQ)
    (fun C s H fp D => ZE rfl (YK (Yf (Yr (pv 0))) (ZG (Za Zf (Za Zf Zb))) (ZG (Za Zf (Za (pv 0) Zb)))))) Zb)))), ?_⟩
  refine ⟨_, rfl, t, _, _, _, rfl, rfl, SqT.of ht, at0, _, rfl, t, _, _, _, rfl, rfl, SqT.of ht, at1, u, rfl, ⟨ys, SqT.of hu⟩, ?_⟩
  refine Yt (xs := ys) (fun i zs σ H2 => Same H H2 ∧ Paired (LsAt H2) zs ((ys.take i).map rkV) ∧ ∃ v, σ = [v]) ⟨Same.refl _, .nil, none, rfl⟩ (fun i zs σ H2 _ ⟨s2, _⟩ => SqT.of (s2 _ _ hu)) ?_ ?_
  ·rintro i y zs σ H2 hy ⟨s2, pr, v, rfl⟩
   have lz : zs.length < sizeLine := by
    have := Paired.length pr
    rw [List.length_map, List.length_take] at this
    rw [sizeLine_eq]; omega
   have e : (ys.take (i + 1)).map rkV = (ys.take i).map rkV ++ [rkV y] := by rw [List.take_add_one, hy, List.map_append]; rfl
   refine ⟨_, rfl, _, rfl, ?_⟩
   rcases nr y (List.mem_of_getElem? hy) with rfl | ⟨r, rfl, _⟩
   ·refine iteT ⟨(by show 2 ≤ sizeLine; decide), fun p hp => ⟨lz, s2.trans (Zd hp), ?_, _, rfl⟩⟩
    rw [e]
    exact Paired.snoc (Paired.mapP pr fun _ _ h => h.same (Zd hp)) ⟨p, rfl, Zc⟩
   ·refine iteF ⟨_, rfl, (by show 2 ≤ sizeLine; decide), fun p hp => ⟨lz, s2.trans (Zd hp), ?_, _, rfl⟩⟩
    rw [e]
    exact Paired.snoc (Paired.mapP pr fun _ _ h => h.same (Zd hp)) ⟨p, rfl, Zc⟩
  ·rintro zs σ H2 ⟨s2, pr, v, rfl⟩ L hL
   rw [List.take_length] at pr
   refine ⟨(by show 2 ≤ sizeLine; decide), fun p hp => ?_⟩
   have s3 := Zd (o := .lst zs) hL
   have e3 : upd H2 L (.lst zs) L = some (.lst zs) := Zc
   generalize upd H2 L (.lst zs) = H3 at s3 e3 hp
   have s4 := Zd (o := .tup [V.ref c, V.ref L]) hp
   have s34 := s3.trans s4
   exact q _ _ (s2.trans s34) ⟨p, c, L, zs, rfl, Zc, (s2.trans s34) _ _ hc, s4 _ _ e3, Paired.mapP pr fun _ _ h => h.same s34⟩
abbrev sLs : Stmt := top 56
def spLs (K : PySem.W.Frag) : Sp := fun vs H Q _ => ∃ (b l : Addr) (xs : List V) (wd hg : Int), vs = [.ref b, .ref l] ∧ LayAt K H (.ref b) l xs wd hg ∧ ∀ v q H', Same H H' → LedAt wd hg xs H' v q → (∀ p, lexB (keyQ wd hg xs p) (keyQ wd hg xs q) = false) → Q v H'
theorem scLs : FnScope ["_law_board", "_law_lay_here", "_law_best", "_law_turn_here", "_law_here"] ["_law_board", "_law_lay_here"] (defScope sLs) := ⟨rfl, rfl, rfl, by decide +kernel, rfl, by decide +kernel, by decide +kernel⟩
theorem YO {wd hg : Int} {xs : List V} {H : Hp} {v : V} {q : Bool × Bool × Bool} (ly : isLayV wd hg (some xs) = true) (h : LedAt wd hg xs H v q) : ∃ t c u : Addr, v = .ref t ∧ H t = some (.tup [.ref c, .ref u]) ∧ H c = some (.tup [.int (tW wd hg q), .int (tH wd hg q)]) ∧ H u = some (.tup (turnedL wd hg q xs)) ∧ NR (turnedL wd hg q xs) ∧ (turnedL wd hg q xs).length ≤ 12 := by
 obtain ⟨t, c, u, e, h1, h2, h3⟩ := h
 obtain ⟨c', ec, hc⟩ := Zw h2.1
 cases ec
 refine ⟨t, c, u, e, h1, hc, h3, Z0 ly, ?_⟩
 rw [Ya]
 have := h2.2.2.1
 omega
theorem Zch {wd hg : Int} {xs : List V} {q p : Bool × Bool × Bool} (ly : isLayV wd hg (some xs) = true) : (if [tW wd hg q, tH wd hg q] = [tW wd hg p, tH wd hg p] then lex2 ((turnedL wd hg q xs).map rkV) ((turnedL wd hg p xs).map rkV) else HT.lexLt [tW wd hg q, tH wd hg q] [tW wd hg p, tH wd hg p]) = lexB (keyQ wd hg xs q) (keyQ wd hg xs p) := by
 rw [ZbR (Z0 ly) (Z0 ly)]
 unfold keyQ
 rw [Uo]
theorem ZdJ {f : Addr} {fd : FuncData} (F : Fun K "_law_least" "_law_least" sLs f fd) (D1 : Def P w K mg base 1 "_law_all_turns" [] spAT) (D2 : Def P w K mg base 1 "_law_board_by" ["_law_board", "_law_turn_here"] spBB) (D3 : Def P w K mg base 2 "_law_turned" ["_law_board", "_law_lay_here", "_law_turn_here"] (spLTu K)) (D4 : Def P w K mg base 1 "_law_rank" ["_law_one"] spRk) :
  FnOk P w K mg base CX0 3 f fd ["_law_board", "_law_lay_here"] (spLs K) := by
 refine F.ok scLs (fun vs H Q E h => ?_) (fun cdv A outer s H vs Q E hr h => ?_)
 ·obtain ⟨b, l, xs, wd, hg, rfl, _⟩ := h
  rfl
 ·obtain ⟨b, l, xs, wd, hg, rfl, la, q⟩ := h
  have hu : (A.deeper (envOfC "_law_least" (defScope sLs) s.heap.objs.size f cdv)).units + 3 < cLine := by have := hr.un; omega
  refine ⟨_, Ze (Zv (i := 2) scLs.nd rfl (Or.inl rfl) Yq)
   (Ze (Yo PassesOwn.never rfl (Yg (Ws D1 (hr.mono (by decide)))) (ZC (i := 3) scLs.nd rfl (Or.inl rfl))
    (Ze (Zv (i := 4) scLs.nd rfl (Or.inl rfl) (Zs (Za (Zh D2 (hr.mono (by decide)) (Za (pv 0) (Za (pv 3) Zb))) (Za (Zh D3 hr (Za (pv 0) (Za (pv 1) (Za (pv 3) Zb)))) Zb))))
    (Zi (ZI (PW.pt (YI (Yf (Yr (pv 2))) (Yi (ZA (Zc3 hu) (Zh D4 (hr.mono (by decide)) (Za (pv 4) Zb)) (Zh D4 (hr.mono (by decide)) (Za (pv 2) Zb)) rfl))))
     (Zi (Zv (i := 2) scLs.nd rfl (Or.inl rfl) (pv 4))) Zt))))
   (Zi (Zq (pv 2)))), ?_⟩
  obtain ⟨b', eb, hb⟩ := Zw la.bd.1
  cases eb
  obtain ⟨_, w1, w12, g1, g12⟩ := id la.bd
  refine Zl (Zr (Zm ?_))
  dsimp only [List.set]
  refine Zl ⟨rfl, fun L H1 ts s1 e1 pt => ⟨L, rfl, ⟨ts, SqL.of e1⟩, ?_⟩⟩
  have lt : ts.length = 8 := Paired.length pt
  refine YQ (xs := ts) (fun i σ H2 => Same H1 H2 ∧ ∃ v2 v3 v4, σ = [some (.ref b), some (.ref l), some v2, v3, v4] ∧ ((i = 0 ∧ v2 = .non) ∨ (∃ p, LedAt wd hg xs H2 v2 p ∧ ∀ p' ∈ allT.take i, lexB (keyQ wd hg xs p') (keyQ wd hg xs p) = false))) ⟨Same.refl _, _, _, _, rfl, .inl ⟨rfl, rfl⟩⟩ (fun i σ H2 _ ⟨s2, _⟩ => SqL.of (s2 _ _ e1)) ?_ ?_
  ·rintro i v σ H2 hv ⟨s2, v2, v3, v4, rfl, best⟩
   obtain ⟨y, hy, t, rfl, ht⟩ := Z3 pt hv
   refine Zm ?_
   dsimp only [List.set]
   have s12 := s1.trans s2
   refine Zl (Zr ⟨_, rfl, _, rfl, b, t, wd, hg, y, rfl, s12 _ _ hb, s2 _ _ ht, fun c H3 s3 e3 => ?_⟩)
   refine ⟨_, rfl, _, rfl, _, rfl, b, l, t, xs, wd, hg, y, rfl, la.same (s12.trans s3), (s2.trans s3) _ _ ht, fun u H4 s4 e4 => ?_⟩
   refine ⟨(by show 2 ≤ sizeLine; decide), fun p hp => Zm ?_⟩
   dsimp only [List.set]
   have s5 := Zd (o := .tup [V.ref c, V.ref u]) hp
   have e5 : upd H4 p (.tup [V.ref c, V.ref u]) p = some (.tup [V.ref c, V.ref u]) := Zc
   generalize upd H4 p (.tup [V.ref c, V.ref u]) = H5 at s5 e5
   have s25 := s3.trans (s4.trans s5)
   have here : LedAt wd hg xs H5 (.ref p) y := ⟨p, c, u, rfl, e5, ⟨Zo ((s4.trans s5) _ _ e3), by unfold tW; split <;> omega, by unfold tW; split <;> omega, by unfold tH; split <;> omega, by unfold tH; split <;> omega⟩, s5 _ _ e4⟩
   have took : ∀ {p' : Bool × Bool × Bool}, p' ∈ allT.take (i + 1) → p' ∈ allT.take i ∨ p' = y := fun {p'} h => by
    rw [List.take_add_one, hy] at h
    rcases List.mem_append.mp h with h | h
    ·exact .inl h
    ·exact .inr (List.mem_singleton.mp h)
   refine ⟨_, rfl, _, rfl, ?_⟩
   rcases best with ⟨rfl, rfl⟩ | ⟨q0, led, bst⟩
   ·refine iteT (iteT (Zr ⟨_, rfl, Zm ⟨s2.trans s25, _, _, _, rfl, .inr ⟨y, here, fun p' hp' => ?_⟩⟩⟩))
    rcases took hp' with h | rfl
    ·cases h
    ·exact YN _
   ·have led5 := led.same s25
    obtain ⟨t0, c0, u0, rfl, g1', g2', g3', g4', g5'⟩ := YO la.ly led5
    refine iteF ?_
    obtain ⟨t1, c1, u1, e', h1', h2', h3', h4', h5'⟩ := YO la.ly here
    cases e'
    refine ⟨_, rfl, p, c1, u1, _, _, _, rfl, h1', h2', h3', h4', h5', fun x1 H6 s6 k6 => ?_⟩
    refine ⟨_, rfl, t0, c0, u0, _, _, _, rfl, s6 _ _ g1', s6 _ _ g2', s6 _ _ g3', g4', g5', fun x2 H7 s7 k7 => ?_⟩
    refine ⟨_, _, _, _, _, _, k6.same s7, k7, by rw [List.length_map, sizeLine_eq]; omega, _, rfl, ?_⟩
    rw [Zch la.ly]
    have sE := s6.trans s7
    cases hl : lexB (keyQ wd hg xs y) (keyQ wd hg xs q0) with
    | true =>
     refine iteT (Zr ⟨_, rfl, Zm ⟨s2.trans (s25.trans sE), _, _, _, rfl, .inr ⟨y, here.same sE, fun p' hp' => ?_⟩⟩⟩)
     rcases took hp' with h | rfl
     ·exact J3 _ _ _ (Je _ _ hl) (bst p' h)
     ·exact YN _
    | false =>
     refine iteF (ZF ⟨s2.trans (s25.trans sE), _, _, _, rfl, .inr ⟨q0, led5.same sE, fun p' hp' => ?_⟩⟩)
     rcases took hp' with h | rfl
     ·exact bst p' h
     ·exact hl
  ·rintro σ H2 ⟨s2, v2, v3, v4, rfl, best⟩
   rcases best with ⟨z, _⟩ | ⟨q0, led, bst⟩
   ·rw [lt] at z; cases z
   ·refine ⟨_, rfl, q _ q0 H2 (s1.trans s2) led fun p => bst p ?_⟩
    rw [lt]
    exact Zax p
end
end U
set_option Elab.async false
set_option linter.all false
set_option maxRecDepth 100000
set_option maxHeartbeats 4000000
namespace U
open PySem L2 PyProof.Rows PyProof.Rows.Tim
theorem Jz {α : Type} {R : α → α → Prop} : ∀ {xs : List α}, (∀ x ∈ xs, R x x) → Paired R xs xs
 | [], _ => .nil
 | x :: xs, h => .cons (h x List.mem_cons_self) (Jz fun y hy => h y (List.mem_cons_of_mem _ hy))
theorem ZdA {H : Hp} {xs : List V} (h : NR xs) : Paired (R1 H) xs xs := Jz fun x hx => by
 rcases h x hx with rfl | ⟨i, rfl, _⟩
 ·exact .inr ⟨rfl, rfl⟩
 ·exact .inl ⟨i, rfl, rfl⟩
theorem ZbS {wd hg : Int} {xs : List V} {H : Hp} {v v' : V} {q q' : Bool × Bool × Bool} (ly : isLayV wd hg (some xs) = true) (h : LedAt wd hg xs H v q) (h' : LedAt wd hg xs H v' q') (b : ∀ p, lexB (keyQ wd hg xs p) (keyQ wd hg xs q) = false) (b' : ∀ p, lexB (keyQ wd hg xs p) (keyQ wd hg xs q') = false) : RTu (RTu R1) H v v' := by
 have e := Zao _ _ (b' q) (b q')
 unfold keyQ at e
 rw [List.cons.injEq, List.cons.injEq] at e
 obtain ⟨e1, e2, e3⟩ := e
 have e4 := ZbJ (Z0 ly) (Z0 ly) e3
 obtain ⟨t, c, u, rfl, h1, h2, h3, h4, h5⟩ := YO ly h
 obtain ⟨t', c', u', rfl, h1', h2', h3', h4', h5'⟩ := YO ly h'
 rw [← e1, ← e2] at h2'
 rw [← e4] at h3'
 refine ⟨t, t', _, _, rfl, rfl, h1, h1', .cons ⟨c, c', _, _, rfl, rfl, h2, h2', .cons (.inl ⟨_, rfl, rfl⟩) (.cons (.inl ⟨_, rfl, rfl⟩) .nil), by show 2 ≤ 100; decide⟩ (.cons ⟨u, u', _, _, rfl, rfl, h3, h3', ZdA h4, by omega⟩ .nil), by show 2 ≤ 100; decide⟩
theorem JA {α β γ : Type} {R : α → γ → Prop} {S : β → γ → Prop} {T : α → β → Prop} (h : ∀ a b c, R a c → S b c → T a b) : ∀ {xs : List α} {ys : List β} {zs : List γ}, Paired R xs zs → Paired S ys zs → Paired T xs ys
 | _, _, _, .nil, .nil => .nil
 | _, _, _, .cons a r, .cons b t => .cons (h _ _ _ a b) (JA h r t)
theorem ZaF {H H' : Hp} {a : Addr} (s : Same H H') (h : H' a = none) : H a = none := by
 cases e : H a with
 | none => rfl
 | some o => rw [s _ _ e] at h; cases h
theorem Jo {H H1 : Hp} {L : Addr} {o : HO} (s : Same H H1) (n : H L = none) : Same H (upd H1 L o) := fun b u h => by
 rw [Zg (Zj h n)]
 exact s b u h
section
variable {P : Program} {w : World} {K : PySem.W.Frag} {mg : Str → Option Value} {base : Heap} {aB aL aT : Addr}
abbrev sRt : Stmt := top 57
def spRt (K : PySem.W.Frag) : Sp := fun vs H Q _ => ∃ (b l : Addr) (xs : List V) (wd hg : Int), vs = [.ref b, .ref l] ∧ LayAt K H (.ref b) l xs wd hg ∧ ∀ H', Same H H' → Q (.bl true) H'
theorem scRt : FnScope ["_law_board", "_law_lay_here", "_law_due", "_law_turn_here", "_law_lap", "_law_found"] ["_law_board", "_law_lay_here"] (defScope sRt) := ⟨rfl, rfl, rfl, by decide +kernel, rfl, by decide +kernel, by decide +kernel⟩
theorem ZdD {f : Addr} {fd : FuncData} (F : Fun K "_law_right" "_law_right" sRt f fd) (G : Gs mg) (D1 : Def P w K mg base 10 "least_turned" ["board", "lay"] (spLt K)) (D2 : Def P w K mg base 3 "_law_least" ["_law_board", "_law_lay_here"] (spLs K)) (S3 : Def P w K mg base 3 "_law_same" ["_law_found", "_law_due"] (spSame (RTu (RTu R1)))) (D3 : Def P w K mg base 1 "_law_all_turns" [] spAT)
  (D4 : Def P w K mg base 1 "_law_board_by" ["_law_board", "_law_turn_here"] spBB) (D5 : Def P w K mg base 2 "_law_turned" ["_law_board", "_law_lay_here", "_law_turn_here"] (spLTu K)) (D6 : Def P w K mg base 10 "own_turns" ["board", "lay"] (spOw K)) (SL : Def P w K mg base 3 "_law_same" ["_law_found", "_law_due"] (spSame (RLi (RTK K)))) :
  FnOk P w K mg base CX0 11 f fd ["_law_board", "_law_lay_here"] (spRt K) := by
 refine F.ok scRt (fun vs H Q E h => ?_) (fun cdv A outer s H vs Q E hr h => ?_)
 ·obtain ⟨b, l, xs, wd, hg, rfl, _⟩ := h
  rfl
 ·obtain ⟨b, l, xs, wd, hg, rfl, la, q⟩ := h
  have hu : (A.deeper (envOfC "_law_right" (defScope sRt) s.heap.objs.size f cdv)).units < cLine := by have := hr.un; omega
  refine ⟨_, Ze (ZI (ZX (ZO (Zh S3 (hr.mono (by decide)) (Za (Zh D1 hr (Za (pv 0) (Za (pv 1) Zb))) (Za (Zh D2 (hr.mono (by decide)) (Za (pv 0) (Za (pv 1) Zb))) Zb))))) Zp Zt)
   (Ze (Zv (i := 2) scRt.nd rfl (Or.inl rfl) (ZG Zb))
   (Ze (Yo PassesOwn.never rfl (Yg (Ws D3 (hr.mono (by decide)))) (ZC (i := 3) scRt.nd rfl (Or.inl rfl))
    (Zi (ZI (PW.pt (UI (ZA (Zaj hu) (Zh D4 (hr.mono (by decide)) (Za (pv 0) (Za (pv 3) Zb))) (pv 0) rfl) (WP (ZA (Zaj hu) (Zh D5 (hr.mono (by decide)) (Za (pv 0) (Za (pv 1) (Za (pv 3) Zb)))) (pv 1) rfl))))
     (Zi (ZU (Jy PySem.F.plainAttrs_list PySem.F.slot_list_append PySem.F.type_list_append YX (pv 2) (Za (pv 3) Zb)))) Zt)))
   (Ze (Yo PassesOwn.never rfl (Z9 rfl G.range (Za Zf Zb)) (ZC (i := 4) scRt.nd rfl (Or.inl rfl))
    (Ze (Zv (i := 5) scRt.nd rfl (Or.inl rfl) (Zh D6 hr (Za (pv 0) (Za (pv 1) Zb))))
    (Ze (ZI (ZX (ZO (Zh SL (hr.mono (by decide)) (Za (pv 5) (Za (pv 2) Zb))))) Zp Zt)
    (Ze (ZU (Jy PySem.F.plainAttrs_list PySem.F.slot_list_append PySem.F.type_list_append YX (pv 5) (Za Zf Zb)))
    (Zi (ZU (Zc1 PySem.F.plainAttrs_list PySem.F.slot_list_reverse PySem.F.type_list_reverse UT (pv 5))))))))
   (Zi (Zq Wt))))), ?_⟩
  obtain ⟨b', eb, hb⟩ := Zw la.bd.1
  cases eb
  refine Zl ⟨_, rfl, _, rfl, b, l, xs, wd, hg, rfl, la, fun v y H1 s1 led best => ?_⟩
  refine ⟨_, rfl, _, rfl, b, l, xs, wd, hg, rfl, la.same s1, fun v' y' H2 s2 led' best' => ?_⟩
  refine ⟨v, v', rfl, ZbS la.ly (led.same s2) led' best best', fun H3 s3 => ⟨true, rfl, iteF (ZF ?_)⟩⟩
  dsimp only
  have s03 := s1.trans (s2.trans s3)
  generalize H3 = H3 at s03
  refine Zl (Zr ⟨Nat.zero_le _, fun d hd => Zm ?_⟩)
  dsimp only [List.set]
  have s4 := Zd (o := .lst []) hd
  have e4 : upd H3 d (.lst []) d = some (.lst []) := Zc
  generalize upd H3 d (.lst []) = H4 at s4 e4
  refine Zl ⟨rfl, fun L H5 ts s5 e5 pt => ⟨L, rfl, ⟨ts, SqL.of e5⟩, ?_⟩⟩
  have lt : ts.length = 8 := Paired.length pt
  have nLd : L ≠ d := YG e5 (s5 _ _ e4) (by intro z; cases z; cases lt)
  refine YQ (xs := ts) (fun i σ H6 => ∃ v3 v4 v5 ds, σ = [some (.ref b), some (.ref l), some (.ref d), v3, v4, v5] ∧ Same H3 H6 ∧ H6 L = some (.lst ts) ∧ Paired (TrAt H6) ts allT ∧ H6 d = some (.lst ds) ∧ Paired (TrAt H6) ds ((allT.take i).filter (ownB wd hg xs)) ∧ ds.length ≤ i) ⟨_, _, _, [], rfl, s4.trans s5, e5, pt, s5 _ _ e4, .nil, Nat.zero_le _⟩ (fun i σ H6 _ ⟨_, _, _, _, _, _, e, _⟩ => SqL.of e) ?_ ?_
  ·rintro i v σ H6 hv ⟨v3, v4, v5, ds, rfl, s6, eL, pt6, ed, pd, ld⟩
   obtain ⟨y0, hy, t, rfl, ht⟩ := Z3 pt6 hv
   have hi : i < 8 := by have := (List.getElem?_eq_some_iff.mp hv).1; omega
   refine Zm ?_
   dsimp only [List.set]
   have s06 := s03.trans s6
   have ef : (allT.take (i + 1)).filter (ownB wd hg xs) = (allT.take i).filter (ownB wd hg xs) ++ (if ownB wd hg xs y0 = true then [y0] else []) := by
    rw [List.take_add_one, hy, List.filter_append]
    show _ ++ [y0].filter (ownB wd hg xs) = _
    rw [List.filter_cons, List.filter_nil]
   have fin0 : ∀ H7, Same H6 H7 → ownB wd hg xs y0 = false → ∃ w3 w4 w5 ds, ([some (.ref b), some (.ref l), some (.ref d), some (.ref t), v4, v5] : L2.St) = [some (.ref b), some (.ref l), some (.ref d), w3, w4, w5] ∧ Same H3 H7 ∧ H7 L = some (.lst ts) ∧ Paired (TrAt H7) ts allT ∧ H7 d = some (.lst ds) ∧ Paired (TrAt H7) ds ((allT.take (i + 1)).filter (ownB wd hg xs)) ∧ ds.length ≤ i + 1 := fun H7 s7 ho => by
    rw [ho, if_neg Bool.false_ne_true, List.append_nil] at ef
    rw [ef]
    exact ⟨_, _, _, ds, rfl, s6.trans s7, s7 _ _ eL, Paired.mapP pt6 fun _ _ h => h.same s7, s7 _ _ ed, Paired.mapP pd fun _ _ h => h.same s7, by omega⟩
   refine ⟨_, rfl, _, rfl, b, t, wd, hg, y0, rfl, s06 _ _ hb, ht, fun c H7 s7 e7 => ?_⟩
   refine ⟨_, rfl, c, b, _, _, rfl, rfl, e7, (s06.trans s7) _ _ hb, rfl, rfl, _, rfl, ?_⟩
   rw [Bool.false_xor]
   by_cases z1 : [V.int (tW wd hg y0), V.int (tH wd hg y0)] = [V.int wd, V.int hg]
   ·rw [decide_eq_true z1]
    refine iteT ?_
    refine ⟨_, rfl, _, rfl, _, rfl, b, l, t, xs, wd, hg, y0, rfl, la.same (s06.trans s7), s7 _ _ ht, fun u H8 s8 e8 => ?_⟩
    refine ⟨_, rfl, u, l, _, _, rfl, rfl, e8, (s06.trans (s7.trans s8)) _ _ la.at_, (Z0 la.ly).ni, (ZbT la.ly).ni, _, rfl, ?_⟩
    rw [Bool.false_xor]
    have s68 := s7.trans s8
    by_cases z2 : turnedL wd hg y0 xs = xs
    ·rw [decide_eq_true z2]
     have ho : ownB wd hg xs y0 = true := decide_eq_true ⟨z1, z2⟩
     rw [ho, if_pos rfl] at ef
     refine iteT ⟨_, rfl, .inl ⟨rfl, _, SqL.of (s68 _ _ ed)⟩, _, rfl, d, ds, .ref t, rfl, rfl, s68 _ _ ed, by rw [sizeLine_eq]; omega, ZF ?_⟩
     have keep : ∀ {v : V} {q' : Bool × Bool × Bool}, TrAt H6 v q' → TrAt (upd H8 d (.lst (ds ++ [.ref t]))) v q' := fun {v q'} ⟨t', e', h'⟩ => ⟨t', e', by
      rw [Zg (YG (s68 _ _ h') (s68 _ _ ed) (by intro z; cases z))]
      exact s68 _ _ h'⟩
     refine ⟨_, _, _, _, rfl, Jo (s6.trans s68) hd, ?_, Paired.mapP pt6 fun _ _ h => keep h, Zc, ?_, by rw [List.length_append]; simp; omega⟩
     ·rw [Zg nLd]
      exact s68 _ _ eL
     ·rw [ef]
      exact Paired.snoc (Paired.mapP pd fun _ _ h => keep h) (keep ⟨t, rfl, ht⟩)
    ·rw [decide_eq_false z2]
     exact iteF (ZF (fin0 H8 s68 (decide_eq_false fun z => z2 z.2)))
   ·rw [decide_eq_false z1]
    exact iteF (iteF (ZF (fin0 H7 s7 (decide_eq_false fun z => z1 z.1))))
  ·rintro σ H6 ⟨v3, v4, v5, ds, rfl, s6, eL, pt6, ed, pd, ld⟩
   rw [lt] at pd
   dsimp only
   have s06 := s03.trans s6
   refine Zl ⟨2, rfl, by decide, by decide, ?_⟩
   refine Yx (fun i σ H' => ∃ v4 v5, σ = [some (.ref b), some (.ref l), some (.ref d), v3, v4, v5] ∧ Same H6 H') ⟨_, _, rfl, Same.refl _⟩ ?_ ?_
   ·rintro i σ H7 hi ⟨w4, w5, rfl, s7⟩
    rw [Int.zero_add]
    refine Zm ?_
    dsimp only [List.set]
    refine Zl (Zr ⟨_, rfl, _, rfl, b, l, xs, wd, hg, rfl, la.same (s06.trans s7), fun g H8 ps s8 ng eg pr => Zm ?_⟩)
    dsimp only [List.set]
    have s68 := s7.trans s8
    have lps := Paired.length pr
    have lpd := Paired.length pd
    have hlp : (allT.filter (ownB wd hg xs)).length ≤ 8 := List.length_filter_le _ allT
    refine Zl ⟨_, rfl, _, rfl, .ref g, .ref d, rfl, ⟨g, d, ps, ds, rfl, rfl, eg, s68 _ _ ed, JA (fun v v' q' ⟨t1, e1, h1⟩ ⟨t2, e2, h2⟩ => ⟨t1, t2, q', e1, e2, h1 H8, s68 _ _ h2⟩) pr pd, by omega⟩, fun H9 s9 => ⟨true, rfl, iteF (ZF ?_)⟩⟩
    dsimp only
    have ng6 : H6 g = none := ZaF s7 ng
    have eg9 := s9 _ _ eg
    refine Zl ⟨_, rfl, .inl ⟨rfl, _, SqL.of eg9⟩, g, ps, _, rfl, rfl, eg9, by rw [sizeLine_eq]; omega, ZF ?_⟩
    dsimp only
    have s10 : Same H6 (upd H9 g (.lst (ps ++ [.int 0]))) := Jo (s68.trans s9) ng6
    have e10 : upd H9 g (.lst (ps ++ [.int 0])) g = some (.lst (ps ++ [.int 0])) := Zc
    generalize upd H9 g (HO.lst (ps ++ [.int 0])) = H10 at s10 e10
    refine ⟨_, rfl, .inl ⟨rfl, _, SqL.of e10⟩, g, _, rfl, rfl, e10, ZF ?_⟩
    exact ⟨_, _, rfl, Jo s10 ng6⟩
   ·rintro σ H7 ⟨w4, w5, rfl, s7⟩
    exact q H7 (s06.trans s7)
end
end U
set_option Elab.async false
set_option linter.all false
set_option maxRecDepth 100000
set_option maxHeartbeats 4000000
namespace U
open PySem L2 PyProof.Rows PyProof.Rows.Tim
def evH (m : Int) : Int → List Bool → List Int
 | _, [] => []
 | i, b :: bs => (if b = true then m - 1 - i else i) :: evH m (i + 1) bs
theorem Jj (m : Int) : ∀ (bs : List Bool) (i : Int), (evH m i bs).length = bs.length
 | [], _ => rfl
 | b :: bs, i => by show (evH m (i + 1) bs).length + 1 = bs.length + 1; rw [Jj m bs]
theorem Ux (m : Int) (b : Bool) : ∀ (bs : List Bool) (i : Int), evH m i (bs ++ [b]) = evH m i bs ++ [if b = true then m - 1 - (i + bs.length) else i + bs.length]
 | [], i => by simp [evH]
 | c :: bs, i => by
  show _ :: evH m (i + 1) (bs ++ [b]) = _
  rw [Ux m b bs (i + 1)]
  have e : i + 1 + (bs.length : Int) = i + ((c :: bs).length : Int) := by simp; omega
  rw [e]
  rfl
def evL (m : Int) (bs : List Bool) : List Int := (evH m 0 bs ++ List.replicate (m % 2).toNat (m / 2)) ++ (evH m 0 bs).reverse.map fun r => m - 1 - r
def allB : Nat → List (List Bool)
 | 0 => [[]]
 | n + 1 => (allB n).map (false :: ·) ++ (allB n).map (true :: ·)
theorem Uk : ∀ bs : List Bool, bs ∈ allB bs.length
 | [] => List.mem_cons_self
 | b :: bs => by
  show b :: bs ∈ (allB bs.length).map (false :: ·) ++ (allB bs.length).map (true :: ·)
  have h := Uk bs
  cases b
  ·exact List.mem_append_left _ (List.mem_map.mpr ⟨bs, h, rfl⟩)
  ·exact List.mem_append_right _ (List.mem_map.mpr ⟨bs, h, rfl⟩)
theorem Zds : ((List.range 13).all fun m => (allB (m / 2)).all fun bs => m == 0 || isLayV m m (some ((evL m bs).map V.int))) = true := by decide +kernel
theorem Zdr {m : Int} {bs : List Bool} (h1 : 1 ≤ m) (h12 : m ≤ 12) (hl : bs.length = (m / 2).toNat) : isLayV m m (some ((evL m bs).map V.int)) = true := by
 have e : m = (m.toNat : Int) := by omega
 have h := List.all_eq_true.mp (List.all_eq_true.mp Zds m.toNat (by rw [List.mem_range]; omega)) bs (by
  have := Uk bs
  rw [hl, show (m / 2).toNat = m.toNat / 2 by omega] at this
  exact this)
 rw [Bool.or_eq_true] at h
 rcases h with h | h
 ·rw [beq_iff_eq] at h
  omega
 ·rw [← e] at h
  exact h
theorem Uc {m : Int} {ns : List Int} (h1 : 1 ≤ m) (pm : ns.Perm (frTo 0 m.toNat)) : isLayV m m (some (ns.map V.int)) = true := by
 have hl := pm.length_eq
 rw [J8] at hl
 refine WY.mpr ⟨by rw [List.length_map]; omega, fun v hv => ?_, ?_⟩
 ·obtain ⟨i, hi, rfl⟩ := List.mem_map.mp hv
  have := J7.mp (pm.mem_iff.mp hi)
  exact .inr (WJ this.1 (by omega))
 ·rw [List.pairwise_map]
  exact (pm.nodup_iff.mpr (J6 _)).imp fun h e => absurd (V.int.inj e) h
theorem Zbs {m : Int} {ns : List Int} {i : Int} (pm : ns.Perm (frTo 0 m.toNat)) (h : i ∈ ns) : 0 ≤ i ∧ i < m := by
 have := J7.mp (pm.mem_iff.mp h)
 omega
theorem ZaD {ns : List Int} {i j : Nat} (hi : i < ns.length) (hj : j < ns.length) : ((ns.map V.int).set i (.int ns[j])).set j (.int ns[i]) = ((ns.set i ns[j]).set j ns[i]).map V.int ∧ ((ns.set i ns[j]).set j ns[i]).Perm ns := by
 refine ⟨?_, List.set_set_perm hi hj⟩
 rw [List.map_set, List.map_set]
section
variable {P : Program} {w : World} {K : PySem.W.Frag} {mg : Str → Option Value} {base : Heap} {aB aL aT : Addr}
abbrev sEv : Stmt := top 58
def spEv : Sp := fun vs H Q _ => ∃ (p : Addr) (m : Int), vs = [.ref p, .int m] ∧ StAt H p ∧ 1 ≤ m ∧ m ≤ 12 ∧ ∀ (l : Addr) H' (xs : List V), SameX p H H' → StAt H' p → H' l = some (.tup xs) → isLayV m m (some xs) = true → Q (.ref l) H'
abbrev nEv : List Str := ["_law_state_here", "_law_many", "_law_way", "_law_found", "_law_k", "_law_at", "_law_to", "_law_half"]
theorem scEv : FnScope nEv ["_law_state_here", "_law_many"] (defScope sEv) := ⟨rfl, rfl, rfl, by decide +kernel, rfl, by decide +kernel, by decide +kernel⟩
theorem ZdN {f : Addr} {fd : FuncData} (F : Fun K "_law_even" "_law_even" sEv f fd) (G : Gs mg) (D1 : Def P w K mg base 1 "_law_take" ["_law_state_here", "_law_many"] spTake) : FnOk P w K mg base CX0 2 f fd ["_law_state_here", "_law_many"] spEv := by
 refine F.ok scEv (fun vs H Q E h => ?_) (fun cdv A outer s H vs Q E hr h => ?_)
 ·obtain ⟨p, m, rfl, _⟩ := h
  rfl
 ·obtain ⟨p, m, rfl, st, m1, m12, q⟩ := h
  refine ⟨_, Ze (UK (i := 2) (j := 3) rfl scEv.nd rfl rfl (by decide) rfl rfl (Za (Zh D1 hr (Za (pv 0) (Za Zf Zb))) (Za (ZL Y3 rfl G.list boot_list (Za (ZL JC rfl G.range boot_range (Za (pv 1) Zb)) Zb)) Zb)) rfl)
   (Ze (ZI (ZA Z8 (pv 2) Zf (nomark _))
    (Ze (Yo PassesOwn.never rfl (Z9 rfl G.range (Za (Zh D1 hr (Za (pv 0) (Za Zf Zb))) Zb)) (ZC (i := 4) scEv.nd rfl (Or.inl rfl))
     (Ze (Zv (i := 5) scEv.nd rfl (Or.inl rfl) (Zh D1 hr (Za (pv 0) (Za (pv 1) Zb))))
     (Ze (Zv (i := 6) scEv.nd rfl (Or.inl rfl) (ZB ZJ (pv 3) (Zh D1 hr (Za (pv 0) (Za (pv 1) Zb))) (fun _ _ => rfl)))
     (Zi (ZI (PW.pt (UI (ZA Z8 (ZB ZJ (pv 3) (pv 5) (fun _ _ => rfl)) (pv 5) rfl) (WP (ZA Z8 (ZB ZJ (pv 3) (pv 6) (fun _ _ => rfl)) (pv 6) rfl))))
      (Zi (Yp (Zs (Za (pv 6) (Za (pv 5) Zb))) (ZY rfl (Zn (JQ (pv 3) (pv 5) YH) (Zn (JQ (pv 3) (pv 6) YH) ZP))))) Zt)))))
    (Zi (Zq (ZL ZT rfl G.tuple boot_tuple (Za (pv 3) Zb))))) Zt)
   (Ze (ZI (ZA Z8 (pv 2) Zf (nomark _)) (Zi (Zq (ZL ZT rfl G.tuple boot_tuple (Za (Zaf (pv 3)) Zb)))) Zt)
   (Ze (U9 ["_law_at", "_law_many", "_law_state_here"] 1 [1, 0] (i := 7) scEv.nd rfl (Or.inl rfl) (Z9 rfl G.range (Za (Zu JJ (pv 1) Zf) Zb)) (fun C s H fp => pb 0) (fun C s H fp => ZQ)
    (fun C s H fp D => ZE rfl (ZB (show IxR (blk _ _ _ C s H fp) (rIxL K) from ZJ) (ZG (Za (pv 0) (Za (Zu ZZ (Zu ZZ (pv 1) Zf) (pv 0)) Zb))) (Zh D1 hr (Za (pv 2) (Za Zf Zb))) (fun _ _ => rfl))))
   (Zi (Zq (ZL ZT rfl G.tuple boot_tuple (Za (Zu YC (Zu YC (pv 7) (Zu Zbx (ZG (Za (Zu JJ (pv 1) Zf) Zb)) (Zu Y5 (pv 1) Zf)))
    (ZM ["_law_row", "_law_many"] 1 [1] (Yg (Zaf (pv 7))) (fun C s H fp => pb 0) (fun C s H fp => ZQ) (fun C s H fp D => ZE rfl (Zu ZZ (Zu ZZ (pv 1) Zf) (pv 0))))) Zb))))))), ?_⟩
  refine Zl ⟨_, rfl, p, 3, rfl, st, by decide, by decide, fun way o1 w0 w3 st1 => ⟨_, rfl, m, rfl, fun rg hrg => ⟨rg, m, rfl, Zc, by omega, by omega, fun L hL => ⟨_, _, rfl, ?_⟩⟩⟩⟩
  dsimp only [List.set]
  have x1 : SameX p H (upd H p o1) := SameX.upd
  have sA := Zd (o := .rng 0 m) hrg
  have sB := Zd (o := .lst (L2.upTo m.toNat)) hL
  have eL : upd (upd (upd H p o1) rg (.rng 0 m)) L (.lst (L2.upTo m.toNat)) L = some (.lst (L2.upTo m.toNat)) := Zc
  have st2 := st1.same (sA.trans sB)
  have x2 : SameX p H _ := x1.trans (sA.trans sB).x
  have hLf : H L = none ∧ L ≠ p := by
   obtain ⟨u, v, e, _⟩ := st1.same sA
   exact YB (x1.trans sA.x) e hL
  generalize upd (upd (upd H p o1) rg (.rng 0 m)) L (.lst (L2.upTo m.toNat)) = H1 at eL st2 x2
  obtain ⟨hLn, hLp⟩ := hLf
  rw [Wn] at eL
  refine Zl ⟨_, rfl, rfl, _, rfl, ?_⟩
  by_cases w0' : way = 0
  ·subst w0'
   refine iteT ?_
   refine Zl ⟨_, rfl, p, 5, rfl, st2, by decide, by decide, fun n o3 n0 n5 st3 => ⟨n, rfl, by omega, by omega, ?_⟩⟩
   have x3 : SameX p H (upd H1 p o3) := x2.trans SameX.upd
   have e3 : upd H1 p o3 L = some (.lst ((frTo 0 m.toNat).map V.int)) := by rw [Zg hLp]; exact eL
   generalize upd H1 p o3 = H3 at x3 e3 st3
   refine Yx (fun i σ H4 => ∃ (v4 v5 v6 v7 : Option V) (gs : List Int), σ = [some (.ref p), some (.int m), some (.int 0), some (.ref L), v4, v5, v6, v7] ∧ SameX p H H4 ∧ StAt H4 p ∧ H4 L = some (.lst (gs.map V.int)) ∧ gs.Perm (frTo 0 m.toNat)) ⟨_, _, _, _, _, rfl, x3, st3, e3, .refl _⟩ ?_ ?_
   ·rintro i σ H4 hi ⟨v4, v5, v6, v7, gs, rfl, x4, st4, e4, pm⟩
    have gl := pm.length_eq
    rw [J8] at gl
    refine Zm ?_
    dsimp only [List.set]
    refine Zl (Zr ⟨_, rfl, _, rfl, p, m, rfl, st4, by omega, by omega, fun a o5 a0 a1 st5 => Zm ?_⟩)
    dsimp only [List.set]
    have x5 : SameX p H (upd H4 p o5) := x4.trans SameX.upd
    have e5 : upd H4 p o5 L = some (.lst (gs.map V.int)) := by rw [Zg hLp]; exact e4
    generalize upd H4 p o5 = H5 at x5 e5 st5
    refine Zl (Zr ⟨_, rfl, _, rfl, _, rfl, p, m, rfl, st5, by omega, by omega, fun b o6 b0 b1 st6 => ?_⟩)
    have x6 : SameX p H (upd H5 p o6) := x5.trans SameX.upd
    have e6 : upd H5 p o6 L = some (.lst (gs.map V.int)) := by rw [Zg hLp]; exact e5
    generalize upd H5 p o6 = H6 at x6 e6 st6
    refine ⟨L, _, _, _, rfl, rfl, SqL.of e6, U4 b0 (by omega), Zm ?_⟩
    dsimp only [List.set]
    obtain ⟨c, hc⟩ : ∃ c, c = gs[b.toNat]'(by omega) := ⟨_, rfl⟩
    rw [← hc]
    have cr := Zbs (m := m) pm (show c ∈ gs by rw [hc]; exact List.getElem_mem _)
    have stop : ∃ (w4 w5 w6 w7 : Option V) (gs : List Int), ([some (.ref p), some (.int m), some (.int 0), some (.ref L), some (.int (0 + (i : Int))), some (.int a), some (.int c), v7] : L2.St) = [some (.ref p), some (.int m), some (.int 0), some (.ref L), w4, w5, w6, w7] ∧ SameX p H H6 ∧ StAt H6 p ∧ H6 L = some (.lst (gs.map V.int)) ∧ gs.Perm (frTo 0 m.toNat) := ⟨_, _, _, _, gs, rfl, x6, st6, e6, pm⟩
    refine ⟨_, rfl, _, rfl, L, _, _, _, rfl, rfl, SqL.of e6, U4 a0 (by omega), _, rfl, rfl, _, rfl, ?_⟩
    by_cases z1 : gs[a.toNat]'(by omega) = a
    ·rw [decide_eq_true (by rw [z1])]
     refine iteT ⟨_, rfl, _, rfl, L, _, _, _, rfl, rfl, SqL.of e6, U4 cr.1 (by omega), _, rfl, rfl, _, rfl, ?_⟩
     by_cases z2 : gs[c.toNat]'(by omega) = c
     ·rw [decide_eq_true (by rw [z2])]
      refine iteT (Zr ⟨_, rfl, _, rfl, (by show 2 ≤ sizeLine; decide), fun t ht => ?_⟩)
      have s7 := Zd (o := .tup [V.int c, V.int a]) ht
      refine ⟨t, _, rfl, SqT.of Zc, rfl, ?_⟩
      generalize upd H6 t (.tup [V.int c, V.int a]) = H7 at s7
      have e7 := s7 _ _ e6
      refine ⟨_, _, rfl, _, rfl, _, rfl, L, _, a, a.toNat, rfl, rfl, e7, WZ a0 (by rw [List.length_map]; omega), ?_⟩
      refine ⟨_, _, rfl, _, rfl, _, rfl, L, _, c, c.toNat, rfl, rfl, Zc, WZ cr.1 (by rw [List.length_set, List.length_map]; omega), rfl, ?_⟩
      obtain ⟨y1, y2⟩ := ZaD (ns := gs) (i := a.toNat) (j := c.toNat) (by omega) (by omega)
      rw [z1, z2] at y1 y2
      refine ⟨_, _, _, _, _, rfl, YA (YA (x6.trans s7.x) hLn) hLn, JG (JG (st6.same s7) hLp) hLp, ?_, y2.trans pm⟩
      rw [Zc, ← y1]
     ·rw [decide_eq_false (fun e => z2 (V.int.inj e))]
      exact iteF (ZF stop)
    ·rw [decide_eq_false (fun e => z1 (V.int.inj e))]
     exact iteF (iteF (ZF stop))
   ·rintro σ H4 ⟨v4, v5, v6, v7, gs, rfl, x4, st4, e4, pm⟩
    refine ⟨_, rfl, L, _, rfl, .inl ⟨SqL.of e4, fun l hl => ?_⟩⟩
    have s5 := Zd (o := .tup (gs.map V.int)) hl
    exact q l _ _ (x4.trans s5.x) (st4.same s5) Zc (Uc m1 pm)
  ·have z : decide (V.int way = V.int 0) = false := decide_eq_false (fun e => w0' (by cases e; rfl))
   rw [z]
   refine iteF (ZF ?_)
   dsimp only
   refine Zl ⟨_, rfl, rfl, _, rfl, ?_⟩
   by_cases w1' : way = 1
   ·subst w1'
    refine iteT ⟨_, rfl, L, _, rfl, SqL.of eL, fun R hR => ?_⟩
    have s3 := Zd (o := .lst ((frTo 0 m.toNat).map V.int).reverse) hR
    refine ⟨R, _, rfl, .inl ⟨SqL.of Zc, fun l hl => ?_⟩⟩
    generalize upd H1 R (.lst ((frTo 0 m.toNat).map V.int).reverse) = H3 at s3 hl
    have s4 := Zd (o := .tup ((frTo 0 m.toNat).map V.int).reverse) hl
    refine q l _ _ (x2.trans (s3.trans s4).x) (st2.same (s3.trans s4)) Zc ?_
    rw [← List.map_reverse]
    exact Uc m1 (List.reverse_perm _)
   ·have z : decide (V.int way = V.int 1) = false := decide_eq_false (fun e => w1' (by cases e; rfl))
    rw [z]
    refine iteF (ZF ?_)
    dsimp only
    refine Zl (Zr ⟨_, rfl, _, _, rfl, rfl, ⟨by decide, by decide⟩, m / 2, rfl, by omega, by omega, ?_⟩)
    refine J0 (n := (m / 2).toNat) (fun j ys σ H2 => ∃ (bs : List Bool) (v : Option V), ys = (evH m 0 bs).map V.int ∧ bs.length = j ∧ σ = [v, some (.int m), some (.ref p)] ∧ SameX p H H2 ∧ StAt H2 p) ⟨[], none, rfl, rfl, rfl, x2, st2⟩ ?_ ?_
    ·rintro j ys σ H2 hj ⟨bs, v, rfl, lb, rfl, x3, st3⟩
     rw [Int.zero_add]
     refine ⟨_, rfl, _, rfl, _, _, rfl, rfl, _, rfl, _, _, rfl, rfl, (by show 2 ≤ sizeLine; decide), fun Z hZ => ?_⟩
     have s4 := Zd (o := .lst [V.int (j : Int), V.int (m - 1 - (j : Int))]) hZ
     have e4 : upd H2 Z (.lst [V.int (j : Int), V.int (m - 1 - (j : Int))]) Z = some (.lst [V.int (j : Int), V.int (m - 1 - (j : Int))]) := Zc
     obtain ⟨u0, v0, e0, _⟩ := id st3
     have nZ := (YB x3 e0 hZ).2
     try dsimp only
     generalize upd H2 Z (.lst [V.int (j : Int), V.int (m - 1 - (j : Int))]) = H4 at s4 e4
     refine ⟨_, rfl, p, 2, rfl, st3.same s4, by decide, by decide, fun r o5 r0 r2 st5 => ?_⟩
     obtain ⟨b, rfl⟩ : ∃ b : Bool, r = bi b := by
      rcases (by omega : r = 0 ∨ r = 1) with rfl | rfl
      ·exact ⟨false, rfl⟩
      ·exact ⟨true, rfl⟩
     refine ⟨Z, _, _, _, rfl, rfl, SqL.of (by rw [Zg nZ]; exact e4), UC, ?_, bs ++ [b], _, ?_, by rw [List.length_append, lb]; rfl, rfl, (x3.trans s4.x).trans SameX.upd, st5⟩
     ·rw [List.length_map, Jj, sizeLine_eq]; omega
     ·rw [Ux, List.map_append, lb, Int.zero_add]
      cases b <;> rfl
    ·rintro ys σ H2 ⟨bs, v, rfl, lb, rfl, x3, st3⟩ F hF
     refine Zm ?_
     dsimp only [List.set]
     have s4 := Zd (o := .lst ((evH m 0 bs).map V.int)) hF
     have e4 : upd H2 F (.lst ((evH m 0 bs).map V.int)) F = some (.lst ((evH m 0 bs).map V.int)) := Zc
     generalize upd H2 F (.lst ((evH m 0 bs).map V.int)) = H4 at s4 e4
     refine ⟨_, rfl, _, rfl, _, _, rfl, rfl, ⟨by decide, by decide⟩, (by show 1 ≤ sizeLine; decide), fun Z hZ => ?_⟩
     have s5 := Zd (o := .lst [V.int (m / 2)]) hZ
     have e5 : upd H4 Z (.lst [V.int (m / 2)]) Z = some (.lst [V.int (m / 2)]) := Zc
     generalize upd H4 Z (.lst [V.int (m / 2)]) = H5 at s5 e5
     refine ⟨_, rfl, _, _, rfl, rfl, (by decide : (0 : Int) < 2), Z, m % 2, _, rfl, rfl, e5, by omega, by omega, ?_, fun Y hY => ?_⟩
     ·rw [sizeLine_eq]
      show 1 * (m % 2).toNat ≤ _
      omega
     rw [JP]
     have s6 := Zd (o := .lst (List.replicate (m % 2).toNat (V.int (m / 2)))) hY
     have e6 : upd H5 Y (.lst (List.replicate (m % 2).toNat (V.int (m / 2)))) Y = some (.lst (List.replicate (m % 2).toNat (V.int (m / 2)))) := Zc
     generalize upd H5 Y (.lst (List.replicate (m % 2).toNat (V.int (m / 2)))) = H6 at s6 e6
     have e46 := (s5.trans s6) _ _ e4
     refine ⟨F, Y, _, _, rfl, rfl, e46, e6, ?_, fun X1 hX1 => ?_⟩
     ·rw [List.length_map, Jj, List.length_replicate, sizeLine_eq]; omega
     have s7 := Zd (o := .lst ((evH m 0 bs).map V.int ++ List.replicate (m % 2).toNat (V.int (m / 2)))) hX1
     have e7 : upd H6 X1 (.lst ((evH m 0 bs).map V.int ++ List.replicate (m % 2).toNat (V.int (m / 2)))) X1 = some (.lst ((evH m 0 bs).map V.int ++ List.replicate (m % 2).toNat (V.int (m / 2)))) := Zc
     generalize upd H6 X1 (.lst ((evH m 0 bs).map V.int ++ List.replicate (m % 2).toNat (V.int (m / 2)))) = H7 at s7 e7
     refine ⟨_, rfl, F, _, rfl, SqL.of (s7 _ _ e46), fun R hR => ⟨R, rfl, ⟨_, SqL.of Zc⟩, ?_⟩⟩
     have s8 := Zd (o := .lst ((evH m 0 bs).map V.int).reverse) hR
     have e8 : upd H7 R (.lst ((evH m 0 bs).map V.int).reverse) R = some (.lst ((evH m 0 bs).map V.int).reverse) := Zc
     generalize upd H7 R (.lst ((evH m 0 bs).map V.int).reverse) = H8 at s8 e8
     have e8' : H8 R = some (.lst (((evH m 0 bs).reverse).map V.int)) := by rw [List.map_reverse]; exact e8
     generalize hrs : (evH m 0 bs).reverse = rs at e8'
     have lr : rs.length = (m / 2).toNat := by rw [← hrs, List.length_reverse, Jj, lb]
     refine YW (xs := rs.map V.int) (fun j ys σ H9 => ys = ((rs.take j).map fun r => m - 1 - r).map V.int ∧ H9 = H8 ∧ ∃ v, σ = [v, some (.int m)]) ⟨rfl, rfl, none, rfl⟩ (fun j ys σ H9 _ ⟨_, e, _⟩ => by rw [e]; exact SqL.of e8') ?_ ?_
     ·rintro j y ys σ H9 hy ⟨rfl, rfl, v, rfl⟩
      rw [List.getElem?_map] at hy
      cases hr' : rs[j]? with
      | none => rw [hr'] at hy; cases hy
      | some r =>
       rw [hr'] at hy
       cases hy
       refine ⟨_, rfl, _, _, rfl, rfl, _, rfl, _, _, rfl, rfl, ?_, ?_, rfl, _, rfl⟩
       ·rw [List.length_map, List.length_map, List.length_take, sizeLine_eq]; omega
       ·rw [List.take_add_one, hr', List.map_append, List.map_append]
        rfl
     ·rintro ys σ H9 ⟨rfl, rfl, v, rfl⟩ W1 hW1
      rw [List.length_map, List.take_length]
      have s10 := Zd (o := .lst ((rs.map fun r => m - 1 - r).map V.int)) hW1
      have e10 : upd H9 W1 (.lst ((rs.map fun r => m - 1 - r).map V.int)) W1 = some (.lst ((rs.map fun r => m - 1 - r).map V.int)) := Zc
      generalize upd H9 W1 (.lst ((rs.map fun r => m - 1 - r).map V.int)) = H10 at s10 e10
      refine ⟨X1, W1, _, _, rfl, rfl, (s8.trans s10) _ _ e7, e10, ?_, fun Z1 hZ1 => ?_⟩
      ·rw [List.length_append, List.length_map, Jj, List.length_replicate, List.length_map, List.length_map, sizeLine_eq]; omega
      have ee : (evH m 0 bs).map V.int ++ List.replicate (m % 2).toNat (V.int (m / 2)) ++ (rs.map fun r => m - 1 - r).map V.int = (evL m bs).map V.int := by
       unfold evL
       rw [hrs, List.map_append, List.map_append, List.map_replicate]
      rw [ee]
      refine ⟨Z1, _, rfl, .inl ⟨SqL.of Zc, fun l hl => ?_⟩⟩
      have s11 := Zd (o := .lst ((evL m bs).map V.int)) hZ1
      generalize upd H10 Z1 (.lst ((evL m bs).map V.int)) = H11 at s11 hl
      have s12 := Zd (o := .tup ((evL m bs).map V.int)) hl
      have sE := s4.trans (s5.trans (s6.trans (s7.trans (s8.trans (s10.trans (s11.trans s12))))))
      exact q l _ _ (x3.trans sE.x) (st3.same sE) Zc (Zdr m1 m12 lb)
end
end U
set_option Elab.async false
set_option linter.all false
set_option maxRecDepth 100000
set_option maxHeartbeats 40000000
namespace U
open PySem L2 PyProof.Rows PyProof.Rows.Tim
theorem places3 {σ : L2.St} {i j l : Nat} {a b c : V} (h1 : σ[i]? = some (some a)) (h2 : σ[j]? = some (some b)) (h3 : σ[l]? = some (some c)) : ∀ (k i' : Nat) v, [i, j, l][k]? = some i' → [a, b, c][k]? = some v → σ[i']? = some (some v) := fun k i' v e1 e2 => by
 match k, e1, e2 with
 | 0, e1, e2 => cases e1; cases e2; exact h1
 | 1, e1, e2 => cases e1; cases e2; exact h2
 | 2, e1, e2 => cases e1; cases e2; exact h3
 | k + 3, e1, e2 => simp at e1
theorem lns3 {X : Cx} {x y z : Str} {i j l : Nat} (h1 : LN X x i) (h2 : LN X y j) (h3 : LN X z l) : ∀ (k : Nat) u m, [x, y, z][k]? = some u → [i, j, l][k]? = some m → LN X u m := fun k u m e1 e2 => by
 match k, e1, e2 with
 | 0, e1, e2 => cases e1; cases e2; exact h1
 | 1, e1, e2 => cases e1; cases e2; exact h2
 | 2, e1, e2 => cases e1; cases e2; exact h3
 | k + 3, e1, e2 => simp at e1
def NoLayAt (K : PySem.W.Frag) (wd hg : Int) (H : Hp) (y : V) : Prop := Pl1 K H y ∧ isLayV wd hg (tupOf H y) = false
theorem NoLayAt.same {K : PySem.W.Frag} {wd hg : Int} {H H' : Hp} {y : V} (b : NoLayAt K wd hg H y) (s : Same H H') : NoLayAt K wd hg H' y := ⟨b.1.same s, by rw [Yz b.1.1 s]; exact b.2⟩
theorem NoLayAt.x {K : PySem.W.Frag} {wd hg : Int} {Pt : Addr} {H H' : Hp} {y : V} {ps : Array Value} (b : NoLayAt K wd hg H y) (s : SameX Pt H H') (hp : H Pt = some (.tbl ps)) : NoLayAt K wd hg H' y :=
 ⟨Zbq b.1 s (Jq b.1 hp), by rw [Y9 b.1.1 s (WS b.1.1 hp)]; exact b.2⟩
structure HeldAt (K : PySem.W.Frag) (Pt : Addr) (qn : Str) (a : Addr) (ns : List Int) (b : Addr) (wd hg : Int) (vn vb : V) (H : Hp) : Prop where
 scr : ScrAt K H a ns
 tab : TabAt H Pt qn
 none : BadBoard K H vn
 bad : NoLayAt K wd hg H vb
 bd : BoardAt H (.ref b) wd hg
section
variable {K : PySem.W.Frag} {Pt : Addr} {qn : Str} {a : Addr} {ns : List Int} {b : Addr} {wd hg : Int} {vn vb : V} {H H' : Hp}
theorem HeldAt.same (h : HeldAt K Pt qn a ns b wd hg vn vb H) (s : Same H H') : HeldAt K Pt qn a ns b wd hg vn vb H' :=
 ⟨h.scr.same s, Z2 h.tab s, h.none.same s, h.bad.same s, h.bd.same s⟩
theorem HeldAt.x (h : HeldAt K Pt qn a ns b wd hg vn vb H) (s : SameX Pt H H') (t : TabAt H' Pt qn) : HeldAt K Pt qn a ns b wd hg vn vb H' := by
 obtain ⟨ps, hp, _⟩ := h.tab
 exact ⟨h.scr.x s hp (fun _ _ z => by cases z), t, U3 h.none s (Jq h.none.1 hp), h.bad.x s hp, h.bd.x s (h.bd.tbl hp)⟩
end
theorem Zcr {wd hg : Int} (h : 1 ≤ wd) : isLayV wd hg (some (List.replicate wd.toNat V.non)) = true := by
 refine WY.mpr ⟨by rw [List.length_replicate]; omega, fun v hv => .inl (List.eq_of_mem_replicate hv), ?_⟩
 rw [List.pairwise_replicate]
 exact .inr fun _ => rfl
abbrev noA : Arguments := { posonlyargs := [], args := [], vararg := none, kwonlyargs := [], kw_defaults := [], kwarg := none, defaults := [] }
abbrev sc3 (a b c : Str) : Scope := { kind := .function, names := [(a, .free), (b, .free), (c, .free)], isGenerator := false, isCoroutine := false }
def cV (x y : Str) (p1 p2 p3 p4 : Pos) : Expr := .Call (.Name "_law_call" p1) [.Name x p2, .Name y p3] [] p4
theorem lsc1 {p1 p2 p3 p4 : Pos} : LScopeN noA (cV "_law_none" "_law_bad" p1 p2 p3 p4) (sc3 "_law_bad" "_law_call" "_law_none") ["_law_call", "_law_none", "_law_bad"] := ⟨rfl, rfl, rfl, by decide, by decide, by decide, fun _ _ _ _ _ => rfl⟩
theorem lsc2 {p1 p2 p3 p4 : Pos} : LScopeN noA (cV "_law_board" "_law_bad" p1 p2 p3 p4) (sc3 "_law_bad" "_law_board" "_law_call") ["_law_call", "_law_board", "_law_bad"] := ⟨rfl, rfl, rfl, by decide, by decide, by decide, fun _ _ _ _ _ => rfl⟩
section
variable {X : Cx} {aB aL gS gI : Addr}
def PreV (K : PySem.W.Frag) (aB aL gS gI C : Addr) (ws : List V) (H : Hp) : Prop := ∃ g vx vy, ws = [.ref g, vx, vy] ∧ (g = gS ∨ g = gI) ∧ BadL K aB aL H vx vy C
theorem bodyV {x y : Str} {scope : Scope} {C f : Addr} {q : Str} {cl : List (Str × Addr)} {ws : List V} {p1 p2 p3 p4 : Pos} (hS : ∀ b', DefR X.prog X.w X.K X.mg b' 10 "least_turned" ["board", "lay"] (spNLx X.K aB aL)) (hI : ∀ b', DefR X.prog X.w X.K X.mg b' 10 "own_turns" ["board", "lay"] (spNLx X.K aB aL)) (mS : X.mg "least_turned" = some (.ref gS)) (mI : X.mg "own_turns" = some (.ref gI))
  (kc : scope.names.lookup ("_law_call" : Str) = some .free) (kx : scope.names.lookup x = some .free) (ky : scope.names.lookup y = some .free) (dx : (x == ("__debug__" : Str)) = false) (dy : (y == ("__debug__" : Str)) = false)
  (ex : (x == ("__classdict__" : Str)) = false) (ey : (y == ("__classdict__" : Str)) = false) :
  BodyN X 10 C f q (cV x y p1 p2 p3 p4) scope cl ["_law_call", x, y] ws (PreV X.K aB aL gS gI C ws) := by
 intro base' cc A outer s2 H2 Q2 E2 hr pre hE
 obtain ⟨g, vx, vy, rfl, hg0, pre⟩ := pre
 have fin : ∀ {fn : Str}, (∀ b', DefR X.prog X.w X.K X.mg b' 10 fn ["board", "lay"] (spNLx X.K aB aL)) → X.mg fn = some (.ref g) → ∃ t, PE (cxL X.prog X.w X.K X.mg base' ["_law_call", x, y] q scope f (.ref cc) cl A outer s2 H2 E2) (cV x y p1 p2 p3 p4) t ∧ t ([V.ref g, vx, vy].map some) H2 Q2 := by
  intro fn hU mg
  obtain ⟨g', fd, F, hg, hk, hb⟩ := hU base'
  rw [mg] at hg
  cases hg
  refine ⟨_, UM (X := cxL X.prog X.w X.K X.mg base' ["_law_call", x, y] q scope f (.ref cc) cl A outer s2 H2 E2) (i := 0) F hr (JR (i := 0) rfl (.inr (.inr kc)) (by decide) (by decide)) hk hb .nil (E := E2) (passR' (X := cxL X.prog X.w X.K X.mg base' ["_law_call", x, y] q scope f (.ref cc) cl A outer s2 H2 E2) (fun e s' z => z) rfl rfl rfl)
   (Za (JR (i := 1) rfl (.inr (.inr kx)) dx ex) (Za (JR (i := 2) rfl (.inr (.inr ky)) dy ey) Zb)), ?_⟩
  exact ⟨rfl, vx, rfl, vy, rfl, vx, vy, C, rfl, pre, hE⟩
 rcases hg0 with rfl | rfl
 ·exact fin hS mS
 ·exact fin hI mI
end
theorem ZcB : ∀ q : Bool × Bool × Bool, (∀ p, lexB (keyQ 2 1 [V.int 0, V.non] p) (keyQ 2 1 [V.int 0, V.non] q) = false) → [V.int (tW 2 1 q), V.int (tH 2 1 q)] = [V.int 1, V.int 2] ∧ turnedL 2 1 q [V.int 0, V.non] = [V.int 0] := by
 intro q h
 have h1 := h (true, true, false)
 have h2 := h (true, false, false)
 revert h1 h2
 obtain ⟨a, b, c⟩ := q
 clear h
 revert a b c
 decide +kernel
section
variable {P : Program} {w : World} {K : PySem.W.Frag} {mg : Str → Option Value} {base : Heap}
abbrev sLaw : Stmt := top 59
def spLaw (K : PySem.W.Frag) (Pt : Addr) : Sp := fun vs H Q _ => ∃ (a : Addr) (ns : List Int), vs = [.ref a] ∧ ScrAt K H a ns ∧ ns.length ≤ 63 ∧ H Pt = some (.tbl #[]) ∧ ∀ H', Q (.bl true) H'
abbrev nLaw : List Str := ["_law_script", "_law_k", "_law_state_here", "_law_side", "_law_lay_here", "_law_square", "_law_bad", "_law_board", "_law_call", "_law_none"]
theorem scLaw : FnScope nLaw ["_law_script"] (defScope sLaw) := ⟨rfl, rfl, rfl, by decide +kernel, rfl, by decide +kernel, by decide +kernel⟩
theorem Zdg {f c Pt fR cS aB aL gS gI : Addr} {oc : Value} {od an : Option Addr} {kV doc pm ct : Value} {osl : Array (Option Value)}
  (lk : K.lookup f = some ⟨oc, od, .func (PySem.W.fnOf "law" "law" (defArgs sLaw) (defBody sLaw) (defScope sLaw) .none kV doc pm an (.ref c) ct), osl⟩) (hcd : PySem.W.codeIn K (.ref c) "law" = true) (G : Gs mg)
  (Dst : Def P w K mg base 2 "_law_state" ["_law_script", "_law_k"] (spState K)) (Dtk : Def P w K mg base 1 "_law_take" ["_law_state_here", "_law_many"] spTake) (Dll : Def P w K mg base 2 "_law_lay" ["_law_state_here", "_law_board"] (spLL K)) (Dev : Def P w K mg base 2 "_law_even" ["_law_state_here", "_law_many"] spEv) (Dnb : Def P w K mg base 2 "_law_no_board" ["_law_state_here"] (spNoB K)) (Dnl : Def P w K mg base 2 "_law_no_lay" ["_law_state_here", "_law_board", "_law_lay_here"] (spNL K))
  (Drt : Def P w K mg base 11 "_law_right" ["_law_board", "_law_lay_here"] (spRt K)) (Dlt : Def P w K mg base 10 "least_turned" ["board", "lay"] (spLt K))
  (hR : ∀ b', Def P w K mg b' 12 "_law_word" ["_law_call"] (spWord P w K mg b' cS 11)) (hS : ∀ b', DefR P w K mg b' 10 "least_turned" ["board", "lay"] (spNLx K aB aL)) (hI : ∀ b', DefR P w K mg b' 10 "own_turns" ["board", "lay"] (spNLx K aB aL)) (mS : mg "least_turned" = some (.ref gS)) (mI : mg "own_turns" = some (.ref gI)) (mR : mg "_law_word" = some (.ref fR)) (kR : PySem.W.keepIn K (.ref fR) = true)
  (MB : Mk15 K mg cS aB 0) (ML : Mk15 K mg cS aL 1) (hC : PySem.W.CodeHd base c Pt)
  (hbm : ∃ bm ob, mg "__builtins__" = some (.ref bm) ∧ bm ≠ builtinsNs ∧ base.get? bm = some ob ∧ ob.cls = .type "module" ∧ ob.dict = some builtinsNs ∧ ob.data = .plain) :
  FnOk P w K mg base CX0 13 f (PySem.W.fnOf "law" "law" (defArgs sLaw) (defBody sLaw) (defScope sLaw) .none kV doc pm an (.ref c) ct) ["_law_script"] (spLaw K Pt) := by
 refine Zb2 lk hcd scLaw (fun vs H Q E h => ?_) (fun A outer s H vs Q E hr h => ?_)
 ·obtain ⟨a, ns, rfl, _⟩ := h
  rfl
 ·obtain ⟨a, ns, rfl, scr, hns, htab, q⟩ := h
  have C : LCtx (cxOf CX0 P w K mg base nLaw "law" (defScope sLaw) f (.ref c) A outer s H E).nox cS c Pt fR "own_turns" 10 ["board", "lay"] (spNLx K aB aL) := ⟨⟨rfl, hC, hbm⟩, hR, hI, hr, mR, kR⟩
  have NC : LN (cxOf CX0 P w K mg base nLaw "law" (defScope sLaw) f (.ref c) A outer s H E).nox "_law_call" 8 := ⟨rfl, rfl, rfl⟩
  have NN : LN (cxOf CX0 P w K mg base nLaw "law" (defScope sLaw) f (.ref c) A outer s H E).nox "_law_none" 9 := ⟨rfl, rfl, rfl⟩
  have NB : LN (cxOf CX0 P w K mg base nLaw "law" (defScope sLaw) f (.ref c) A outer s H E).nox "_law_bad" 6 := ⟨rfl, rfl, rfl⟩
  have NBd : LN (cxOf CX0 P w K mg base nLaw "law" (defScope sLaw) f (.ref c) A outer s H E).nox "_law_board" 7 := ⟨rfl, rfl, rfl⟩
  have hr1 := hr.mono (show 1 ≤ 12 by decide)
  have hr2 := hr.mono (show 2 ≤ 12 by decide)
  have hr10 := hr.mono (show 10 ≤ 12 by decide)
  have hr11 := hr.mono (show 11 ≤ 12 by decide)
  have hu : (cxOf CX0 P w K mg base nLaw "law" (defScope sLaw) f (.ref c) A outer s H E).nox.A.units + 1 < cLine := by have := hr.units; exact Nat.lt_of_le_of_lt (Nat.add_le_add_left (by decide : 1 ≤ 64) _) this
  have main : ∃ t, PSs (cxOf CX0 P w K mg base nLaw "law" (defScope sLaw) f (.ref c) A outer s H E).nox (defBody sLaw) t ∧ t { nx := fun _ H' => Q .non H', rt := Q } (start nLaw [.ref a]) H := by
   refine ⟨_, Ze (Yo PassesOwn.never rfl (Z9 rfl G.range (Za (Zk (WE rfl) rfl G.max boot_max (Za Zf (Za (Zk (Zba rfl) rfl G.min boot_min (Za (Zk ZD rfl G.len boot_len (Za (pv 0) Zb)) (Za Zf Zb))) Zb))) Zb)) (ZC (i := 1) scLaw.nd rfl (Or.inl rfl))
     (Ze (Zv (i := 2) scLaw.nd rfl (Or.inl rfl) (Zh Dst hr2 (Za (pv 0) (Za (pv 1) Zb))))
     (Ze (Zv (i := 3) scLaw.nd rfl (Or.inl rfl) (Zu YL Zf (Zh Dtk hr1 (Za (pv 2) (Za Zf Zb)))))
     (Ze (Zv (i := 7) scLaw.nd rfl (Or.inr rfl) (Zs (Za (Zu YL Zf (Zh Dtk hr1 (Za (pv 2) (Za Zf Zb)))) (Za (Zu YL Zf (Zh Dtk hr1 (Za (pv 2) (Za Zf Zb)))) Zb))))
     (Ze (Zv (i := 4) scLaw.nd rfl (Or.inl rfl) (Zh Dll hr2 (Za (pv 2) (Za (pv 7) Zb))))
     (Ze (Zv (i := 5) scLaw.nd rfl (Or.inl rfl) (Zh Dll hr2 (Za (pv 2) (Za (Zs (Za (pv 3) (Za (pv 3) Zb))) Zb))))
     (Ze (ZI (PW.pt (YI (ZX (ZO (Zh Drt hr11 (Za (pv 7) (Za (pv 4) Zb))))) (Yi (ZX (ZO (Zh Drt hr11 (Za (Zs (Za (pv 3) (Za (pv 3) Zb))) (Za (pv 5) Zb)))))))) Zp Zt)
     (Ze (ZI (PW.pt (YI (ZX (ZO (Zh Drt hr11 (Za (Zs (Za (pv 3) (Za (pv 3) Zb))) (Za (Zh Dev hr2 (Za (pv 2) (Za (pv 3) Zb))) Zb))))) (Yi (ZX (ZO (Zh Drt hr11 (Za (pv 7) (Za (Zu Zai (Zs (Za Yq Zb)) (ZB ZK (pv 7) Zf (fun _ _ => rfl))) Zb)))))))) Zp Zt)
     (Ze (Yp (Zs (Za (Zh Dnb hr2 (Za (pv 2) Zb)) (Za (Zh Dnl hr2 (Za (pv 2) (Za (pv 7) (Za (pv 4) Zb)))) Zb))) (ZY rfl (Zn (ZC (i := 9) scLaw.nd rfl (Or.inr rfl)) (Zn (ZC (i := 6) scLaw.nd rfl (Or.inr rfl)) ZP))))
     (Zi (Yo PassesOwn.never rfl (Yg (ZG (Za (Z5 (v := .ref gS) rfl mS rfl) (Za (Z5 (v := .ref gI) rfl mI rfl) Zb)))) (ZC (i := 8) scLaw.nd rfl (Or.inr rfl))
      (Ze (ZI (ZA Jd (Ud (idx := [8, 9, 6]) (Pre := PreV K aB aL gS gI aB) C lsc1 rfl (lns3 NC NN NB) rfl rfl (ZcL (by kernel_rfl)) MB (fun f ws _ => bodyV hS hI mS mI rfl rfl rfl rfl rfl rfl rfl)) Y4 (nomark _)) Zp Zt)
      (Zi (ZI (ZA Jd (Ud (idx := [8, 7, 6]) (Pre := PreV K aB aL gS gI aL) C lsc2 rfl (lns3 NC NBd NB) rfl rfl (ZcL (by kernel_rfl)) ML (fun f ws _ => bodyV hS hI mS mI rfl rfl rfl rfl rfl rfl rfl)) Y4 (nomark _)) Zp Zt))))))))))))))
    (Zi (Zq (Z6 (UO hu) (Zh Dlt hr10 (Za (Zs (Za Zf (Za Zf Zb))) (Za (Zs (Za Zf (Za Yq Zb))) Zb))) (Zs (Za (Zs (Za Zf (Za Zf Zb))) (Za (Zs (Za Zf Zb)) Zb))) rfl))), ?_⟩
   have tab0 : TabAt H Pt (lq (cxOf CX0 P w K mg base nLaw "law" (defScope sLaw) f (.ref c) A outer s H E).nox) := ⟨#[], htab, trivial, fun pos cv z => by cases z⟩
   generalize hqn : lq (cxOf CX0 P w K mg base nLaw "law" (defScope sLaw) f (.ref c) A outer s H E).nox = qn at tab0
   refine Zl ?_
   refine ⟨_, rfl, a, _, rfl, .inl scr.sq, _, _, rfl, _, _, rfl, _, rfl, (by rw [List.length_map]; split <;> split <;> omega), (by rw [List.length_map]; split <;> split <;> omega), ?_⟩
   refine Yx (fun i σ H' => ∃ s1 s2 s3 s4 s5 s6 s7 s8 s9, σ = [some (.ref a), s1, s2, s3, s4, s5, s6, s7, s8, s9] ∧ ScrAt K H' a ns ∧ TabAt H' Pt qn) ⟨_, _, _, _, _, _, _, _, _, rfl, scr, tab0⟩ ?_ ?_
   ·rintro i σ H0 hi ⟨s1, s2, s3, s4, s5, s6, s7, s8, s9, rfl, sc, tb⟩
    rw [Int.zero_add]
    refine Zm ?_
    dsimp only [List.set]
    refine Zl (Zr ⟨_, rfl, _, rfl, a, ns, i, rfl, sc.sq, fun p H1 np q1 st1 => Zm ?_⟩)
    dsimp only [List.set]
    replace sc := sc.same q1
    replace tb := Z2 tb q1
    have step : ∀ {H H' : Hp}, SameX p H H' → StAt H p → ScrAt K H a ns → TabAt H Pt qn → ScrAt K H' a ns ∧ TabAt H' Pt qn := fun x ⟨u, v, e, _⟩ s t => ⟨s.x x e (fun _ _ z => by cases z), Zdz t x e (fun _ z => by cases z) (fun _ z => by cases z)⟩
    have nep : ∀ {H : Hp} {l : Addr}, StAt H p → H l = none → l ≠ p := fun ⟨_, _, e, _⟩ h z => by rw [z, e] at h; cases h
    refine Zl (Zr ⟨_, rfl, p, 12, rfl, st1, by decide, by decide, fun r o h0 h12 st2 => ⟨_, _, rfl, rfl, Zm ?_⟩⟩)
    dsimp only [List.set]
    have x2 : SameX p H1 (upd H1 p o) := SameX.upd
    generalize upd H1 p o = H2 at st2 x2
    obtain ⟨sc2, tb2⟩ := step x2 st1 sc tb
    obtain ⟨sd, hsd⟩ : ∃ sd, sd = 1 + r := ⟨_, rfl⟩
    rw [← hsd]
    have sd1 : 1 ≤ sd ∧ sd ≤ 12 := by omega
    clear hsd h0 h12 x2 st1 sc tb
    refine Zl (Zr ⟨_, rfl, p, 12, rfl, st2, by decide, by decide, fun r1 o1 a0 a1 st3 => ⟨_, _, rfl, rfl, ?_⟩⟩)
    have x3 : SameX p H2 (upd H2 p o1) := SameX.upd
    generalize upd H2 p o1 = H3 at st3 x3
    obtain ⟨sc3, tb3⟩ := step x3 st2 sc2 tb2
    refine ⟨_, rfl, p, 12, rfl, st3, by decide, by decide, fun r2 o2 b0 b1 st4 => ⟨_, _, rfl, rfl, (by show 2 ≤ sizeLine; decide), fun b hb => Zm ?_⟩⟩
    dsimp only [List.set]
    have x4 : SameX p H3 (upd H3 p o2) := SameX.upd
    generalize upd H3 p o2 = H4 at st4 x4 hb
    obtain ⟨sc4, tb4⟩ := step x4 st3 sc3 tb3
    obtain ⟨wd, hwd⟩ : ∃ wd, wd = 1 + r1 := ⟨_, rfl⟩
    obtain ⟨hg, hhg⟩ : ∃ hg, hg = 1 + r2 := ⟨_, rfl⟩
    rw [← hwd, ← hhg]
    have w1 : 1 ≤ wd ∧ wd ≤ 12 ∧ 1 ≤ hg ∧ hg ≤ 12 := by omega
    clear hwd hhg a0 a1 b0 b1
    have q5 := Zd (o := .tup [V.int wd, V.int hg]) hb
    have e5 : upd H4 b (.tup [V.int wd, V.int hg]) b = some (.tup [V.int wd, V.int hg]) := Zc
    have nb := nep st4 hb
    generalize upd H4 b (.tup [V.int wd, V.int hg]) = H5 at q5 e5
    have st5 := st4.same q5
    have sc5 := sc4.same q5
    have tb5 := Z2 tb4 q5
    have bd5 : BoardAt H5 (.ref b) wd hg := ⟨Zo e5, w1.1, w1.2.1, w1.2.2.1, w1.2.2.2⟩
    clear x3 st2 sc2 tb2 st3 sc3 tb3 x4 st4 sc4 tb4 q5 hb
    refine Zl (Zr ⟨_, rfl, _, rfl, p, b, wd, hg, rfl, st5, bd5, fun l H6 xs x6 st6 e6 ly => Zm ?_⟩)
    dsimp only [List.set]
    obtain ⟨sc6, tb6⟩ := step x6 st5 sc5 tb5
    have eb6 := x6 _ _ e5 nb
    have nl : l ≠ p := by
     obtain ⟨u, v, e, _⟩ := id st6
     exact YG e6 e (by intro z; cases z)
    refine Zl (Zr ⟨_, rfl, _, rfl, _, rfl, (by show 2 ≤ sizeLine; decide), fun t7 ht7 => ?_⟩)
    have q7 := Zd (o := .tup [V.int sd, V.int sd]) ht7
    have e7 : upd H6 t7 (.tup [V.int sd, V.int sd]) t7 = some (.tup [V.int sd, V.int sd]) := Zc
    generalize upd H6 t7 (.tup [V.int sd, V.int sd]) = H7 at q7 e7
    refine ⟨p, t7, sd, sd, rfl, st6.same q7, ⟨Zo e7, sd1.1, sd1.2, sd1.1, sd1.2⟩, fun l8 H8 ys x8 st8 e8 ly8 => Zm ?_⟩
    dsimp only [List.set]
    obtain ⟨sc8, tb8⟩ := step x8 (st6.same q7) (sc6.same q7) (Z2 tb6 q7)
    have eb8 := x8 _ _ (q7 _ _ eb6) nb
    have el8 := x8 _ _ (q7 _ _ e6) nl
    clear e7 x6 x8 q7 ht7 st5 sc5 tb5 bd5 sc6 tb6 e5 st6 eb6 e6
    have bdOf : ∀ {H : Hp}, H b = some (.tup [V.int wd, V.int hg]) → BoardAt H (.ref b) wd hg := fun h => ⟨Zo h, w1.1, w1.2.1, w1.2.2.1, w1.2.2.2⟩
    have sqOf : ∀ {H : Hp} {t : Addr}, H t = some (.tup [V.int sd, V.int sd]) → BoardAt H (.ref t) sd sd := fun h => ⟨Zo h, sd1.1, sd1.2, sd1.1, sd1.2⟩
    refine Zl ⟨_, rfl, _, rfl, b, l, xs, wd, hg, rfl, ⟨bdOf eb8, el8, ly⟩, fun H9 q9 => ⟨true, rfl, iteF ?_⟩⟩
    refine ⟨_, rfl, _, rfl, (by show 2 ≤ sizeLine; decide), fun t ht => ?_⟩
    have q10 := Zd (o := .tup [V.int sd, V.int sd]) ht
    have e10 : upd H9 t (.tup [V.int sd, V.int sd]) t = some (.tup [V.int sd, V.int sd]) := Zc
    generalize upd H9 t (.tup [V.int sd, V.int sd]) = H10 at q10 e10
    refine ⟨_, rfl, t, l8, ys, sd, sd, rfl, ⟨sqOf e10, (q9.trans q10) _ _ e8, ly8⟩, fun H11 q11 => ⟨true, rfl, iteF (ZF ?_)⟩⟩
    dsimp only
    have qq := q9.trans (q10.trans q11)
    have st11 := st8.same qq
    have sc11 := sc8.same qq
    have tb11 := Z2 tb8 qq
    have eb11 := qq _ _ eb8
    have el11 := qq _ _ el8
    clear qq q9 q10 q11 e10 ht st8 sc8 tb8 eb8 el8 e8
    refine Zl ⟨_, rfl, _, rfl, (by show 2 ≤ sizeLine; decide), fun t ht => ?_⟩
    have q12 := Zd (o := .tup [V.int sd, V.int sd]) ht
    have e12 : upd H11 t (.tup [V.int sd, V.int sd]) t = some (.tup [V.int sd, V.int sd]) := Zc
    have nt := nep st11 ht
    generalize upd H11 t (.tup [V.int sd, V.int sd]) = H12 at q12 e12
    refine ⟨_, rfl, _, rfl, p, sd, rfl, st11.same q12, sd1.1, sd1.2, fun l13 H13 zs x13 st13 e13 ly13 => ?_⟩
    obtain ⟨sc13, tb13⟩ := step x13 (st11.same q12) (sc11.same q12) (Z2 tb11 q12)
    have eb13 := x13 _ _ (q12 _ _ eb11) nb
    have el13 := x13 _ _ (q12 _ _ el11) nl
    refine ⟨t, l13, zs, sd, sd, rfl, ⟨sqOf (x13 _ _ e12 nt), e13, ly13⟩, fun H14 q14 => ⟨true, rfl, iteF ?_⟩⟩
    refine ⟨_, rfl, (by show 1 ≤ sizeLine; decide), fun t2 ht2 => ?_⟩
    have q15 := Zd (o := .tup [V.non]) ht2
    have e15 : upd H14 t2 (.tup [V.non]) t2 = some (.tup [V.non]) := Zc
    generalize upd H14 t2 (.tup [V.non]) = H15 at q15 e15
    have eb15 := (q14.trans q15) _ _ eb13
    refine ⟨_, rfl, b, _, _, _, rfl, rfl, SqT.of eb15, at0, t2, wd, _, rfl, rfl, e15, (by intro z; cases z), w1.1, by omega, (by show 1 * wd.toNat ≤ 1000; omega), fun l16 H16 q16 e16 => ?_⟩
    rw [JP] at e16
    refine ⟨b, l16, _, wd, hg, rfl, ⟨bdOf (q16 _ _ eb15), e16, Zcr w1.1⟩, fun H17 q17 => ⟨true, rfl, iteF (ZF ?_)⟩⟩
    dsimp only
    have qq := q14.trans (q15.trans (q16.trans q17))
    have st17 := st13.same qq
    have sc17 := sc13.same qq
    have tb17 := Z2 tb13 qq
    have eb17 := qq _ _ eb13
    have el17 := qq _ _ el13
    clear qq q14 q15 q16 q17 e15 e16 ht ht2 st13 sc13 tb13 eb13 el13 st11 sc11 tb11 eb11 el11 e12 q12 x13 e13 ly13
    refine Zl (Zr ⟨_, rfl, p, rfl, st17, fun vn H18 x18 st18 bb nr => ⟨_, rfl, _, rfl, _, rfl, p, b, l, xs, wd, hg, rfl, st18, ⟨bdOf (x18 _ _ eb17 nb), x18 _ _ el17 nl, ly⟩, fun vb H19 x19 st19 gl => ⟨(by show 2 ≤ sizeLine; decide), fun t ht => ?_⟩⟩⟩)
    obtain ⟨sc18, tb18⟩ := step x18 st17 sc17 tb17
    obtain ⟨sc19, tb19⟩ := step x19 st18 sc18 tb18
    have bb19 := U3 bb x19 nr
    have eb19 := x19 _ _ (x18 _ _ eb17 nb) nb
    have q20 := Zd (o := .tup [vn, vb]) ht
    refine ⟨t, _, rfl, SqT.of Zc, rfl, _, _, rfl, _, _, rfl, rfl, ?_⟩
    dsimp only [List.set]
    generalize upd H19 t (HO.tup [vn, vb]) = H20 at q20
    have held : HeldAt K Pt qn a ns b wd hg vn vb H20 := ⟨sc19.same q20, Z2 tb19 q20, bb19.same q20, NoLayAt.same ⟨gl.1.1, gl.1.2⟩ q20, bdOf (q20 _ _ eb19)⟩
    clear q20 ht st19 gl x19 st18 x18 bb nr sc18 tb18 sc19 tb19 bb19 eb19 st17 sc17 tb17 eb17 el17
    refine ⟨(by show 2 ≤ sizeLine; decide), fun t4 ht4 => ⟨t4, rfl, ⟨_, SqL.of Zc⟩, ?_⟩⟩
    have q21 := Zd (o := .lst [V.ref gS, V.ref gI]) ht4
    have e21 : upd H20 t4 (.lst [V.ref gS, V.ref gI]) t4 = some (.lst [V.ref gS, V.ref gI]) := Zc
    generalize upd H20 t4 (HO.lst [V.ref gS, V.ref gI]) = H21 at q21 e21
    replace held := held.same q21
    refine YQ (xs := [V.ref gS, V.ref gI]) (fun j σ H' => ∃ s8, σ = [some (.ref a), some (.int (i : Int)), some (.ref p), some (.int sd), some (.ref l), some (.ref l8), some vb, some (.ref b), s8, some vn] ∧ HeldAt K Pt qn a ns b wd hg vn vb H' ∧ H' t4 = some (.lst [V.ref gS, V.ref gI])) ⟨_, rfl, held, e21⟩ (fun j σ H' _ ⟨_, _, _, e⟩ => SqL.of e) ?_ ?_
    ·rintro j v σ H22 hv ⟨s8', rfl, hd, et⟩
     obtain ⟨g, rfl, hg0⟩ : ∃ g : Addr, v = .ref g ∧ (g = gS ∨ g = gI) := by
      have := List.mem_of_getElem? hv
      simp only [List.mem_cons, List.not_mem_nil, or_false] at this
      rcases this with rfl | rfl
      ·exact ⟨_, rfl, .inl rfl⟩
      ·exact ⟨_, rfl, .inr rfl⟩
     refine Zm ?_
     dsimp only [List.set]
     have keep : ∀ {H H' : Hp} {b : Addr} {o : HO}, TabAt H Pt qn → SameX Pt H H' → H b = some o → (∀ ps, o ≠ .tbl ps) → H' b = some o := fun ⟨ps, hp, _⟩ x e hn => x _ _ e (fun z => by rw [z, hp] at e; cases e; exact hn _ rfl)
     refine Zl ⟨[.ref g, vn, vb], rfl, places3 rfl rfl rfl, by rw [hqn]; exact hd.tab, fun H' x' => ?_, fun H23 x23 t23 => ⟨rfl, _, rfl, iteF (ZF ?_)⟩⟩
     ·obtain ⟨ps, hp, _⟩ := hd.tab
      exact ⟨g, vn, vb, rfl, hg0, .inl ⟨rfl, U3 hd.none x' (Jq hd.none.1 hp)⟩⟩
     dsimp only
     rw [hqn] at t23
     have hd23 := hd.x x23 t23
     have et23 := keep hd.tab x23 et (fun _ z => by cases z)
     refine ⟨[.ref g, .ref b, vb], rfl, places3 rfl rfl rfl, by rw [hqn]; exact hd23.tab, fun H' x' => ?_, fun H24 x24 t24 => ⟨rfl, _, rfl, iteF (ZF ?_)⟩⟩
     ·obtain ⟨ps, hp, _⟩ := hd23.tab
      have b' := hd23.bad.x x' hp
      exact ⟨g, .ref b, vb, rfl, hg0, .inr ⟨rfl, wd, hg, hd23.bd.x x' (hd23.bd.tbl hp), b'.1, b'.2⟩⟩
     rw [hqn] at t24
     exact ⟨_, rfl, hd23.x x24 t24, keep hd23.tab x24 et23 (fun _ z => by cases z)⟩
    ·rintro σ H22 ⟨s8', rfl, hd, et⟩
     exact ⟨_, _, _, _, _, _, _, _, _, rfl, hd.scr, hd.tab⟩
   ·rintro σ H1 ⟨s1, s2, s3, s4, s5, s6, s7, s8, s9, rfl, sc, tb⟩
    dsimp only
    refine ⟨(by show 2 ≤ sizeLine; decide), fun b1 hb1 => ⟨(by show 2 ≤ sizeLine; decide), fun l1 hl1 => ?_⟩⟩
    have v1 := Zd (o := .tup [V.int 2, V.int 1]) hb1
    have f1 : upd H1 b1 (.tup [V.int 2, V.int 1]) b1 = some (.tup [V.int 2, V.int 1]) := Zc
    generalize upd H1 b1 (HO.tup [V.int 2, V.int 1]) = H2 at v1 f1 hl1
    have v2 := Zd (o := .tup [V.int 0, V.non]) hl1
    have f2 : upd H2 l1 (.tup [V.int 0, V.non]) l1 = some (.tup [V.int 0, V.non]) := Zc
    generalize upd H2 l1 (HO.tup [V.int 0, V.non]) = H3 at v2 f2
    have ly0 : isLayV 2 1 (some [V.int 0, V.non]) = true := by decide +kernel
    refine ⟨b1, l1, [V.int 0, V.non], 2, 1, rfl, ⟨⟨Zo (v2 _ _ f1), by decide, by decide, by decide, by decide⟩, f2, ly0⟩, fun v y H4 q4 led best => ?_⟩
    obtain ⟨t, c1, u1, rfl, h1, h2, h3, h4, h5⟩ := YO ly0 led
    obtain ⟨y1, y2⟩ := ZcB y best
    refine ⟨(by show 2 ≤ sizeLine; decide), fun c2 hc2 => ⟨(by show 1 ≤ sizeLine; decide), fun u2 hu2 => ⟨(by show 2 ≤ sizeLine; decide), fun t2 ht2 => ?_⟩⟩⟩
    have z1 := Zd (o := .tup [V.int 1, V.int 2]) hc2
    have g1 : upd H4 c2 (.tup [V.int 1, V.int 2]) c2 = some (.tup [V.int 1, V.int 2]) := Zc
    generalize upd H4 c2 (HO.tup [V.int 1, V.int 2]) = H5 at z1 g1 hu2 ht2
    have z2 := Zd (o := .tup [V.int 0]) hu2
    have g2 : upd H5 u2 (.tup [V.int 0]) u2 = some (.tup [V.int 0]) := Zc
    generalize upd H5 u2 (HO.tup [V.int 0]) = H6 at z2 g2 ht2
    have z3 := Zd (o := .tup [V.ref c2, V.ref u2]) ht2
    have g3 : upd H6 t2 (.tup [V.ref c2, V.ref u2]) t2 = some (.tup [V.ref c2, V.ref u2]) := Zc
    generalize upd H6 t2 (HO.tup [V.ref c2, V.ref u2]) = H7 at z3 g3
    have zA := z1.trans (z2.trans z3)
    refine ⟨t, t2, c1, u1, c2, u2, _, _, _, _, rfl, rfl, SqT.of (zA _ _ h1), SqT.of g3, SqT.of (zA _ _ h2), SqT.of (zA _ _ h3), SqT.of ((z2.trans z3) _ _ g1), SqT.of (z3 _ _ g2), rfl, h4.ni, rfl, rfl, ?_⟩
    rw [decide_eq_true ⟨y1, y2⟩]
    exact q _
  obtain ⟨t, ht, hq⟩ := main
  exact ⟨t, ht.nox, hq⟩
end
end U
set_option Elab.async false
set_option linter.all false
set_option maxRecDepth 100000
namespace U
open PySem L2 PyProof.Rows
theorem UH {u : Value} {x : V} (h : absV u = some x) : RelV x u := by
 cases u <;> simp only [absV, Option.some.injEq, reduceCtorEq] at h <;> subst h <;> first | rfl | exact ⟨_, rfl⟩
theorem Jw : ∀ {us : List Value} {xs : List V}, us.map absV = xs.map some → Vals xs us
 | [], [], _ => .nil
 | [], _ :: _, h => by cases h
 | _ :: _, [], h => by cases h
 | u :: us, x :: xs, h => by
  rw [List.map_cons, List.map_cons, List.cons.injEq] at h
  exact .cons (UH h.1) (Jw h.2)
def tupIn (K : PySem.W.Frag) (a : Addr) (xs : List V) : Bool := match K.lookup a with
 | some o => (match o.cls with | .type n => n == "tuple" | _ => false) && match o.data with
  | .seq its _ => decide (its.size ≤ 100) && decide (its.toList.map absV = xs.map some)
  | _ => false
 | none => false
theorem Jx {K : PySem.W.Frag} {a : Addr} {xs : List V} (h : tupIn K a xs = true) (H : Hp) : SqT K H a xs := by
 unfold tupIn at h
 split at h
 next o ho =>
  rw [Bool.and_eq_true] at h
  obtain ⟨h1, h2⟩ := h
  split at h1
  next n hn =>
   split at h2
   next its m hd =>
    rw [Bool.and_eq_true, decide_eq_true_eq, decide_eq_true_eq] at h2
    rw [beq_iff_eq] at h1
    subst h1
    exact .inr (.inl ⟨o, its, m, ho, hn, hd, by rw [sizeLine_eq]; omega, Jw h2.2⟩)
   next => cases h2
  next => cases h1
 next => cases h
def refsOf (K : PySem.W.Frag) (a : Addr) : List Addr := match K.lookup a with
 | some o => match o.data with
  | .seq its _ => its.toList.filterMap fun v => match v with | .ref t => some t | _ => none
  | _ => []
 | none => []
def turnsOk (K : PySem.W.Frag) (a : Addr) : Bool := tupIn K a ((refsOf K a).map V.ref) && (decide ((refsOf K a).length = 8) && ((refsOf K a).zip allT).all fun p => tupIn K p.1 (tv p.2))
theorem JU {α β : Type} {R : α → β → Prop} : ∀ {xs : List α} {ys : List β}, xs.length = ys.length → (∀ p ∈ xs.zip ys, R p.1 p.2) → Paired R xs ys
 | [], [], _, _ => .nil
 | [], _ :: _, h, _ => by cases h
 | _ :: _, [], h, _ => by cases h
 | x :: xs, y :: ys, h, k => .cons (k (x, y) List.mem_cons_self) (JU (by simpa using h) fun p hp => k p (List.mem_cons_of_mem _ hp))
theorem Zdy {K : PySem.W.Frag} {mg : Str → Option Value} {a : Addr} (hm : mg "TURNS" = some (.ref a)) (h : turnsOk K a = true) : TnG K mg := by
 unfold turnsOk at h
 rw [Bool.and_eq_true, Bool.and_eq_true, decide_eq_true_eq] at h
 obtain ⟨h1, h2, h3⟩ := h
 refine ⟨a, refsOf K a, hm, Jx h1, JU (by rw [h2]; rfl) fun p hp H => ?_⟩
 exact Jx (List.all_eq_true.mp h3 p hp) H
end U
set_option Elab.async false
set_option linter.all false
set_option maxRecDepth 100000
namespace U
open PySem L2 PyProof.Rows PySem.Spec
abbrev gsNames : List Str := ["isinstance", "int", "bool", "tuple", "list", "dict", "len", "all", "set", "range", "max", "min", "zip", "enumerate", "ValueError"]
section
variable {P : Program} {w : World} {K : PySem.W.Frag} {mg : Str → Option Value} {base : Heap}
theorem ZdS {h : Heap} {t0 : Tok} (KX : K.In h) (G : h.Ns mainGlobals mg) (e : gsNames.all (noneAt K) = true) (lo0 : PySem.W.nsIn K mainGlobals "LONGEST_SIDE" = some (some (.int 12 t0))) : Gs mg ∧ mg "ValueError" = none := by
 have k : ∀ x ∈ gsNames, mg x = none := fun x hx => ZaN KX G (List.all_eq_true.mp e x hx)
 exact ⟨⟨k _ (by simp), k _ (by simp), k _ (by simp), k _ (by simp), k _ (by simp), k _ (by simp), k _ (by simp), k _ (by simp), k _ (by simp), k _ (by simp), k _ (by simp), k _ (by simp), k _ (by simp), k _ (by simp), ⟨t0, PySem.W.mg_of KX G lo0⟩⟩, k _ (by simp)⟩
def kOk (K : PySem.W.Frag) (C c : Value) (b : Bool) : Bool := match PySem.W.kitOne K C c with | some d => d == b | none => false
theorem ZbZ {C c : Value} {b : Bool} (h : kOk K C c b = true) : PySem.W.kitOne K C c = some b := by
 unfold kOk at h
 split at h
 ·rename_i d q
  rw [q, beq_iff_eq.mp h]
 ·cases h
def markOk (K : PySem.W.Frag) (C : Addr) (iC : Nat) : Bool := (List.range 15).all fun i => match PySem.W.nsIn K mainGlobals (nm15.getD i "") with | some (some (.ref c)) => kOk K (.ref C) (.ref c) (decide (i = iC)) | _ => false
def mroOk (K : PySem.W.Frag) (C : Addr) (b : Value) : Bool := match PySem.W.mroIn K C b with | some d => d | none => false
theorem Ug {C : Addr} {b : Value} (h : mroOk K C b = true) : PySem.W.mroIn K C b = some true := by
 unfold mroOk at h
 split at h
 ·rename_i d q
  rw [q, h]
 ·cases h
def exmOk (K : PySem.W.Frag) (C c : Value) : Bool := match PySem.W.exmOne K C c with | some d => d | none => false
theorem Zb3 {C c : Value} (h : exmOk K C c = true) : PySem.W.exmOne K C c = some true := by
 unfold exmOk at h
 split at h
 ·rename_i d q
  rw [q, h]
 ·cases h
def excOk (K : PySem.W.Frag) (cS C : Addr) (iC : Nat) : Bool := mroOk K C (.type "object") && mroOk K C (.type "BaseException") && (PySem.W.clsIn K C).isSome && exmOk K (.ref C) (.ref cS) && markOk K C iC && kOk K (.ref C) (.type "ValueError") true && PySem.W.excIn K C bmV "ValueError.__new__"
theorem Zam {h : Heap} {cS C : Addr} {iC : Nat} (KX : K.In h) (G : h.Ns mainGlobals mg) (mv : mg "ValueError" = none) (ms : mg "StepError" = some (.ref cS)) (hi : iC < 15) (e : excOk K cS C iC = true)
  (ga : PySem.W.findIn K (.ref C) "__getattribute__" = some (some (.builtin "BaseException.__getattribute__"))) (hook : PySem.W.findIn K (.ref C) "__getattr__" = some none) (cl : PySem.W.findIn K (.ref C) "__class__" = some (some (.builtin "object.__class__"))) : Mk15 K mg cS C iC ∧ PySem.W.excIn K C bmV "ValueError.__new__" = true := by
 unfold excOk at e
 simp only [Bool.and_eq_true] at e
 obtain ⟨⟨⟨⟨⟨⟨e1, e2⟩, e3⟩, e4⟩, e5⟩, e6⟩, e7⟩ := e
 refine ⟨⟨⟨ga, hook, cl, Ug e1, Ug e2, e3⟩, ms, Zb3 e4, fun i hi => ?_, mv, ZbZ e6, hi⟩, e7⟩
 have := List.all_eq_true.mp e5 i (List.mem_range.mpr hi)
 split at this
 ·rename_i c q
  exact ⟨c, PySem.W.mg_of KX G q, ZbZ this⟩
 ·cases this
set_option maxHeartbeats 4000000 in
theorem law_all {h : Heap} {fa c Pt f cS aB aL : Addr} {oc : Value} {od an : Option Addr} {kV doc pm ct : Value} {osl : Array (Option Value)} {t0 : Tok} (KX : K.In h) (G : h.Ns mainGlobals mg) (hmg : mg "law" = some (.ref fa))
  (d0 : DefAt K "is_whole" sWhole) (d1 : DefAt K "is_whole_within" sWithin) (d2 : DefAt K "is_tuple_of" sTupOf) (d3 : DefAt K "is_board" sBoard) (d4 : DefAt K "need_board" sNeedBoard) (d5 : DefAt K "is_lay" sLay) (d6 : DefAt K "need_lay" sNeedLay) (d7 : DefAt K "points" sPoints) (d8 : DefAt K "is_point" sIP) (d9 : DefAt K "lay_of" sLO) (d10 : DefAt K "is_turn" sTurnK) (d11 : DefAt K "need_turn" sNTK) (d12 : DefAt K "turned_point" sTPK) (d13 : DefAt K "turned_board" sTBK) (d14 : DefAt K "turned" sTuK) (d15 : DefAt K "all_turned" sAll) (d16 : DefAt K "none_least" sNl) (d17 : DefAt K "least_turned" sLt) (d18 : DefAt K "own_turns" sOw) (d19 : DefAt K "_law_cell_at" sCell) (d20 : DefAt K "_law_state" sState) (d21 : DefAt K "_law_take" sTake) (d22 : DefAt K "_law_word" sWord) (d23 : DefAt K "_law_lay" sLL) (d24 : DefAt K "_law_no_board" sNoB) (d25 : DefAt K "_law_no_lay" sNL) (d26 : DefAt K "_law_same" sSame) (d27 : DefAt K "_law_moved" sMv) (d28 : DefAt K "_law_board_by" sBB) (d29 : DefAt K "_law_turned" sLTu) (d30 : DefAt K "_law_all_turns" sAT) (d31 : DefAt K "_law_rank" sRk) (d32 : DefAt K "_law_least" sLs) (d33 : DefAt K "_law_right" sRt) (d34 : DefAt K "_law_even" sEv)
  (l1 : PySem.W.nsIn K mainGlobals "law" = some (some (.ref f))) (l2 : K.lookup f = some ⟨oc, od, .func (PySem.W.fnOf "law" "law" (defArgs sLaw) (defBody sLaw) (defScope sLaw) .none kV doc pm an (.ref c) ct), osl⟩) (l3 : PySem.W.codeIn K (.ref c) "law" = true) (l4 : PySem.W.codeHdIn K c Pt = true)
  (g1 : gsNames.all (noneAt K) = true) (lo0 : PySem.W.nsIn K mainGlobals "LONGEST_SIDE" = some (some (.int 12 t0)))
  (eB : PySem.W.nsIn K mainGlobals "NoBoard" = some (some (.ref aB))) (eL : PySem.W.nsIn K mainGlobals "NoLay" = some (some (.ref aL))) (eS : PySem.W.nsIn K mainGlobals "StepError" = some (some (.ref cS)))
  (xB : excOk K cS aB 0 = true) (xL : excOk K cS aL 1 = true) (eTU : PySem.W.nsIn K mainGlobals "TURNS" = some (some (.ref aTU))) (hTU : turnsOk K aTU = true)
  (gaB : PySem.W.findIn K (.ref aB) "__getattribute__" = some (some (.builtin "BaseException.__getattribute__"))) (hoB : PySem.W.findIn K (.ref aB) "__getattr__" = some none) (clB : PySem.W.findIn K (.ref aB) "__class__" = some (some (.builtin "object.__class__")))
  (gaL : PySem.W.findIn K (.ref aL) "__getattribute__" = some (some (.builtin "BaseException.__getattribute__"))) (hoL : PySem.W.findIn K (.ref aL) "__getattr__" = some none) (clL : PySem.W.findIn K (.ref aL) "__class__" = some (some (.builtin "object.__class__"))) :
  ∃ fd : FuncData, (∀ (s : Shared) (u : Value), BindsTo s fd ⟨[u], []⟩ [("_law_script", u)]) ∧ ∀ base : Heap, K.In base → base.Ns mainGlobals mg → BmAt mg base → FnOk P w K mg base CX0 13 fa fd ["_law_script"] (spLaw K Pt) := by
 have e0 := hmg.symm.trans (PySem.W.mg_of KX G l1)
 cases e0
 obtain ⟨gs, mv⟩ := ZdS KX G g1 lo0
 have ms := PySem.W.mg_of KX G eS
 obtain ⟨MB, yB⟩ := Zam KX G mv ms (by decide : 0 < 15) xB gaB hoB clB
 have exB : Exc K mg "NoBoard" aB := ⟨PySem.W.mg_of KX G eB, yB⟩
 obtain ⟨ML, yL⟩ := Zam KX G mv ms (by decide : 1 < 15) xL gaL hoL clL
 have exL : Exc K mg "NoLay" aL := ⟨PySem.W.mg_of KX G eL, yL⟩
 have tg := Zdy (PySem.W.mg_of KX G eTU) hTU
 refine ⟨PySem.W.fnOf "law" "law" (defArgs sLaw) (defBody sLaw) (defScope sLaw) .none kV doc pm an (.ref c) ct, fun s u => .of_eq rfl, fun base kb nb bm => ?_⟩
 have good : ∀ b' : Heap, (Def P w K mg b' 10 "least_turned" ["board", "lay"] (spLt K) ∧ DefR P w K mg b' 10 "least_turned" ["board", "lay"] (spNLx K aB aL)) ∧ Def P w K mg b' 10 "own_turns" ["board", "lay"] (spOw K) ∧ DefR P w K mg b' 10 "own_turns" ["board", "lay"] (spNLx K aB aL) := fun b' => by
  have D0 : Def P w K mg b' 1 "is_whole" ["thing"] (spWhole K) := d0.to KX G (b1 fun _ _ _ _ _ _ _ => rfl) fun f fd F => Zbz F gs
  have D1 : Def P w K mg b' 2 "is_whole_within" ["thing", "least", "most"] (spWithin K) := d1.to KX G (b3 fun _ _ _ _ _ _ _ _ _ => rfl) fun f fd F => ZaJ F D0
  have D2 : Def P w K mg b' 1 "is_tuple_of" ["thing", "many"] (spTupOf K) := d2.to KX G (b2 fun _ _ _ _ _ _ _ _ => rfl) fun f fd F => ZbB F gs
  have D2k : Def P w K mg b' 1 "is_tuple_of" ["thing", "many"] (spTupK K) := d2.to KX G (b2 fun _ _ _ _ _ _ _ _ => rfl) fun f fd F => Zcm F gs
  have D3 : Def P w K mg b' 3 "is_board" ["thing"] (spBoard K) := d3.to KX G (b1 fun _ _ _ _ _ _ _ => rfl) fun f fd F => ZbF F gs D2 D1
  have D4 : Def P w K mg b' 4 "need_board" ["board"] (spNeedBoard K) := d4.to KX G (b1 fun _ _ _ _ _ _ _ => rfl) fun f fd F => WV F D3
  have D5 : Def P w K mg b' 5 "is_lay" ["board", "thing"] (spLay K) := d5.to KX G (b2 fun _ _ _ _ _ _ _ _ => rfl) fun f fd F => Zdf F gs D4 D2 D1
  have D6 : Def P w K mg b' 6 "need_lay" ["board", "lay"] (spNeedLay K) := d6.to KX G (b2 fun _ _ _ _ _ _ _ _ => rfl) fun f fd F => UQ F D5
  have D7 : Def P w K mg b' 7 "points" ["board", "lay"] (spPoints K) := d7.to KX G (b2 fun _ _ _ _ _ _ _ _ => rfl) fun f fd F => ZaM F gs D6
  have D8 : Def P w K mg b' 3 "is_point" ["board", "thing"] (spIP K) := d8.to KX G (b2 fun _ _ _ _ _ _ _ _ => rfl) fun f fd F => ZdM F gs D2 D1
  have D9 : Def P w K mg b' 5 "lay_of" ["board", "points"] (spLO K) := d9.to KX G (b2 fun _ _ _ _ _ _ _ _ => rfl) fun f fd F => ZdK F gs D4 D8
  have D10 : Def P w K mg b' 3 "is_turn" ["thing"] (spTurnK K) := d10.to KX G (b1 fun _ _ _ _ _ _ _ => rfl) fun f fd F => ZbA F gs D2k D1
  have D11 : Def P w K mg b' 4 "need_turn" ["turn"] (spNTK K) := d11.to KX G (b1 fun _ _ _ _ _ _ _ => rfl) fun f fd F => Zda F D10
  have D12 : Def P w K mg b' 1 "turned_point" ["board", "point", "turn"] (spTPK K) := d12.to KX G (b3 fun _ _ _ _ _ _ _ _ _ => rfl) fun f fd F => Zc6 F
  have D13 : Def P w K mg b' 5 "turned_board" ["board", "turn"] (spTBK K) := d13.to KX G (b2 fun _ _ _ _ _ _ _ _ => rfl) fun f fd F => Zc8 F D4 D11
  have D14 : Def P w K mg b' 8 "turned" ["board", "lay", "turn"] (spTuK K) := d14.to KX G (b3 fun _ _ _ _ _ _ _ _ _ => rfl) fun f fd F => Zc5 F D7 D13 D9 D12
  have D15 : Def P w K mg b' 9 "all_turned" ["board", "lay"] (spAll K) := d15.to KX G (b2 fun _ _ _ _ _ _ _ _ => rfl) fun f fd F => Zdh F tg D13 D14
  have D16 : Def P w K mg b' 1 "none_least" ["led"] spNl := d16.to KX G (b1 fun _ _ _ _ _ _ _ => rfl) fun f fd F => Zdc F gs
  have D17 : Def P w K mg b' 10 "least_turned" ["board", "lay"] (spLt K) := d17.to KX G (b2 fun _ _ _ _ _ _ _ _ => rfl) fun f fd F => ZdI F gs D15 D16
  have D18 : Def P w K mg b' 10 "own_turns" ["board", "lay"] (spOw K) := d18.to KX G (b2 fun _ _ _ _ _ _ _ _ => rfl) fun f fd F => ZdF F gs tg D15
  have R4 : DefR P w K mg b' 4 "need_board" ["board"] (spNBx K aB) := d4.toR KX G (b1 fun _ _ _ _ _ _ _ => rfl) fun f fd F => Wg F gs exB D3
  have R5 : DefR P w K mg b' 5 "is_lay" ["board", "thing"] (spLayx K aB) := d5.toR KX G (b2 fun _ _ _ _ _ _ _ _ => rfl) fun f fd F => Zco F R4
  have R6 : DefR P w K mg b' 6 "need_lay" ["board", "lay"] (spNLx K aB aL) := d6.toR KX G (b2 fun _ _ _ _ _ _ _ _ => rfl) fun f fd F => Uf F exL D5 R5
  have R7 : DefR P w K mg b' 7 "points" ["board", "lay"] (spNLx K aB aL) := d7.toR KX G (b2 fun _ _ _ _ _ _ _ _ => rfl) fun f fd F => UP F R6
  have R13 : DefR P w K mg b' 5 "turned_board" ["board", "turn"] (spTBy K aB) := d13.toR KX G (b2 fun _ _ _ _ _ _ _ _ => rfl) fun f fd F => Zc7 F R4
  have R14 : DefR P w K mg b' 8 "turned" ["board", "lay", "turn"] (spTuy K aB aL) := d14.toR KX G (b3 fun _ _ _ _ _ _ _ _ _ => rfl) fun f fd F => Zc4 F R7
  have R15 : DefR P w K mg b' 9 "all_turned" ["board", "lay"] (spNLx K aB aL) := d15.toR KX G (b2 fun _ _ _ _ _ _ _ _ => rfl) fun f fd F => Zcq F tg D13 R13 R14
  have R17 : DefR P w K mg b' 10 "least_turned" ["board", "lay"] (spNLx K aB aL) := d17.toR KX G (b2 fun _ _ _ _ _ _ _ _ => rfl) fun f fd F => Zde F gs R15 D16
  have R18 : DefR P w K mg b' 10 "own_turns" ["board", "lay"] (spNLx K aB aL) := d18.toR KX G (b2 fun _ _ _ _ _ _ _ _ => rfl) fun f fd F => Zc9 F gs tg R15
  exact ⟨⟨D17, R17⟩, D18, R18⟩
 have hR : ∀ b' : Heap, Def P w K mg b' 12 "_law_word" ["_law_call"] (spWord P w K mg b' cS 11) := fun b' => d22.to KX G (b1 fun _ _ _ _ _ _ _ => rfl) fun f fd F => Zcl F gs
 have E1 : Def P w K mg base 1 "_law_cell_at" ["_law_script", "_law_k"] (spCell K) := d19.to KX G (b2 fun _ _ _ _ _ _ _ _ => rfl) fun f fd F => Zcp F gs
 have E2 : Def P w K mg base 2 "_law_state" ["_law_script", "_law_k"] (spState K) := d20.to KX G (b2 fun _ _ _ _ _ _ _ _ => rfl) fun f fd F => ZbC F gs E1
 have E3 : Def P w K mg base 1 "_law_take" ["_law_state_here", "_law_many"] spTake := d21.to KX G (b2 fun _ _ _ _ _ _ _ _ => rfl) fun f fd F => Zcn F
 have E4 : Def P w K mg base 2 "_law_lay" ["_law_state_here", "_law_board"] (spLL K) := d23.to KX G (b2 fun _ _ _ _ _ _ _ _ => rfl) fun f fd F => ZdL F gs E3
 have E5 : Def P w K mg base 2 "_law_no_board" ["_law_state_here"] (spNoB K) := d24.to KX G (b1 fun _ _ _ _ _ _ _ => rfl) fun f fd F => Zdb F E3
 have E6 : Def P w K mg base 2 "_law_no_lay" ["_law_state_here", "_law_board", "_law_lay_here"] (spNL K) := d25.to KX G (b3 fun _ _ _ _ _ _ _ _ _ => rfl) fun f fd F => ZdG F gs E3
 have S0 : Def P w K mg base 1 "_law_same" ["_law_found", "_law_due"] (spSame R0) := d26.to KX G (b2 fun _ _ _ _ _ _ _ _ => rfl) fun f fd F => ZbE F gs
 have S1 : Def P w K mg base 1 "_law_same" ["_law_found", "_law_due"] (spSame R1) := d26.to KX G (b2 fun _ _ _ _ _ _ _ _ => rfl) fun f fd F => ZbD F gs
 have S2 : Def P w K mg base 2 "_law_same" ["_law_found", "_law_due"] (spSame (RTu R1)) := d26.to KX G (b2 fun _ _ _ _ _ _ _ _ => rfl) fun f fd F => Wu (R := R1) (fun r s => R1.same r s) F gs S1
 have S3 : Def P w K mg base 3 "_law_same" ["_law_found", "_law_due"] (spSame (RTu (RTu R1))) := d26.to KX G (b2 fun _ _ _ _ _ _ _ _ => rfl) fun f fd F => Wu (R := RTu R1) (fun r s => RTu.same (R := R1) (fun r s => R1.same r s) r s) F gs S2
 have S4 : Def P w K mg base 2 "_law_same" ["_law_found", "_law_due"] (spSame (RTK K)) := d26.to KX G (b2 fun _ _ _ _ _ _ _ _ => rfl) fun f fd F => ZaK F gs S0
 have S5 : Def P w K mg base 3 "_law_same" ["_law_found", "_law_due"] (spSame (RLi (RTK K))) := d26.to KX G (b2 fun _ _ _ _ _ _ _ _ => rfl) fun f fd F => ZaL (R := RTK K) (fun r s => RTK.same r s) F gs S4
 have E7 : Def P w K mg base 1 "_law_moved" ["_law_board", "_law_turn_here", "_law_point"] spMv := d27.to KX G (b3 fun _ _ _ _ _ _ _ _ _ => rfl) fun f fd F => ZdH F
 have E8 : Def P w K mg base 1 "_law_board_by" ["_law_board", "_law_turn_here"] spBB := d28.to KX G (b2 fun _ _ _ _ _ _ _ _ => rfl) fun f fd F => ZdO F
 have E9 : Def P w K mg base 2 "_law_turned" ["_law_board", "_law_lay_here", "_law_turn_here"] (spLTu K) := d29.to KX G (b3 fun _ _ _ _ _ _ _ _ _ => rfl) fun f fd F => Zdd F gs E7 E8
 have E10 : Def P w K mg base 1 "_law_all_turns" [] spAT := d30.to KX G (b0 fun _ _ _ _ _ _ => rfl) fun f fd F => ZdP F gs
 have E11 : Def P w K mg base 1 "_law_rank" ["_law_one"] spRk := d31.to KX G (b1 fun _ _ _ _ _ _ _ => rfl) fun f fd F => ZdE F
 have E12 : Def P w K mg base 3 "_law_least" ["_law_board", "_law_lay_here"] (spLs K) := d32.to KX G (b2 fun _ _ _ _ _ _ _ _ => rfl) fun f fd F => ZdJ F E10 E8 E9 E11
 have E13 : Def P w K mg base 11 "_law_right" ["_law_board", "_law_lay_here"] (spRt K) := d33.to KX G (b2 fun _ _ _ _ _ _ _ _ => rfl) fun f fd F => ZdD F gs (good base).1.1 E12 S3 E10 E8 E9 (good base).2.1 S5
 have E14 : Def P w K mg base 2 "_law_even" ["_law_state_here", "_law_many"] spEv := d34.to KX G (b2 fun _ _ _ _ _ _ _ _ => rfl) fun f fd F => ZdN F gs E3
 obtain ⟨fR, fdR, eR', FR⟩ := id d22
 obtain ⟨fS, fdS, eS', FS⟩ := id d17
 obtain ⟨fI, fdI, eI', FI⟩ := id d18
 exact Zdg l2 l3 gs E2 E3 E4 E14 E5 E6 E13 (good base).1.1 hR (fun b' => (good b').1.2) (fun b' => (good b').2.2) (PySem.W.mg_of KX G eS') (PySem.W.mg_of KX G eI') (PySem.W.mg_of KX G eR') FR.kp MB ML (PySem.W.codeHd_of_K kb l4) bm
end
end U
set_option Elab.async false
set_option linter.all false
set_option maxRecDepth 100000
theorem PySem.W.Fast.tw4809506731277205504:True:=⟨⟩
theorem PySem.W.Fast.tw17506457621241094144:True:=⟨⟩
theorem PySem.W.Fast.tw15654219603005059104:True:=⟨⟩
theorem PySem.W.Fast.tw17905118317982843008:True:=⟨⟩
theorem PySem.W.Fast.tw6663346154018800768:True:=⟨⟩
theorem PySem.W.Fast.tw10848839400702082240:True:=⟨⟩
theorem PySem.W.Fast.tw14388721779567133952:True:=⟨⟩
theorem PySem.W.Fast.tw8225782739211055424:True:=⟨⟩
theorem PySem.W.Fast.tw13275966442650200384:True:=⟨⟩
theorem PySem.W.Fast.tw8599979646345273824:True:=⟨⟩
theorem PySem.W.Fast.tw15227443108582309344:True:=⟨⟩
theorem PySem.W.Fast.tw8577618022253204992:True:=⟨⟩
theorem PySem.W.Fast.tw17775693366699024896:True:=⟨⟩
theorem PySem.W.Fast.tw11678932292296703488:True:=⟨⟩
theorem PySem.W.Fast.tw17843775146544027328:True:=⟨⟩
theorem PySem.W.Fast.tw16434310292811086592:True:=⟨⟩
theorem PySem.W.Fast.tw17808037135600040736:True:=⟨⟩
theorem PySem.W.Fast.tw941348591179742112:True:=⟨⟩
theorem PySem.W.Fast.tw14582777911987041248:True:=⟨⟩
theorem PySem.W.Fast.tw6556842028273365057:True:=⟨⟩
theorem PySem.W.Fast.tw14390648856521932897:True:=⟨⟩
theorem PySem.W.Fast.tw16080516586202629249:True:=⟨⟩
theorem PySem.W.Fast.tw1959117547325138081:True:=⟨⟩
theorem PySem.W.Fast.tw1874644251869436065:True:=⟨⟩
theorem PySem.W.Fast.tw4282776195031613665:True:=⟨⟩
theorem PySem.W.Fast.tw13969561165526776161:True:=⟨⟩
theorem PySem.W.Fast.tw6278361759100262785:True:=⟨⟩
theorem PySem.W.Fast.tw10954464154351584673:True:=⟨⟩
theorem PySem.W.Fast.tw11472349734197750209:True:=⟨⟩
theorem PySem.W.Fast.tw16505830765137186401:True:=⟨⟩
theorem PySem.W.Fast.tw10951229617898363553:True:=⟨⟩
theorem PySem.W.Fast.tw5417514190288090945:True:=⟨⟩
theorem PySem.W.Fast.tw8539768599191844705:True:=⟨⟩
theorem PySem.W.Fast.tw13211202471707539490:True:=⟨⟩
theorem PySem.W.Fast.tw6594206165071811714:True:=⟨⟩
theorem PySem.W.Fast.tw2195164585603342594:True:=⟨⟩
theorem PySem.W.Fast.tw16354033251853147490:True:=⟨⟩
theorem PySem.W.Fast.tw10304230937439229346:True:=⟨⟩
theorem PySem.W.Fast.tw16136684848242105826:True:=⟨⟩
theorem PySem.W.Fast.tw7407812764150453794:True:=⟨⟩
theorem PySem.W.Fast.tw16720590017801941538:True:=⟨⟩
theorem PySem.W.Fast.tw9163324253822092930:True:=⟨⟩
theorem PySem.W.Fast.tw4984588224811837122:True:=⟨⟩
theorem PySem.W.Fast.tw5200391975307759458:True:=⟨⟩
theorem PySem.W.Fast.tw4262499706278903650:True:=⟨⟩
theorem PySem.W.Fast.tw4506262525012806530:True:=⟨⟩
theorem PySem.W.Fast.tw10875352336680353762:True:=⟨⟩
theorem PySem.W.Fast.tw7187497562509543459:True:=⟨⟩
theorem PySem.W.Fast.tw16259001655422407843:True:=⟨⟩
theorem PySem.W.Fast.tw15331739621894824099:True:=⟨⟩
theorem PySem.W.Fast.tw4653659513632603331:True:=⟨⟩
theorem PySem.W.Fast.tw14719063971413466499:True:=⟨⟩
theorem PySem.W.Fast.tw14826159566918976963:True:=⟨⟩
theorem PySem.W.Fast.tw13771412479652633059:True:=⟨⟩
theorem PySem.W.Fast.tw4514300202350923395:True:=⟨⟩
theorem PySem.W.Fast.tw1675248291115726467:True:=⟨⟩
theorem PySem.W.Fast.tw4140889253615334051:True:=⟨⟩
theorem PySem.W.Fast.tw16088325328565320483:True:=⟨⟩
theorem PySem.W.Fast.tw12625648004447506243:True:=⟨⟩
theorem PySem.W.Fast.tw14589184747164041059:True:=⟨⟩
theorem PySem.W.Fast.tw8632626270565651299:True:=⟨⟩
theorem PySem.W.Fast.tw12133020001139879843:True:=⟨⟩
theorem PySem.W.Fast.tw10496722255274189860:True:=⟨⟩
theorem PySem.W.Fast.tw7081614804524086372:True:=⟨⟩
theorem PySem.W.Fast.tw1626021519720896708:True:=⟨⟩
theorem PySem.W.Fast.tw17045078979149547812:True:=⟨⟩
theorem PySem.W.Fast.tw108274690056570244:True:=⟨⟩
theorem PySem.W.Fast.tw7979564324858700164:True:=⟨⟩
theorem PySem.W.Fast.tw3098809905275607492:True:=⟨⟩
theorem PySem.W.Fast.tw17081917532986456548:True:=⟨⟩
theorem PySem.W.Fast.tw15041938285568766596:True:=⟨⟩
theorem PySem.W.Fast.tw8645086620052513412:True:=⟨⟩
theorem PySem.W.Fast.tw10223618911621341924:True:=⟨⟩
theorem PySem.W.Fast.tw13207407943594447652:True:=⟨⟩
theorem PySem.W.Fast.tw11833993090115470116:True:=⟨⟩
theorem PySem.W.Fast.tw2915704607305241476:True:=⟨⟩
theorem PySem.W.Fast.tw2084515043618673733:True:=⟨⟩
theorem PySem.W.Fast.tw1539520671607747749:True:=⟨⟩
theorem PySem.W.Fast.tw16474996572120931589:True:=⟨⟩
theorem PySem.W.Fast.tw6914994156036452773:True:=⟨⟩
theorem PySem.W.Fast.tw7665734263213548965:True:=⟨⟩
theorem PySem.W.Fast.tw1406640486121543109:True:=⟨⟩
theorem PySem.W.Fast.tw17039195906949948965:True:=⟨⟩
theorem PySem.W.Fast.tw17856826176419539557:True:=⟨⟩
theorem PySem.W.Fast.tw6876650364551402085:True:=⟨⟩
theorem PySem.W.Fast.tw17424028825350171269:True:=⟨⟩
theorem PySem.W.Fast.tw12401144811976692357:True:=⟨⟩
theorem PySem.W.Fast.tw12357418850205877925:True:=⟨⟩
theorem PySem.W.Fast.tw15497316283070791397:True:=⟨⟩
theorem PySem.W.Fast.tw3000001627830726405:True:=⟨⟩
theorem PySem.W.Fast.tw12523489401915684613:True:=⟨⟩
theorem PySem.W.Fast.tw6501561274829414181:True:=⟨⟩
theorem PySem.W.Fast.tw17819898634735885189:True:=⟨⟩
theorem PySem.W.Fast.tw1341597197062390757:True:=⟨⟩
theorem PySem.W.Fast.tw14582132635326120966:True:=⟨⟩
theorem PySem.W.Fast.tw17163953987703425126:True:=⟨⟩
theorem PySem.W.Fast.tw9934539664557595846:True:=⟨⟩
theorem PySem.W.Fast.tw3172238291932781862:True:=⟨⟩
theorem PySem.W.Fast.tw3742986048313615846:True:=⟨⟩
theorem PySem.W.Fast.tw6907516532036824582:True:=⟨⟩
theorem PySem.W.Fast.tw14403016959910213190:True:=⟨⟩
theorem PySem.W.Fast.tw9166879378957027910:True:=⟨⟩
theorem PySem.W.Fast.tw4506197333159297766:True:=⟨⟩
theorem PySem.W.Fast.tw6061921276216461158:True:=⟨⟩
theorem PySem.W.Fast.tw2334000071129490278:True:=⟨⟩
theorem PySem.W.Fast.tw13837245574212409190:True:=⟨⟩
theorem PySem.W.Fast.tw234024222541403303:True:=⟨⟩
theorem PySem.W.Fast.tw1574006670024704199:True:=⟨⟩
theorem PySem.W.Fast.tw1188284967107834215:True:=⟨⟩
theorem PySem.W.Fast.tw16243749527839877639:True:=⟨⟩
theorem PySem.W.Fast.tw14142157431915924007:True:=⟨⟩
theorem PySem.W.Fast.tw16033282762554818183:True:=⟨⟩
theorem PySem.W.Fast.tw17546129174988135079:True:=⟨⟩
theorem PySem.W.Fast.tw10328244275791919943:True:=⟨⟩
theorem PySem.W.Fast.tw1103798711276570439:True:=⟨⟩
theorem PySem.W.Fast.tw9882800206544159752:True:=⟨⟩
theorem PySem.W.Fast.tw8170562436430339400:True:=⟨⟩
theorem PySem.W.Fast.tw8312563525027970408:True:=⟨⟩
theorem PySem.W.Fast.tw7247402272745593320:True:=⟨⟩
theorem PySem.W.Fast.tw3501378521079464488:True:=⟨⟩
theorem PySem.W.Fast.tw10795753539201549992:True:=⟨⟩
theorem PySem.W.Fast.tw10168574314140756936:True:=⟨⟩
theorem PySem.W.Fast.tw10486689138961392616:True:=⟨⟩
theorem PySem.W.Fast.tw15133681440672849961:True:=⟨⟩
theorem PySem.W.Fast.tw15378244357008395305:True:=⟨⟩
theorem PySem.W.Fast.tw8915904673021671593:True:=⟨⟩
theorem PySem.W.Fast.tw1041556318245518505:True:=⟨⟩
theorem PySem.W.Fast.tw15516638620136788169:True:=⟨⟩
theorem PySem.W.Fast.tw17496103689187463433:True:=⟨⟩
theorem PySem.W.Fast.tw1545138883412153737:True:=⟨⟩
theorem PySem.W.Fast.tw15442801484275042761:True:=⟨⟩
theorem PySem.W.Fast.tw13107834623332119017:True:=⟨⟩
theorem PySem.W.Fast.tw5908170270278393353:True:=⟨⟩
theorem PySem.W.Fast.tw1236510033486273065:True:=⟨⟩
theorem PySem.W.Fast.tw12067046026176458345:True:=⟨⟩
theorem PySem.W.Fast.tw8041112576962494121:True:=⟨⟩
theorem PySem.W.Fast.tw7849425087983550153:True:=⟨⟩
theorem PySem.W.Fast.tw1398282667074309865:True:=⟨⟩
theorem PySem.W.Fast.tw16744597101861813001:True:=⟨⟩
theorem PySem.W.Fast.tw14963994948045053769:True:=⟨⟩
theorem PySem.W.Fast.tw6031769723341422441:True:=⟨⟩
theorem PySem.W.Fast.tw13102704514571037577:True:=⟨⟩
theorem PySem.W.Fast.tw50881932140007305:True:=⟨⟩
theorem PySem.W.Fast.tw15291744948007564201:True:=⟨⟩
theorem PySem.W.Fast.tw15216097911020347498:True:=⟨⟩
theorem PySem.W.Fast.tw16394724163540727978:True:=⟨⟩
theorem PySem.W.Fast.tw3531883383000373450:True:=⟨⟩
theorem PySem.W.Fast.tw14271517764439377130:True:=⟨⟩
theorem PySem.W.Fast.tw3160139764319062250:True:=⟨⟩
theorem PySem.W.Fast.tw10908150732473998602:True:=⟨⟩
theorem PySem.W.Fast.tw914358252680929546:True:=⟨⟩
theorem PySem.W.Fast.tw3888594267887444266:True:=⟨⟩
theorem PySem.W.Fast.tw467679117463848458:True:=⟨⟩
theorem PySem.W.Fast.tw8395970775953319562:True:=⟨⟩
theorem PySem.W.Fast.tw4795026125609877226:True:=⟨⟩
theorem PySem.W.Fast.tw17557475477960044330:True:=⟨⟩
theorem PySem.W.Fast.tw11595380802782043978:True:=⟨⟩
theorem PySem.W.Fast.tw1638428785694092234:True:=⟨⟩
theorem PySem.W.Fast.tw258101826159584234:True:=⟨⟩
theorem PySem.W.Fast.tw12941495004623643626:True:=⟨⟩
theorem PySem.W.Fast.tw16395573381698382859:True:=⟨⟩
theorem PySem.W.Fast.tw14165582032947023979:True:=⟨⟩
theorem PySem.W.Fast.tw323793155419179243:True:=⟨⟩
theorem PySem.W.Fast.tw4899483831576370411:True:=⟨⟩
theorem PySem.W.Fast.tw13965134648057952523:True:=⟨⟩
theorem PySem.W.Fast.tw7883482695156777259:True:=⟨⟩
theorem PySem.W.Fast.tw15728911038652718443:True:=⟨⟩
theorem PySem.W.Fast.tw2824611963337879083:True:=⟨⟩
theorem PySem.W.Fast.tw14676568000145845995:True:=⟨⟩
theorem PySem.W.Fast.tw1330057373427233515:True:=⟨⟩
theorem PySem.W.Fast.tw12571516380714861355:True:=⟨⟩
theorem PySem.W.Fast.tw404225460724184939:True:=⟨⟩
theorem PySem.W.Fast.tw3059612646089540491:True:=⟨⟩
theorem PySem.W.Fast.tw18412475969766284267:True:=⟨⟩
theorem PySem.W.Fast.tw7488744733473749068:True:=⟨⟩
theorem PySem.W.Fast.tw426231662413678732:True:=⟨⟩
theorem PySem.W.Fast.tw12716691536452481196:True:=⟨⟩
theorem PySem.W.Fast.tw15247593130518676716:True:=⟨⟩
theorem PySem.W.Fast.tw7521005428186951948:True:=⟨⟩
theorem PySem.W.Fast.tw12282151592897581356:True:=⟨⟩
theorem PySem.W.Fast.tw11311670110807923020:True:=⟨⟩
theorem PySem.W.Fast.tw11403346498266637676:True:=⟨⟩
theorem PySem.W.Fast.tw16812131601181697388:True:=⟨⟩
theorem PySem.W.Fast.tw6922283831613335948:True:=⟨⟩
theorem PySem.W.Fast.tw16913409867356737036:True:=⟨⟩
theorem PySem.W.Fast.tw16694059813019452044:True:=⟨⟩
theorem PySem.W.Fast.tw10950177732417345260:True:=⟨⟩
theorem PySem.W.Fast.tw4803032529713166124:True:=⟨⟩
theorem PySem.W.Fast.tw4258943884452703052:True:=⟨⟩
theorem PySem.W.Fast.tw3010715992687334220:True:=⟨⟩
theorem PySem.W.Fast.tw12326670099837988716:True:=⟨⟩
theorem PySem.W.Fast.tw517623808663820172:True:=⟨⟩
theorem PySem.W.Fast.tw7578547906172587916:True:=⟨⟩
theorem PySem.W.Fast.tw7994277952091935692:True:=⟨⟩
theorem PySem.W.Fast.tw17506816111713628397:True:=⟨⟩
theorem PySem.W.Fast.tw11698169995870419181:True:=⟨⟩
theorem PySem.W.Fast.tw14866031440658824461:True:=⟨⟩
theorem PySem.W.Fast.tw13538377741237581165:True:=⟨⟩
theorem PySem.W.Fast.tw9650049539267886445:True:=⟨⟩
theorem PySem.W.Fast.tw8998569411002657293:True:=⟨⟩
theorem PySem.W.Fast.tw13332717240575042125:True:=⟨⟩
theorem PySem.W.Fast.tw18015459386289847981:True:=⟨⟩
theorem PySem.W.Fast.tw14389013027537346285:True:=⟨⟩
theorem PySem.W.Fast.tw15975099171203592013:True:=⟨⟩
theorem PySem.W.Fast.tw13620930367228552045:True:=⟨⟩
theorem PySem.W.Fast.tw11515825069848961997:True:=⟨⟩
theorem PySem.W.Fast.tw12274574001839858669:True:=⟨⟩
theorem PySem.W.Fast.tw14568857070090786797:True:=⟨⟩
theorem PySem.W.Fast.tw4868645046297476334:True:=⟨⟩
theorem PySem.W.Fast.tw10421405685530453294:True:=⟨⟩
theorem PySem.W.Fast.tw5015291959304104270:True:=⟨⟩
theorem PySem.W.Fast.tw12041012131243661646:True:=⟨⟩
theorem PySem.W.Fast.tw18042403014690910638:True:=⟨⟩
theorem PySem.W.Fast.tw12665120682648234478:True:=⟨⟩
theorem PySem.W.Fast.tw3513881049005012494:True:=⟨⟩
theorem PySem.W.Fast.tw10354402522876305966:True:=⟨⟩
theorem PySem.W.Fast.tw2642035662634681966:True:=⟨⟩
theorem PySem.W.Fast.tw4904018719643799374:True:=⟨⟩
theorem PySem.W.Fast.tw6409235530151421967:True:=⟨⟩
theorem PySem.W.Fast.tw2084102572666845199:True:=⟨⟩
theorem PySem.W.Fast.tw10968995941918534767:True:=⟨⟩
theorem PySem.W.Fast.tw3873964635246549135:True:=⟨⟩
theorem PySem.W.Fast.tw5188703812009529615:True:=⟨⟩
theorem PySem.W.Fast.tw3804272578192096559:True:=⟨⟩
theorem PySem.W.Fast.tw1176918965110851887:True:=⟨⟩
theorem PySem.W.Fast.tw4062110197171703311:True:=⟨⟩
theorem PySem.W.Fast.tw15250222835281629743:True:=⟨⟩
theorem PySem.W.Fast.tw2817147742973365871:True:=⟨⟩
theorem PySem.W.Fast.tw7776685852057191055:True:=⟨⟩
theorem PySem.W.Fast.tw1424401947341215407:True:=⟨⟩
theorem PySem.W.Fast.tw389022356215054287:True:=⟨⟩
theorem PySem.W.Fast.tw6430175420182305840:True:=⟨⟩
theorem PySem.W.Fast.tw2010061805534813328:True:=⟨⟩
theorem PySem.W.Fast.tw15589603252865337744:True:=⟨⟩
theorem PySem.W.Fast.tw15860234422360486288:True:=⟨⟩
theorem PySem.W.Fast.tw15612527489564229488:True:=⟨⟩
theorem PySem.W.Fast.tw15005382165906986225:True:=⟨⟩
theorem PySem.W.Fast.tw11727946273457235249:True:=⟨⟩
theorem PySem.W.Fast.tw3392537353153060209:True:=⟨⟩
theorem PySem.W.Fast.tw11601342927957801361:True:=⟨⟩
theorem PySem.W.Fast.tw11705757662958686641:True:=⟨⟩
theorem PySem.W.Fast.tw7498869852904493553:True:=⟨⟩
theorem PySem.W.Fast.tw2256876695312438801:True:=⟨⟩
theorem PySem.W.Fast.tw422805251433408145:True:=⟨⟩
theorem PySem.W.Fast.tw10138454356074626833:True:=⟨⟩
theorem PySem.W.Fast.tw12383117970116586257:True:=⟨⟩
theorem PySem.W.Fast.tw873846473256350577:True:=⟨⟩
theorem PySem.W.Fast.tw13417438748515242865:True:=⟨⟩
theorem PySem.W.Fast.tw9246875986846333905:True:=⟨⟩
theorem PySem.W.Fast.tw638272849399778322:True:=⟨⟩
theorem PySem.W.Fast.tw5137941158140824626:True:=⟨⟩
theorem PySem.W.Fast.tw5002065670096956498:True:=⟨⟩
theorem PySem.W.Fast.tw2889915562575062162:True:=⟨⟩
theorem PySem.W.Fast.tw14453847456029907250:True:=⟨⟩
theorem PySem.W.Fast.tw17902315056453999058:True:=⟨⟩
theorem PySem.W.Fast.tw9012139251921003058:True:=⟨⟩
theorem PySem.W.Fast.tw3894509585556808242:True:=⟨⟩
theorem PySem.W.Fast.tw18158688280488223442:True:=⟨⟩
theorem PySem.W.Fast.tw2758258074667486930:True:=⟨⟩
theorem PySem.W.Fast.tw10793191675341952754:True:=⟨⟩
theorem PySem.W.Fast.tw13223975164189769554:True:=⟨⟩
theorem PySem.W.Fast.tw17658217066592453715:True:=⟨⟩
theorem PySem.W.Fast.tw5239285894836884595:True:=⟨⟩
theorem PySem.W.Fast.tw5164615714727753875:True:=⟨⟩
theorem PySem.W.Fast.tw17308584316325864659:True:=⟨⟩
theorem PySem.W.Fast.tw10643647666315733299:True:=⟨⟩
theorem PySem.W.Fast.tw2157790800782540147:True:=⟨⟩
theorem PySem.W.Fast.tw7041720994687163795:True:=⟨⟩
theorem PySem.W.Fast.tw12919757529633882579:True:=⟨⟩
theorem PySem.W.Fast.tw3708586710916824595:True:=⟨⟩
theorem PySem.W.Fast.tw10192490723738822259:True:=⟨⟩
theorem PySem.W.Fast.tw2637048386706364115:True:=⟨⟩
theorem PySem.W.Fast.tw12891555186847099667:True:=⟨⟩
theorem PySem.W.Fast.tw14431479330135859252:True:=⟨⟩
theorem PySem.W.Fast.tw1343962167426664500:True:=⟨⟩
theorem PySem.W.Fast.tw10725271275660513364:True:=⟨⟩
theorem PySem.W.Fast.tw321992727689553012:True:=⟨⟩
theorem PySem.W.Fast.tw1406525691527237844:True:=⟨⟩
theorem PySem.W.Fast.tw11446212369923024084:True:=⟨⟩
theorem PySem.W.Fast.tw17009147588714577172:True:=⟨⟩
theorem PySem.W.Fast.tw14914324096432737588:True:=⟨⟩
theorem PySem.W.Fast.tw6608664432806194484:True:=⟨⟩
theorem PySem.W.Fast.tw512933879863548308:True:=⟨⟩
theorem PySem.W.Fast.tw15167448578933061044:True:=⟨⟩
theorem PySem.W.Fast.tw994775438939321844:True:=⟨⟩
theorem PySem.W.Fast.tw16541636981552611988:True:=⟨⟩
theorem PySem.W.Fast.tw533703358060934804:True:=⟨⟩
theorem PySem.W.Fast.tw14229644867241324180:True:=⟨⟩
theorem PySem.W.Fast.tw991587493940345524:True:=⟨⟩
theorem PySem.W.Fast.tw1572018737013762804:True:=⟨⟩
theorem PySem.W.Fast.tw1666637755659781908:True:=⟨⟩
theorem PySem.W.Fast.tw9417187620193235732:True:=⟨⟩
theorem PySem.W.Fast.tw9569083493745718036:True:=⟨⟩
theorem PySem.W.Fast.tw17160446000462342036:True:=⟨⟩
theorem PySem.W.Fast.tw7671463096851743668:True:=⟨⟩
theorem PySem.W.Fast.tw598856229651838900:True:=⟨⟩
theorem PySem.W.Fast.tw702311291733117940:True:=⟨⟩
theorem PySem.W.Fast.tw9449634907417945076:True:=⟨⟩
theorem PySem.W.Fast.tw8420484353886359540:True:=⟨⟩
theorem PySem.W.Fast.tw11566511926659822773:True:=⟨⟩
theorem PySem.W.Fast.tw702576100121344245:True:=⟨⟩
theorem PySem.W.Fast.tw2372992439969466677:True:=⟨⟩
theorem PySem.W.Fast.tw5527182268734052693:True:=⟨⟩
theorem PySem.W.Fast.tw5745354557791157589:True:=⟨⟩
theorem PySem.W.Fast.tw4474274259181800885:True:=⟨⟩
theorem PySem.W.Fast.tw1371905858526950837:True:=⟨⟩
theorem PySem.W.Fast.tw15349471177782811093:True:=⟨⟩
theorem PySem.W.Fast.tw9722862704457366005:True:=⟨⟩
theorem PySem.W.Fast.tw7248981553120434741:True:=⟨⟩
theorem PySem.W.Fast.tw6267264781725079125:True:=⟨⟩
theorem PySem.W.Fast.tw2446995398849192533:True:=⟨⟩
theorem PySem.W.Fast.tw2819669266804164277:True:=⟨⟩
theorem PySem.W.Fast.tw10491176948960868021:True:=⟨⟩
theorem PySem.W.Fast.tw7727568452996342517:True:=⟨⟩
theorem PySem.W.Fast.tw960164276828607285:True:=⟨⟩
theorem PySem.W.Fast.tw16499375688137023317:True:=⟨⟩
theorem PySem.W.Fast.tw4450530064136080309:True:=⟨⟩
theorem PySem.W.Fast.tw11346950329249950645:True:=⟨⟩
theorem PySem.W.Fast.tw5010276410918008789:True:=⟨⟩
theorem PySem.W.Fast.tw10596063374674995286:True:=⟨⟩
theorem PySem.W.Fast.tw9153043291809416342:True:=⟨⟩
theorem PySem.W.Fast.tw7265852437499548918:True:=⟨⟩
theorem PySem.W.Fast.tw7274459177454663958:True:=⟨⟩
theorem PySem.W.Fast.tw14717525581495969110:True:=⟨⟩
theorem PySem.W.Fast.tw14477848245057966646:True:=⟨⟩
theorem PySem.W.Fast.tw17950648979582350966:True:=⟨⟩
theorem PySem.W.Fast.tw6544551661997781686:True:=⟨⟩
theorem PySem.W.Fast.tw12360455271665459926:True:=⟨⟩
theorem PySem.W.Fast.tw16635864263388948182:True:=⟨⟩
theorem PySem.W.Fast.tw9363705975272149750:True:=⟨⟩
theorem PySem.W.Fast.tw15450048669857896214:True:=⟨⟩
theorem PySem.W.Fast.tw10668616964245062518:True:=⟨⟩
theorem PySem.W.Fast.tw6743029832537887606:True:=⟨⟩
theorem PySem.W.Fast.tw294180687739629558:True:=⟨⟩
theorem PySem.W.Fast.tw161711176043695287:True:=⟨⟩
theorem PySem.W.Fast.tw3055026602522404087:True:=⟨⟩
theorem PySem.W.Fast.tw9362797016465639831:True:=⟨⟩
theorem PySem.W.Fast.tw10745446884873921943:True:=⟨⟩
theorem PySem.W.Fast.tw18420499934707379671:True:=⟨⟩
theorem PySem.W.Fast.tw16305032843526367863:True:=⟨⟩
theorem PySem.W.Fast.tw5570628726282900119:True:=⟨⟩
theorem PySem.W.Fast.tw7121772989843740343:True:=⟨⟩
theorem PySem.W.Fast.tw6523172735954890423:True:=⟨⟩
theorem PySem.W.Fast.tw10158416563923883735:True:=⟨⟩
theorem PySem.W.Fast.tw4663998831437822807:True:=⟨⟩
theorem PySem.W.Fast.tw2302076386478099512:True:=⟨⟩
theorem PySem.W.Fast.tw7137771649336556600:True:=⟨⟩
theorem PySem.W.Fast.tw2072290307058342264:True:=⟨⟩
theorem PySem.W.Fast.tw4436986904257588632:True:=⟨⟩
theorem PySem.W.Fast.tw9985156571242757752:True:=⟨⟩
theorem PySem.W.Fast.tw17579552271050045112:True:=⟨⟩
theorem PySem.W.Fast.tw7534171886751391736:True:=⟨⟩
theorem PySem.W.Fast.tw13554644852070361113:True:=⟨⟩
theorem PySem.W.Fast.tw4301246330916934713:True:=⟨⟩
theorem PySem.W.Fast.tw6974768692520374329:True:=⟨⟩
theorem PySem.W.Fast.tw6267073325787209849:True:=⟨⟩
theorem PySem.W.Fast.tw5359554038868747417:True:=⟨⟩
theorem PySem.W.Fast.tw5914381874091512985:True:=⟨⟩
theorem PySem.W.Fast.tw6057728422550636761:True:=⟨⟩
theorem PySem.W.Fast.tw18197302399389801721:True:=⟨⟩
theorem PySem.W.Fast.tw16715727461041261817:True:=⟨⟩
theorem PySem.W.Fast.tw16186724636677265657:True:=⟨⟩
theorem PySem.W.Fast.tw1684225330547417369:True:=⟨⟩
theorem PySem.W.Fast.tw15194652291441712569:True:=⟨⟩
theorem PySem.W.Fast.tw6163676318465635833:True:=⟨⟩
theorem PySem.W.Fast.tw14750035860970476121:True:=⟨⟩
theorem PySem.W.Fast.tw9541249182514985561:True:=⟨⟩
theorem PySem.W.Fast.tw3247872820131054233:True:=⟨⟩
theorem PySem.W.Fast.tw7428713731993510809:True:=⟨⟩
theorem PySem.W.Fast.tw16059209672425649113:True:=⟨⟩
theorem PySem.W.Fast.tw16235107208117381178:True:=⟨⟩
theorem PySem.W.Fast.tw3648139312146268282:True:=⟨⟩
theorem PySem.W.Fast.tw190067038681610394:True:=⟨⟩
theorem PySem.W.Fast.tw14260667335911699610:True:=⟨⟩
theorem PySem.W.Fast.tw9328373627193427194:True:=⟨⟩
theorem PySem.W.Fast.tw4976350501123267866:True:=⟨⟩
theorem PySem.W.Fast.tw7394360786859595034:True:=⟨⟩
theorem PySem.W.Fast.tw10620644288809403706:True:=⟨⟩
theorem PySem.W.Fast.tw5719368980737277306:True:=⟨⟩
theorem PySem.W.Fast.tw12210349099913789882:True:=⟨⟩
theorem PySem.W.Fast.tw342833194642147770:True:=⟨⟩
theorem PySem.W.Fast.tw1298666375911307770:True:=⟨⟩
theorem PySem.W.Fast.tw7783632985928424986:True:=⟨⟩
theorem PySem.W.Fast.tw3090194079195628090:True:=⟨⟩
theorem PySem.W.Fast.tw17111550822052473530:True:=⟨⟩
theorem PySem.W.Fast.tw17240439346112241402:True:=⟨⟩
theorem PySem.W.Fast.tw14015206363632929594:True:=⟨⟩
theorem PySem.W.Fast.tw5481890242095014778:True:=⟨⟩
theorem PySem.W.Fast.tw18222181449224352634:True:=⟨⟩
theorem PySem.W.Fast.tw10632919768506067866:True:=⟨⟩
theorem PySem.W.Fast.tw14435894691186564026:True:=⟨⟩
theorem PySem.W.Fast.tw14626049776527921114:True:=⟨⟩
theorem PySem.W.Fast.tw1282882514877272058:True:=⟨⟩
theorem PySem.W.Fast.tw6123591907239567579:True:=⟨⟩
theorem PySem.W.Fast.tw2821009349376077019:True:=⟨⟩
theorem PySem.W.Fast.tw2507517133803017563:True:=⟨⟩
theorem PySem.W.Fast.tw7907328150849859995:True:=⟨⟩
theorem PySem.W.Fast.tw11933130915241102779:True:=⟨⟩
theorem PySem.W.Fast.tw463129150283257403:True:=⟨⟩
theorem PySem.W.Fast.tw9143914139258316379:True:=⟨⟩
theorem PySem.W.Fast.tw4415080780933120603:True:=⟨⟩
theorem PySem.W.Fast.tw14317001675214970555:True:=⟨⟩
theorem PySem.W.Fast.tw14200989151005613787:True:=⟨⟩
theorem PySem.W.Fast.tw10539229388642813787:True:=⟨⟩
theorem PySem.W.Fast.tw7229544482245429083:True:=⟨⟩
theorem PySem.W.Fast.tw737761625596004283:True:=⟨⟩
theorem PySem.W.Fast.tw2910260046585349051:True:=⟨⟩
theorem PySem.W.Fast.tw12841381921925312572:True:=⟨⟩
theorem PySem.W.Fast.tw17080248162587747580:True:=⟨⟩
theorem PySem.W.Fast.tw2223991976542664956:True:=⟨⟩
theorem PySem.W.Fast.tw7261268460945758588:True:=⟨⟩
theorem PySem.W.Fast.tw12010493839967159708:True:=⟨⟩
theorem PySem.W.Fast.tw5222491083709826460:True:=⟨⟩
theorem PySem.W.Fast.tw10596005987135785500:True:=⟨⟩
theorem PySem.W.Fast.tw5498602739412822556:True:=⟨⟩
theorem PySem.W.Fast.tw8433096713356043932:True:=⟨⟩
theorem PySem.W.Fast.tw12257175681010986684:True:=⟨⟩
theorem PySem.W.Fast.tw14818288814314414780:True:=⟨⟩
theorem PySem.W.Fast.tw5461103897939900124:True:=⟨⟩
theorem PySem.W.Fast.tw17013829973019856636:True:=⟨⟩
theorem PySem.W.Fast.tw14619724017587651420:True:=⟨⟩
theorem PySem.W.Fast.tw12044645740161737596:True:=⟨⟩
theorem PySem.W.Fast.tw18424868019642946428:True:=⟨⟩
theorem PySem.W.Fast.tw12034868705648918460:True:=⟨⟩
theorem PySem.W.Fast.tw6203098630760014877:True:=⟨⟩
theorem PySem.W.Fast.tw6962473690698872925:True:=⟨⟩
theorem PySem.W.Fast.tw4758088984519501021:True:=⟨⟩
theorem PySem.W.Fast.tw11261191253993023741:True:=⟨⟩
theorem PySem.W.Fast.tw3320289698492135709:True:=⟨⟩
theorem PySem.W.Fast.tw13797879622052771197:True:=⟨⟩
theorem PySem.W.Fast.tw15518619288744476061:True:=⟨⟩
theorem PySem.W.Fast.tw15500061536494574013:True:=⟨⟩
theorem PySem.W.Fast.tw8196121162530378301:True:=⟨⟩
theorem PySem.W.Fast.tw18128419824946366077:True:=⟨⟩
theorem PySem.W.Fast.tw6178916911780326045:True:=⟨⟩
theorem PySem.W.Fast.tw3783672299514483517:True:=⟨⟩
theorem PySem.W.Fast.tw7067656447109214045:True:=⟨⟩
theorem PySem.W.Fast.tw16068820719453550525:True:=⟨⟩
theorem PySem.W.Fast.tw2388457628701537277:True:=⟨⟩
theorem PySem.W.Fast.tw16782265352298784798:True:=⟨⟩
theorem PySem.W.Fast.tw6113403920957807646:True:=⟨⟩
theorem PySem.W.Fast.tw15861864880620988670:True:=⟨⟩
theorem PySem.W.Fast.tw16343184199981539614:True:=⟨⟩
theorem PySem.W.Fast.tw8078493934463332670:True:=⟨⟩
theorem PySem.W.Fast.tw15846192628084367742:True:=⟨⟩
theorem PySem.W.Fast.tw3342466895209798270:True:=⟨⟩
theorem PySem.W.Fast.tw3480873545305991870:True:=⟨⟩
theorem PySem.W.Fast.tw13578637394999315198:True:=⟨⟩
theorem PySem.W.Fast.tw1092360374730351518:True:=⟨⟩
theorem PySem.W.Fast.tw6083009905091754942:True:=⟨⟩
theorem PySem.W.Fast.tw9736119413866431551:True:=⟨⟩
theorem PySem.W.Fast.tw1965956722040361055:True:=⟨⟩
theorem PySem.W.Fast.tw11350007578480679039:True:=⟨⟩
theorem PySem.W.Fast.tw4708099660119248223:True:=⟨⟩
theorem PySem.W.Fast.tw5174044228972359103:True:=⟨⟩
theorem PySem.W.Fast.tw6838252849448833503:True:=⟨⟩
theorem PySem.W.Fast.tw12932166474312918559:True:=⟨⟩
theorem PySem.W.Fast.tw922227607561634367:True:=⟨⟩
theorem PySem.W.Fast.tw11904127750909557311:True:=⟨⟩
theorem PySem.W.Fast.tw2653563733844531807:True:=⟨⟩
theorem PySem.W.Fast.tw8027563936072572575:True:=⟨⟩
theorem PySem.W.Fast.tw8292118190292447967:True:=⟨⟩
theorem PySem.W.Fast.tw15044525236284734175:True:=⟨⟩
theorem PySem.W.Fast.tw10918436284883376895:True:=⟨⟩
theorem PySem.W.Fast.tw7938344889348337439:True:=⟨⟩
theorem PySem.W.Fast.tw11872002418027781983:True:=⟨⟩
theorem PySem.W.Fast.tw12325213860987868127:True:=⟨⟩
theorem PySem.W.Fast.tw16080691696873649327:True:=⟨⟩
set_option maxRecDepth 100000 in
set_option maxHeartbeats 0 in
theorem PySem.Challenge.cw_unlikesteps_k81_least_ones_and_own_turns_holds : PySem.Challenge.rw_unlikesteps_k81_least_ones_and_own_turns.Holds := by
 w_on; o_law; k_head; (case hw => w_witness2)
 k_fill
 refine U.walk_ofTs (l := PySem.Challenge.rw_unlikesteps_k81_least_ones_and_own_turns) (n := 63) (k := 13) (x := "_law_script") (Pts := [449]) (sp := fun K => U.spLaw K 449) rfl (by decide) rfl ⟨rfl, by decide, by decide, rfl⟩ (fun w h Y => PySem.W.km_in_of Y) ?hT9 ?hC9 ?hN9 ?F ?S
 case hT9 =>
  intro w h Y P hP
  simp only [List.mem_cons, List.not_mem_nil, or_false] at hP
  rcases hP with rfl
  ·exact PySem.W.km_tabs_of Y 449 (by simp)
 case hC9 =>
  intro w h X P hP
  simp only [List.mem_cons, List.not_mem_nil, or_false] at hP
  rcases hP with rfl
  ·exact ⟨453, PySem.W.codeHd_of_K X (by kernel_rfl)⟩
 case hN9 =>
  intro w P hP
  simp only [List.mem_cons, List.not_mem_nil, or_false] at hP
  rcases hP with rfl
  ·kernel_rfl
 case S => exact fun K H a ns hl hs hp => ⟨a, ns, rfl, hs, hl, hp _ (by simp), fun _ => rfl⟩
 case F =>
  intro w mg fa h KX G hmg
  refine' U.law_all (c := 453) (Pt := 449) KX G hmg (U.defAt_mk ?a0 ?b0 ?c0 ?e0) (U.defAt_mk ?a1 ?b1 ?c1 ?e1) (U.defAt_mk ?a2 ?b2 ?c2 ?e2) (U.defAt_mk ?a3 ?b3 ?c3 ?e3) (U.defAt_mk ?a4 ?b4 ?c4 ?e4) (U.defAt_mk ?a5 ?b5 ?c5 ?e5) (U.defAt_mk ?a6 ?b6 ?c6 ?e6) (U.defAt_mk ?a7 ?b7 ?c7 ?e7) (U.defAt_mk ?a8 ?b8 ?c8 ?e8) (U.defAt_mk ?a9 ?b9 ?c9 ?e9) (U.defAt_mk ?a10 ?b10 ?c10 ?e10) (U.defAt_mk ?a11 ?b11 ?c11 ?e11) (U.defAt_mk ?a12 ?b12 ?c12 ?e12) (U.defAt_mk ?a13 ?b13 ?c13 ?e13) (U.defAt_mk ?a14 ?b14 ?c14 ?e14) (U.defAt_mk ?a15 ?b15 ?c15 ?e15) (U.defAt_mk ?a16 ?b16 ?c16 ?e16) (U.defAt_mk ?a17 ?b17 ?c17 ?e17) (U.defAt_mk ?a18 ?b18 ?c18 ?e18) (U.defAt_mk ?a19 ?b19 ?c19 ?e19) (U.defAt_mk ?a20 ?b20 ?c20 ?e20) (U.defAt_mk ?a21 ?b21 ?c21 ?e21) (U.defAt_mk ?a22 ?b22 ?c22 ?e22) (U.defAt_mk ?a23 ?b23 ?c23 ?e23) (U.defAt_mk ?a24 ?b24 ?c24 ?e24) (U.defAt_mk ?a25 ?b25 ?c25 ?e25) (U.defAt_mk ?a26 ?b26 ?c26 ?e26) (U.defAt_mk ?a27 ?b27 ?c27 ?e27) (U.defAt_mk ?a28 ?b28 ?c28 ?e28) (U.defAt_mk ?a29 ?b29 ?c29 ?e29) (U.defAt_mk ?a30 ?b30 ?c30 ?e30) (U.defAt_mk ?a31 ?b31 ?c31 ?e31) (U.defAt_mk ?a32 ?b32 ?c32 ?e32) (U.defAt_mk ?a33 ?b33 ?c33 ?e33) (U.defAt_mk ?a34 ?b34 ?c34 ?e34) ?l1 ?l2 ?l3 ?l4 ?g1 ?lo0 ?eB ?eL ?eS ?xB ?xL ?eTU ?hTU ?gaB ?hoB ?clB ?gaL ?hoL ?clL
  (case a0 => k_is); (case b0 => k_is); (case c0 => k_is); (case e0 => k_is)
  (case a1 => k_is); (case b1 => k_is); (case c1 => k_is); (case e1 => k_is)
  (case a2 => k_is); (case b2 => k_is); (case c2 => k_is); (case e2 => k_is)
  (case a3 => k_is); (case b3 => k_is); (case c3 => k_is); (case e3 => k_is)
  (case a4 => k_is); (case b4 => k_is); (case c4 => k_is); (case e4 => k_is)
  (case a5 => k_is); (case b5 => k_is); (case c5 => k_is); (case e5 => k_is)
  (case a6 => k_is); (case b6 => k_is); (case c6 => k_is); (case e6 => k_is)
  (case a7 => k_is); (case b7 => k_is); (case c7 => k_is); (case e7 => k_is)
  (case a8 => k_is); (case b8 => k_is); (case c8 => k_is); (case e8 => k_is)
  (case a9 => k_is); (case b9 => k_is); (case c9 => k_is); (case e9 => k_is)
  (case a10 => k_is); (case b10 => k_is); (case c10 => k_is); (case e10 => k_is)
  (case a11 => k_is); (case b11 => k_is); (case c11 => k_is); (case e11 => k_is)
  (case a12 => k_is); (case b12 => k_is); (case c12 => k_is); (case e12 => k_is)
  (case a13 => k_is); (case b13 => k_is); (case c13 => k_is); (case e13 => k_is)
  (case a14 => k_is); (case b14 => k_is); (case c14 => k_is); (case e14 => k_is)
  (case a15 => k_is); (case b15 => k_is); (case c15 => k_is); (case e15 => k_is)
  (case a16 => k_is); (case b16 => k_is); (case c16 => k_is); (case e16 => k_is)
  (case a17 => k_is); (case b17 => k_is); (case c17 => k_is); (case e17 => k_is)
  (case a18 => k_is); (case b18 => k_is); (case c18 => k_is); (case e18 => k_is)
  (case a19 => k_is); (case b19 => k_is); (case c19 => k_is); (case e19 => k_is)
  (case a20 => k_is); (case b20 => k_is); (case c20 => k_is); (case e20 => k_is)
  (case a21 => k_is); (case b21 => k_is); (case c21 => k_is); (case e21 => k_is)
  (case a22 => k_is); (case b22 => k_is); (case c22 => k_is); (case e22 => k_is)
  (case a23 => k_is); (case b23 => k_is); (case c23 => k_is); (case e23 => k_is)
  (case a24 => k_is); (case b24 => k_is); (case c24 => k_is); (case e24 => k_is)
  (case a25 => k_is); (case b25 => k_is); (case c25 => k_is); (case e25 => k_is)
  (case a26 => k_is); (case b26 => k_is); (case c26 => k_is); (case e26 => k_is)
  (case a27 => k_is); (case b27 => k_is); (case c27 => k_is); (case e27 => k_is)
  (case a28 => k_is); (case b28 => k_is); (case c28 => k_is); (case e28 => k_is)
  (case a29 => k_is); (case b29 => k_is); (case c29 => k_is); (case e29 => k_is)
  (case a30 => k_is); (case b30 => k_is); (case c30 => k_is); (case e30 => k_is)
  (case a31 => k_is); (case b31 => k_is); (case c31 => k_is); (case e31 => k_is)
  (case a32 => k_is); (case b32 => k_is); (case c32 => k_is); (case e32 => k_is)
  (case a33 => k_is); (case b33 => k_is); (case c33 => k_is); (case e33 => k_is)
  (case a34 => k_is); (case b34 => k_is); (case c34 => k_is); (case e34 => k_is)
  (case l1 => k_is)
  (case l2 => k_is)
  (case l3 => k_is)
  (case l4 => kernel_rfl)
  (case g1 => kernel_rfl)
  (case lo0 => k_is)
  (case eB => k_is)
  (case eL => k_is)
  (case eS => k_is)
  (case xB => kernel_rfl)
  (case xL => kernel_rfl)
  (case eTU => k_is)
  (case hTU => kernel_rfl)
  (case gaB => k_is)
  (case hoB => k_is)
  (case clB => k_is)
  (case gaL => k_is)
  (case hoL => k_is)
  (case clL => k_is)
