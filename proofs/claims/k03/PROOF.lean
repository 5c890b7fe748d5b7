import PyProof.Rows.All
import Wide.All
import OpenK.AllK
import Wide.FinOn
import Lean
import PyProof.EqAt
import PyProof.EqKinds
import PyProof.TupleCall
import PyProof.NeKinds
import PyProof.Rows.SortWalk
import PyProof.Rows.SortRuns
import KE.KMinKey
import PySem.Challenge.RW_unlikesteps_k03_steps_told
set_option Elab.async false
set_option linter.all false
set_option maxRecDepth 100000
namespace L2
open PySem PySem.Spec PyProof.Rows
abbrev Key := Sum Int Str
def keyIs : Key → Value → Bool
 | .inl k, v => Value.isInt k v
 | .inr x, v => Value.isStrOf x v
def keyH (w : World) : Key → Int
 | .inl k => hashInt k
 | .inr x => hashStr w x
theorem ZL : ∀ {k : Key} {v : Value}, keyIs k v = true → (∃ i t, k = Sum.inl i ∧ v = Value.int i t) ∨ (∃ x t, k = Sum.inr x ∧ v = Value.str x t)
 | .inl i, v, h => by
  obtain ⟨t, e⟩ := Value.isInt_shape (k := i) (v := v) h
  exact .inl ⟨i, t, rfl, e⟩
 | .inr x, v, h => by
  obtain ⟨t, e⟩ := Value.isStrOf_shape (x := x) (v := v) h
  exact .inr ⟨x, t, rfl, e⟩
theorem Zbf (i : Int) (t : Tok) : keyIs (.inl i) (.int i t) = true := by simp [keyIs, Value.isInt]
theorem Zbe (x : Str) (t : Tok) : keyIs (.inr x) (.str x t) = true := by simp [keyIs, Value.isStrOf]
theorem ZdG (a b : Int) : decide ((Sum.inl a : Key) = Sum.inl b) = (a == b) := by
 by_cases e : a = b
 ·subst e; simp
 ·have h : ¬ (Sum.inl a : Key) = Sum.inl b := fun q => e (Sum.inl.inj q)
  rw [decide_eq_false h]
  exact (beq_eq_false_iff_ne.mpr e).symm
theorem ZdD (a b : Str) : decide ((Sum.inr a : Key) = Sum.inr b) = decide (a = b) := by
 by_cases e : a = b
 ·subst e; simp
 ·have h : ¬ (Sum.inr a : Key) = Sum.inr b := fun q => e (Sum.inr.inj q)
  rw [decide_eq_false h, decide_eq_false e]
theorem ZdF (a : Int) (b : Str) : decide ((Sum.inl a : Key) = Sum.inr b) = false := decide_eq_false (fun q => nomatch q)
theorem ZdE (a : Str) (b : Int) : decide ((Sum.inr a : Key) = Sum.inl b) = false := decide_eq_false (fun q => nomatch q)
def mixKind (prog : Program) (w : World) : PySem.KeyKind prog w Key where
 is := keyIs
 hash := keyH w
 inj := fun v a b ha hb => by
  rcases ZL ha with ⟨i, t, rfl, rfl⟩ | ⟨x, t, rfl, rfl⟩
  ·rcases ZL hb with ⟨j, u, rfl, e⟩ | ⟨y, u, rfl, e⟩
   ·injection e with e1 _; rw [e1]
   ·exact nomatch e
  ·rcases ZL hb with ⟨j, u, rfl, e⟩ | ⟨y, u, rfl, e⟩
   ·exact nomatch e
   ·injection e with e1 _; rw [e1]
 byValue := fun k v h => by
  rcases ZL h with ⟨i, t, rfl, rfl⟩ | ⟨x, t, rfl, rfl⟩ <;> rfl
 pyHash := fun hv h => by
  rcases ZL hv with ⟨i, t, rfl, rfl⟩ | ⟨x, t, rfl, rfl⟩
  ·exact wpAny_pyHash_int h
  ·exact wpAny_pyHash_str h
 eqBool := fun hu hv h => by
  rcases ZL hu with ⟨i, t, rfl, rfl⟩ | ⟨x, t, rfl, rfl⟩
  ·rcases ZL hv with ⟨j, u, rfl, rfl⟩ | ⟨y, u, rfl, rfl⟩
   ·rw [ZdG] at h; exact wpAny_eqBool_int h
   ·rw [ZdF] at h; exact SeqAt.EqAt.int_str i t y u _ _ _ _ h
  ·rcases ZL hv with ⟨j, u, rfl, rfl⟩ | ⟨y, u, rfl, rfl⟩
   ·rw [ZdE] at h; exact SeqAt.EqAt.str_int x t j u _ _ _ _ h
   ·rw [ZdD] at h; exact wpAny_eqBool_str h
 «strs» := fun k x t v h => by
  rcases ZL h with ⟨i, u, rfl, e⟩ | ⟨y, u, rfl, e⟩
  ·exact nomatch e
  ·injection e with e1 _
   subst e1
   cases v <;> rfl
theorem UA (prog : Program) (w : World) (i : Int) (t : Tok) : (mixKind prog w).is (.inl i) (.int i t) = true := Zbf i t
theorem Uz (prog : Program) (w : World) (x : Str) (t : Tok) : (mixKind prog w).is (.inr x) (.str x t) = true := Zbe x t
end L2
namespace L2
open PySem PySem.Spec PyProof.Rows
inductive V where
 | non | bl (b : Bool) | int (i : Int) | str (x : Str) | byt (b : Array UInt8) | flt (b : UInt64) | ref (a : Addr) | ty (n : String)
 deriving DecidableEq
def RelV : V → Value → Prop
 | .non, u => u = Value.none
 | .bl b, u => u = Value.bool b
 | .int i, u => ∃ t, u = Value.int i t
 | .str x, u => ∃ t, u = Value.str x t
 | .byt b, u => ∃ t, u = Value.bytes b t
 | .flt b, u => ∃ t, u = Value.float b t
 | .ref a, u => u = Value.ref a
 | .ty n, u => u = Value.type n
abbrev Vals : List V → List Value → Prop := Paired RelV
theorem Vals.length {xs : List V} {us : List Value} (r : Vals xs us) : xs.length = us.length := Paired.length r
theorem Vals.get : ∀ {xs : List V} {us : List Value} {i : Nat} {x : V}, Vals xs us → xs[i]? = some x → ∃ u, us[i]? = some u ∧ RelV x u
 | _, _, _, _, .nil, e => by simp at e
 | _, _, 0, _, .cons r _, e => by simp at e; subst e; exact ⟨_, rfl, r⟩
 | _, _, i + 1, x, .cons _ t, e => by
  obtain ⟨u, h1, h2⟩ := Vals.get (i := i) (x := x) t (by simpa using e)
  exact ⟨u, by simpa using h1, h2⟩
theorem Vals.set {x : V} {u : Value} (r : RelV x u) : ∀ {xs : List V} {us : List Value} (i : Nat), Vals xs us → Vals (xs.set i x) (us.set i u)
 | _, _, _, .nil => .nil
 | _, _, 0, .cons _ t => .cons r t
 | _, _, i + 1, .cons q t => .cons q (Vals.set r i t)
theorem Vals.append : ∀ {xs ys : List V} {us ws : List Value}, Vals xs us → Vals ys ws → Vals (xs ++ ys) (us ++ ws)
 | _, _, _, _, .nil, s => s
 | _, _, _, _, .cons r t, s => .cons r (Vals.append t s)
theorem Vals.take : ∀ {xs : List V} {us : List Value} (n : Nat), Vals xs us → Vals (xs.take n) (us.take n)
 | _, _, 0, _ => .nil
 | _, _, _ + 1, .nil => .nil
 | _, _, n + 1, .cons r t => .cons r (Vals.take n t)
theorem Vals.drop : ∀ {xs : List V} {us : List Value} (n : Nat), Vals xs us → Vals (xs.drop n) (us.drop n)
 | _, _, 0, r => r
 | _, _, _ + 1, .nil => .nil
 | _, _, n + 1, .cons _ t => Vals.drop n t
def RelO : Option V → Option Value → Prop
 | some v, some u => RelV v u
 | none, none => True
 | _, _ => False
def KV {κ : Type} : List (κ × V) → List (κ × Value) → Prop := Paired fun (p : κ × V) (q : κ × Value) => p.1 = q.1 ∧ RelV p.2 q.2
def kV : Key → V
 | .inl i => .int i
 | .inr x => .str x
inductive HO where
  | lst (xs : List V)
  | tup (xs : List V)
  | par (xs : List V)
  | dK (kvs : List (Key × V)) | dT (kvs : List (List Key × V))
  | set (S : Int → Bool) (n : Nat)
  | ins (C dx : Addr) (fs : List (Str × V))
  | own (x : Addr)
  | xd (fs : List (Str × V))
  | met (f x : Addr)
  | rng (lo hi : Int)
  | frz (o : Obj) (u : HO)
  | tbl (ps : Array Value)
  | ext (φ : Heap → Prop)
abbrev Hp := Addr → Option HO
def upd (H : Hp) (a : Addr) (o : HO) : Hp := fun b => if b = a then some o else H b
theorem Zb {H : Hp} {a : Addr} {o : HO} : upd H a o a = some o := by unfold upd; rw [if_pos rfl]
theorem Zf {H : Hp} {a b : Addr} {o : HO} (h : b ≠ a) : upd H a o b = H b := by unfold upd; rw [if_neg h]
theorem Yl {H : Hp} {a b : Addr} {o u : HO} (h : H a = some o) (h' : H b = some u) (d : o ≠ u) : a ≠ b := by
 intro e; subst e; rw [h] at h'; exact d (Option.some.inj h')
theorem Zd {H : Hp} {a b : Addr} {o : HO} (h : H a = some o) (h' : H b = none) : a ≠ b := by
 intro e; subst e; rw [h] at h'; cases h'
section
variable (P : Program) (w : World)
def ObjOk (H : Hp) (h : Heap) (a : Addr) : HO → Prop
 | .lst xs => xs.length ≤ sizeLine ∧ ∃ (its : List Value) (n : Nat), Vals xs its ∧ h.get? a = some { cls := .type "list", data := .seq its.toArray n }
 | .tup xs => xs.length ≤ sizeLine ∧ ∃ its : List Value, Vals xs its ∧ IsTup h a its.toArray ∧ ∃ o, h.get? a = some o ∧ o.dict = none
 | .par xs => xs.length ≤ sizeLine ∧ ∃ its : List Value, Vals xs its ∧ IsTup h a its.toArray
 | .dK kvs => kvs.length ≤ sizeLine ∧ (a == sysModules) = false ∧ ∃ vs, KV kvs vs ∧ h.DictOf (mixKind P w) a vs
 | .dT kvs => kvs.length ≤ sizeLine ∧ (a == sysModules) = false ∧ ∃ xs : List (List Key × Addr × Value),
   Paired (fun (p : List Key × V) (q : List Key × Addr × Value) => p.1 = q.1 ∧ H q.2.1 = some (.tup (p.1.map kV)) ∧ RelV p.2 q.2.2) kvs xs ∧
   ∃ o es ep, h.get? a = some o ∧ o.ExactDict ∧ o.data = .dict es ep ∧ es.toList = xs.map (entryOfKey (tupleKind (mixKind P w))) ∧ (xs.map (·.1)).Nodup
 | .set S n => h.SetOf (intKind P w) a S n
 | .ins C dx fs => H dx = some (.own a) ∧ fs.length ≤ 1000 ∧ dx ≠ a ∧ h.get? a = some (PySem.W.instObj C dx) ∧
   ∃ mA, h.Ns1 dx mA ∧ (∀ f, RelO (fs.lookup f) (mA f)) ∧ PySem.Within mA (fs.map (·.1))
 | .own _ => ∃ o, h.get? a = some o
 | .xd fs => ∃ mA, h.Ns1 a mA ∧ ∀ f, RelO (fs.lookup f) (mA f)
 | .rng lo hi => ∃ t u v, h.get? a = some { cls := .type "range", data := .fields #[.int lo t, .int hi u, .int 1 v] }
 | .frz o u => h.get? a = some o ∧ ObjOk H h a u
 | .tbl ps => h.get? a = some { cls := .none, data := .fields ps }
 | .met f x => h.get? a = some (PySem.W.methodObj (.ref f) (.ref x))
 | .ext φ => φ h ∧ (∃ o, h.get? a = some o) ∧ ∀ h1 h2 : Heap, φ h1 → (∀ o, h1.get? a = some o → h2.get? a = some o) → φ h2
def HOk (H : Hp) (h : Heap) : Prop := ∀ a o, H a = some o → ObjOk P w H h a o
end
section
variable {P : Program} {w : World} {H H' : Hp} {h h' : Heap} {a : Addr} {o : HO}
theorem ObjOk.lt (x : ObjOk P w H h a o) : a < h.objs.size := by
 cases o with
 | lst xs => obtain ⟨_, _, _, _, e⟩ := x; exact Heap.lt_size e
 | tup xs => obtain ⟨_, _, _, p, _⟩ := x; exact p.lt
 | par xs => obtain ⟨_, _, _, p⟩ := x; exact p.lt
 | dK kvs => obtain ⟨_, _, _, _, o, _, _, e, _⟩ := x; exact Heap.lt_size e
 | dT kvs => obtain ⟨_, _, _, _, o, _, _, e, _⟩ := x; exact Heap.lt_size e
 | set S n => obtain ⟨o, _, _, _, e, _⟩ := x; exact Heap.lt_size e
 | ins C dx fs => obtain ⟨_, _, _, e, _⟩ := x; exact Heap.lt_size e
 | own y => obtain ⟨_, e⟩ := x; exact Heap.lt_size e
 | xd fs => obtain ⟨_, ⟨_, _, _, e, _⟩, _⟩ := x; exact Heap.lt_size e
 | rng lo hi => obtain ⟨_, _, _, e⟩ := x; exact Heap.lt_size e
 | frz ob u => obtain ⟨e, _⟩ := x; exact Heap.lt_size e
 | tbl ps => exact Heap.lt_size (show h.get? a = some _ from x)
 | met f y => exact Heap.lt_size (show h.get? a = some _ from x)
 | ext φ => obtain ⟨_, ⟨_, e⟩, _⟩ := x; exact Heap.lt_size e
theorem Paired.mapP {α β : Type} {F G : α → β → Prop} : ∀ {l₁ : List α} {l₂ : List β}, Paired F l₁ l₂ → (∀ a b, F a b → G a b) → Paired G l₁ l₂
 | _, _, .nil, _ => .nil
 | _, _, .cons r t, f => .cons (f _ _ r) (Paired.mapP t f)
theorem ObjOk.stay (x : ObjOk P w H h a o) (k : ∀ b u, (b = a ∨ H b = some (.own a)) → h.get? b = some u → h'.get? b = some u)
  (ho : ∀ b, H b = some (.own a) → H' b = some (.own a)) (ht : ∀ b xs, H b = some (.tup xs) → H' b = some (.tup xs)) : ObjOk P w H' h' a o := by
 induction o with
 | lst xs => obtain ⟨z, its, n, r, e⟩ := x; exact ⟨z, its, n, r, k _ _ (.inl rfl) e⟩
 | tup xs => obtain ⟨z, its, r, ⟨ob, e, c⟩, o2, e2, c2⟩ := x; exact ⟨z, its, r, ⟨ob, k _ _ (.inl rfl) e, c⟩, o2, k _ _ (.inl rfl) e2, c2⟩
 | par xs => obtain ⟨z, its, r, ob, e, c⟩ := x; exact ⟨z, its, r, ob, k _ _ (.inl rfl) e, c⟩
 | dK kvs => obtain ⟨z, y, vs, r, ob, es, ep, e, c⟩ := x; exact ⟨z, y, vs, r, ob, es, ep, k _ _ (.inl rfl) e, c⟩
 | dT kvs =>
  obtain ⟨z, y, xs, r, ob, es, ep, e, c⟩ := x
  exact ⟨z, y, xs, Paired.mapP r fun p q z => ⟨z.1, ht _ _ z.2.1, z.2.2⟩, ob, es, ep, k _ _ (.inl rfl) e, c⟩
 | set S n => obtain ⟨ob, es, ep, t, e, c⟩ := x; exact ⟨ob, es, ep, t, k _ _ (.inl rfl) e, c⟩
 | ins C dx fs =>
  obtain ⟨d, z, ne, e, mA, ⟨od, es, ep, e2, c⟩, r⟩ := x
  exact ⟨ho _ d, z, ne, k _ _ (.inl rfl) e, mA, ⟨od, es, ep, k _ _ (.inr d) e2, c⟩, r⟩
 | own y => obtain ⟨ob, e⟩ := x; exact ⟨ob, k _ _ (.inl rfl) e⟩
 | xd fs => obtain ⟨mA, ⟨od, es, ep, e, c⟩, r⟩ := x; exact ⟨mA, ⟨od, es, ep, k _ _ (.inl rfl) e, c⟩, r⟩
 | rng lo hi => obtain ⟨t, u, v, e⟩ := x; exact ⟨t, u, v, k _ _ (.inl rfl) e⟩
 | frz ob u ih => obtain ⟨e, q⟩ := x; exact ⟨k _ _ (.inl rfl) e, ih q⟩
 | tbl ps =>
  have e : h.get? a = some { cls := .none, data := .fields ps } := x
  show h'.get? a = some { cls := .none, data := .fields ps }
  exact k a _ (.inl rfl) e
 | met f y =>
  have e : h.get? a = some (PySem.W.methodObj (.ref f) (.ref y)) := x
  show h'.get? a = some (PySem.W.methodObj (.ref f) (.ref y))
  exact k a _ (.inl rfl) e
 | ext φ => obtain ⟨p, ⟨o, e⟩, st⟩ := x; exact ⟨st _ _ p fun o q => k _ _ (.inl rfl) q, ⟨o, k _ _ (.inl rfl) e⟩, st⟩
theorem HOk.lt (x : HOk P w H h) (e : H a = some o) : a < h.objs.size := (x a o e).lt
theorem HOk.fresh (x : HOk P w H h) (e : h.objs.size ≤ a) : H a = none := by
 cases q : H a with
 | none => rfl
 | some u => exact absurd (Nat.lt_of_lt_of_le (x.lt q) e) (Nat.lt_irrefl _)
theorem HOk.kept (x : HOk P w H h) (k : ∀ b u, h.get? b = some u → h'.get? b = some u) : HOk P w H h' := fun a o e =>
 (x a o e).stay (fun b u _ q => k b u q) (fun _ q => q) fun _ _ q => q
theorem HOk.laid (x : HOk P w H h) (k : ∀ b u, h.get? b = some u → h'.get? b = some u) (hp : h.objs.size ≤ a) (new : ObjOk P w (upd H a o) h' a o) : HOk P w (upd H a o) h' := fun b u e => by
 have hn := x.fresh hp
 by_cases hb : b = a
 ·subst hb; rw [Zb] at e; cases e; exact new
 ·rw [Zf hb] at e
  exact (x b u e).stay (fun c v _ q => k c v q) (fun c q => by rw [Zf (Zd q hn)]; exact q) fun c xs q => by rw [Zf (Zd q hn)]; exact q
end
def Rd (H : Hp) (a : Addr) (u : HO) : Prop := H a = some u ∨ ∃ o, H a = some (.frz o u)
theorem Rd.ok {P : Program} {w : World} {H : Hp} {h : Heap} {a : Addr} {u : HO} (r : Rd H a u) (x : HOk P w H h) : ObjOk P w H h a u := by
 rcases r with r | ⟨o, r⟩
 ·exact x a u r
 ·obtain ⟨_, q⟩ := x a _ r
  exact q
def Mut : Option HO → Prop
 | some (.lst _) => True
 | some (.dK _) => True
 | some (.dT _) => True
 | some (.set _ _) => True
 | some (.ins _ _ _) => True
 | some (.ext _) => True
 | _ => False
section
variable {P : Program} {w : World} {H : Hp} {h h' : Heap} {x e : Addr} {o' : HO}
theorem HOk.write (ok : HOk P w H h) (mu : Mut (H x)) (he : e = x ∨ H e = some (.own x)) (k : ∀ b u, b ≠ e → h.get? b = some u → h'.get? b = some u) (heo : ∃ u, h'.get? e = some u)
  (new : ObjOk P w (upd H x o') h' x o') : HOk P w (upd H x o') h' := fun b u q => by
 have nown : ∀ c y, H c = some (.own y) → c ≠ x := fun c y r z => by subst z; rw [r] at mu; exact mu
 have ntup : ∀ c xs, H c = some (.tup xs) → c ≠ x := fun c xs r z => by subst z; rw [r] at mu; exact mu
 by_cases hb : b = x
 ·subst hb; rw [Zb] at q; cases q; exact new
 ·rw [Zf hb] at q
  by_cases hbe : b = e
  ·have q' : H b = some (.own x) := by
    rcases he with z | z
    ·exact absurd (hbe.trans z) hb
    ·rw [hbe]; exact z
   rw [q] at q'; cases q'
   obtain ⟨v, hv⟩ := heo
   exact ⟨v, by rw [hbe]; exact hv⟩
  ·refine (ok b u q).stay (fun c v hc r => k c v ?_ r) (fun c r => by rw [Zf (nown c b r)]; exact r) fun c xs r => by rw [Zf (ntup c xs r)]; exact r
   rcases hc with rfl | hc
   ·exact hbe
   ·rintro rfl
    rcases he with z | z
    ·exact nown c b hc z
    ·rw [hc] at z; cases z; exact hb rfl
end
structure Un (fs ex : List Addr) (H H' : Hp) (h h' : Heap) : Prop where
 keep : ∀ b o, h.get? b = some o → H b = none → b ∉ fs → b ∉ ex → h'.get? b = some o
 slot : ∀ b o, h.get? b = some o → H b = none → b ∈ fs → b ∉ ex → ∃ sl, h'.get? b = some { o with slots := sl }
 free : ∀ b o, h.get? b = some o → H b = none → b ∉ ex → H' b = none
 there : ∀ b o, h.get? b = some o → b ∉ ex → ∃ o', h'.get? b = some o'
 tups : ∀ b xs, H b = some (.tup xs) → H' b = some (.tup xs)
 frzs : ∀ b o u, H b = some (.frz o u) → H' b = some (.frz o u)
 tbls : ∀ b ps, H b = some (.tbl ps) → ∃ more, H' b = some (.tbl (ps ++ more))
section
variable {fs fs' ex ex' : List Addr} {H H1 H2 : Hp} {h h1 h2 h' : Heap} {a x e : Addr} {o : HO}
theorem Un.any (u : Un fs ex H H1 h h1) {b : Addr} {ob : Obj} (q : h.get? b = some ob) (n : H b = none) (hx : b ∉ ex) : ∃ sl, h1.get? b = some { ob with slots := sl } := by
 by_cases hb : b ∈ fs
 ·exact u.slot b ob q n hb hx
 ·exact ⟨ob.slots, u.keep b ob q n hb hx⟩
theorem Un.kept (k : ∀ b u, h.get? b = some u → h'.get? b = some u) : Un fs ex H H h h' :=
 ⟨fun b ob q _ _ _ => k b ob q, fun b ob q _ _ _ => ⟨ob.slots, k b ob q⟩, fun _ _ _ n _ => n, fun b ob q _ => ⟨ob, k b ob q⟩, fun _ _ q => q, fun _ _ _ q => q, fun _ ps q => ⟨#[], by rw [q]; simp⟩⟩
theorem Un.refl : Un fs ex H H h h := Un.kept fun _ _ q => q
theorem Un.laid (k : ∀ b u, h.get? b = some u → h'.get? b = some u) (hp : h.objs.size ≤ a) (hn : H a = none) : Un fs ex H (upd H a o) h h' where
 keep := fun b u q _ _ _ => k b u q
 slot := fun b u q _ _ _ => ⟨u.slots, k b u q⟩
 free := fun b u q n _ => by rw [Zf (Nat.ne_of_lt (Nat.lt_of_lt_of_le (Heap.lt_size q) hp))]; exact n
 there := fun b u q _ => ⟨u, k b u q⟩
 tups := fun b xs q => by rw [Zf (Zd q hn)]; exact q
 frzs := fun b u xs q => by rw [Zf (Zd q hn)]; exact q
 tbls := fun b ps q => ⟨#[], by rw [Zf (Zd q hn), q]; simp⟩
theorem Un.write (mu : Mut (H x)) (he : e = x ∨ H e = some (.own x)) (k : ∀ b u, b ≠ e → h.get? b = some u → h'.get? b = some u) (heo : ∃ u, h'.get? e = some u) : Un fs ex H (upd H x o) h h' := by
 have hx : ∀ b, H b = none → b ≠ x := fun b n z => by subst z; rw [n] at mu; exact mu
 have hb : ∀ b, H b = none → b ≠ e := fun b n z => by
  subst z
  rcases he with r | r
  ·exact hx b n r
  ·rw [n] at r; cases r
 have hm : ∀ b u, H b = some u → ¬ Mut (some u) → b ≠ x := fun b u q nm z => by subst z; rw [q] at mu; exact nm mu
 refine ⟨fun b u q n _ _ => k b u (hb b n) q, fun b u q n _ _ => ⟨u.slots, k b u (hb b n) q⟩, fun b u q n _ => by rw [Zf (hx b n)]; exact n, fun b u q _ => ?_,
  fun b xs q => by rw [Zf (hm b _ q fun z => z)]; exact q, fun b u xs q => by rw [Zf (hm b _ q fun z => z)]; exact q, fun b ps q => ⟨#[], by rw [Zf (hm b _ q fun z => z), q]; simp⟩⟩
 by_cases hbe : b = e
 ·subst hbe; exact heo
 ·exact ⟨u, k b u hbe q⟩
end
def trk (h : Heap) (H : Hp) : List Addr := (List.range h.objs.size).filter fun a => (H a).isSome
def hidT (h : Heap) (H : Hp) : Heap := PySem.W.hideAll h (trk h H)
theorem WP (h : Heap) (H : Hp) : (hidT h H).objs.size = h.objs.size := PySem.W.hideAll_size _ _
theorem UJ {h : Heap} {H : Hp} {b : Addr} {o : Obj} (e : h.get? b = some o) (n : H b = none) : (hidT h H).get? b = some o :=
 PySem.W.hideAll_get _ e fun hm => by
  have q : (H b).isSome = true := (List.mem_filter.mp hm).2
  rw [n] at q; simp at q
theorem Zaz {h : Heap} {H : Hp} {b : Addr} {o : Obj} (e : (hidT h H).get? b = some o) : h.get? b = some o ∧ H b = none := by
 have e' : h.get? b = some o := PySem.W.of_hideAll (trk h H) e
 refine ⟨e', ?_⟩
 cases q : H b with
 | none => rfl
 | some x =>
  have hm : b ∈ trk h H := List.mem_filter.mpr ⟨List.mem_range.mpr (Heap.lt_size e'), by simp [q]⟩
  have z : (hidT h H).get? b = none := PySem.W.hideAll_none (trk h H) hm
  rw [z] at e; cases e
def allNews (g h : Heap) (L : Addr) : List (Addr × Obj) := (List.range h.objs.size).filterMap fun a => if a = L ∨ (g.get? a).isSome = true then none else (h.get? a).map fun o => (a, o)
def rest (g h : Heap) (L d : Addr) : List (Addr × Obj) := (allNews g h L).filter fun p => decide (p.1 ≠ d)
end L2
namespace L2
open PySem PySem.Spec PyProof.Rows
structure Mod (K : PySem.W.Frag) (mg : Str → Option Value) (base : Heap) : Prop where
 kin : K.In base
 glob : base.Ns mainGlobals mg
 blt : ∃ mb, base.Ns builtinsNs mb ∧ ∀ x : Str, x ≠ "__name__" → mb x = bootBuiltins x
 nolimit : base.NoLimit
structure Cx where
 prog : Program
 w : World
 K : PySem.W.Frag
 mg : Str → Option Value
 base : Heap
 A : Around
 N : List Str
 s₀ : Shared
 H₀ : Hp
 env : Env
 outer : List Env
 stack : List Env
 ex : List Addr
 fn : Str → Bool
 calm : Bool
 pn : List (Addr × Obj)
 xe : Value → Shared → Prop
def frs (l : List Env) : List Addr := l.filterMap (·.frame)
abbrev Cx.fs (X : Cx) : List Addr := frs X.outer
def Vis (sc : Scope) (x : Str) : Prop := sc.names.lookup x = some .local ∨ sc.names.lookup x = some .cell ∨ sc.names.lookup x = some .free
def Loc (sc : Scope) (x : Str) : Prop := sc.names.lookup x = some .local ∨ sc.names.lookup x = some .cell
def Look (env : Env) (h : Heap) (m : Str → Option Value) (x : Str) (u : Value) : Prop :=
 (env.kindOf x = some .local ∧ m x = some u) ∨ ((env.kindOf x = some .cell ∨ env.kindOf x = some .free) ∧ ∃ c, env.cells.lookup x = some c ∧ h.IsCell c (some u))
structure Cx.Ok (X : Cx) : Prop where
 mod : Mod X.K X.mg X.base
 kind : X.env.scope.kind = .function
 glob : X.env.globals = mainGlobals
 blt : X.env.builtins = builtinsNs
 above : X.s₀.heap.objs.size ≤ X.env.locals
 inj : ∀ x y c, X.env.cells.lookup x = some c → X.env.cells.lookup y = some c → x = y
 has : ∀ x, (X.env.kindOf x = some .cell ∨ X.env.kindOf x = some .free) → ∃ c, X.env.cells.lookup x = some c
 cab : ∀ x c, X.fn x = true → X.env.cells.lookup x = some c → X.s₀.heap.objs.size ≤ c
 hd : X.calm = true → X.A.handled = none
 frames : X.A.frames = some X.stack
 stk : X.stack = X.outer ∨ (X.stack = X.env :: X.outer ∧ X.env.frame = some X.env.locals)
 exf : ∀ b ∈ X.ex, b ≠ X.env.locals ∧ ∀ x c, X.env.cells.lookup x = some c → c ≠ b
 bs : ∀ b o, X.base.get? b = some o → X.s₀.heap.get? b = some o ∧ X.H₀ b = none
 bsz : X.base.objs.size ≤ X.s₀.heap.objs.size
 noex : ∀ b o, X.base.get? b = some o → b ∉ X.ex
 exfs : ∀ b ∈ X.ex, b ∉ X.fs
 funs : X.s₀.heap.FunFrames X.base X.outer
 frf : ∀ b ∈ X.fs, X.H₀ b = none
structure Inv (X : Cx) (pins : List (Addr × Obj)) (σ : List (Option V)) (H : Hp) (s : Shared) : Prop where
 ok : X.Ok
 os : s.os = X.s₀.os
 bare : AllBare s.gens
 base : Un X.fs X.ex X.H₀ H X.s₀.heap s.heap
 loc : ∃ m, s.heap.Ns X.env.locals m ∧ ∀ (i : Nat) (x : Str) (v : V), X.N[i]? = some x → σ[i]? = some (some v) → Vis X.env.scope x → ∃ u, RelV v u ∧ Look X.env s.heap m x u
 cell : ∀ x c, X.env.cells.lookup x = some c → ∃ v, s.heap.IsCell c v
 free : H X.env.locals = none
 freeC : ∀ x c, X.env.cells.lookup x = some c → H c = none
 pin : ∀ p ∈ X.pn ++ pins, s.heap.get? p.1 = some p.2 ∧ H p.1 = none ∧ p.1 ≠ X.env.locals ∧ p.1 ∉ X.fs ∧ ∀ v, p.2.data ≠ .cell v
 hok : HOk X.prog X.w H s.heap
 len : σ.length = X.N.length
section
variable {X : Cx} {pins : List (Addr × Obj)} {σ : List (Option V)} {H H' : Hp} {s : Shared} {h' : Heap}
theorem Cx.Ok.nofr (ok : X.Ok) {b : Addr} {o : Obj} (e : X.base.get? b = some o) : b ∉ X.fs := fun hb => by
 have := (ok.funs.mem hb).1
 rw [e] at this; cases this
theorem Inv.bs (I : Inv X pins σ H s) : ∀ b o, X.base.get? b = some o → s.heap.get? b = some o ∧ H b = none := fun b o e =>
 ⟨I.base.keep b o (I.ok.bs b o e).1 (I.ok.bs b o e).2 (I.ok.nofr e) (I.ok.noex b o e), I.base.free b o (I.ok.bs b o e).1 (I.ok.bs b o e).2 (I.ok.noex b o e)⟩
theorem Inv.bk (I : Inv X pins σ H s) : ∀ b o, X.base.get? b = some o → s.heap.get? b = some o := fun b o e => (I.bs b o e).1
theorem Inv.mod (I : Inv X pins σ H s) : Mod X.K X.mg X.base := I.ok.mod
theorem Inv.kIn (I : Inv X pins σ H s) : X.K.In s.heap := I.ok.mod.kin.keeps I.bk
theorem Inv.lt (I : Inv X pins σ H s) : X.env.locals < s.heap.objs.size := let ⟨_, hn, _⟩ := I.loc; hn.lt
theorem Inv.sz (I : Inv X pins σ H s) : X.s₀.heap.objs.size ≤ s.heap.objs.size := Nat.le_trans I.ok.above (Nat.le_of_lt I.lt)
theorem Inv.nofs (I : Inv X pins σ H s) {a : Addr} (h : s.heap.objs.size ≤ a) : a ∉ X.fs := fun hb => by
 obtain ⟨_, o, ho, _⟩ := I.ok.funs.mem hb
 exact absurd (Nat.lt_of_lt_of_le (Heap.lt_size ho) (Nat.le_trans I.sz h)) (Nat.lt_irrefl _)
theorem Inv.cne (I : Inv X pins σ H s) : ∀ x c, X.env.cells.lookup x = some c → c ≠ X.env.locals := fun x c e z => by
 obtain ⟨v, o, ho, hd⟩ := I.cell x c e
 obtain ⟨m, ⟨o', es, ep, ho', hd', _⟩, _⟩ := I.loc
 rw [z, ho'] at ho; cases ho; rw [hd'] at hd; cases hd
theorem Inv.funs (I : Inv X pins σ H s) : s.heap.FunFrames X.base X.outer := by
 have all : ∀ (l : List Env), (∀ b ∈ frs l, b ∈ X.fs) → X.s₀.heap.FunFrames X.base l → s.heap.FunFrames X.base l := by
  intro l
  induction l with
  | nil => intro _ _; trivial
  | cons env r ih =>
   intro hs hl
   obtain ⟨hk, ⟨L, o, hf, hn, ho, hd⟩, hr⟩ := hl
   have hL : L ∈ X.fs := hs L (by unfold frs; rw [List.filterMap_cons, hf]; exact List.mem_cons_self)
   obtain ⟨sl, e⟩ := I.base.slot L o ho (I.ok.frf L hL) hL fun z => I.ok.exfs L z hL
   exact ⟨hk, ⟨L, _, hf, hn, e, hd⟩, ih (fun b hb => hs b (by unfold frs; rw [List.filterMap_cons, hf]; exact List.mem_cons_of_mem _ hb)) hr⟩
 exact all X.outer (fun _ hb => hb) I.ok.funs
theorem Inv.stack (I : Inv X pins σ H s) : s.heap.FunFrames X.base X.stack := by
 rcases I.ok.stk with e | ⟨e, hf⟩
 ·rw [e]; exact I.funs
 ·rw [e]
  obtain ⟨m, hn, _⟩ := I.loc
  refine .cons (by rw [I.ok.kind]; decide) hf hn ?_ I.funs
  exact Heap.get?_none_of_le (Nat.le_trans I.ok.bsz I.ok.above)
theorem Inv.stkSub (I : Inv X pins σ H s) : ∀ b ∈ frs X.stack, b ∈ X.env.locals :: X.fs := fun b hb => by
 rcases I.ok.stk with e | ⟨e, hf⟩
 ·rw [e] at hb; exact List.mem_cons_of_mem _ hb
 ·rw [e] at hb
  unfold frs at hb
  rw [List.filterMap_cons, hf] at hb
  exact hb
theorem Inv.stkFree (I : Inv X pins σ H s) : ∀ b ∈ frs X.stack, H b = none := fun b hb => by
 rcases List.mem_cons.mp (I.stkSub b hb) with e | hb
 ·rw [e]; exact I.free
 ·obtain ⟨_, o, ho, _⟩ := I.ok.funs.mem hb
  exact I.base.free b o ho (I.ok.frf b hb) fun z => I.ok.exfs b z hb
theorem Inv.step {g' : Array GenState} {t' : Nat} {d' : Drawn} {ch : List Addr} (I : Inv X pins σ H s)
  (hch : ∀ b ∈ ch, (b ∈ X.ex ∨ X.s₀.heap.objs.size ≤ b) ∧ b ≠ X.env.locals ∧ (∀ x c, X.env.cells.lookup x = some c → c ≠ b) ∧ ∀ p ∈ X.pn ++ pins, p.1 ≠ b)
  (keep : ∀ b o, b ≠ X.env.locals → b ∉ X.fs → b ∉ ch → s.heap.get? b = some o → H b = none → h'.get? b = some o)
  (slot : ∀ b o, b ≠ X.env.locals → b ∈ X.fs → b ∉ ch → s.heap.get? b = some o → H b = none → ∃ sl, h'.get? b = some { o with slots := sl }) (free : ∀ b o, b ∉ ch → s.heap.get? b = some o → H b = none → H' b = none)
  (there : ∀ b o, b ∉ ch → s.heap.get? b = some o → ∃ o', h'.get? b = some o')
  (tups : ∀ b xs, H b = some (.tup xs) → H' b = some (.tup xs)) (frzs : ∀ b o u, H b = some (.frz o u) → H' b = some (.frz o u)) (tbls : ∀ b ps, H b = some (.tbl ps) → ∃ more, H' b = some (.tbl (ps ++ more)))
  (ns : ∀ m, s.heap.Ns X.env.locals m → h'.Ns X.env.locals m) (hok : HOk X.prog X.w H' h') (hg : AllBare g') :
  Inv X pins σ H' { s with heap := h', gens := g', drawn := d', toks := t' } := by
 have neL : ∀ b o, X.s₀.heap.get? b = some o → b ≠ X.env.locals := fun b o e => Nat.ne_of_lt (Nat.lt_of_lt_of_le (Heap.lt_size e) I.ok.above)
 have neC : ∀ b o, X.s₀.heap.get? b = some o → b ∉ X.ex → b ∉ ch := fun b o e hx hb => by
  rcases (hch b hb).1 with z | z
  ·exact hx z
  ·exact absurd (Nat.lt_of_lt_of_le (Heap.lt_size e) z) (Nat.lt_irrefl _)
 have cellK : ∀ x c, X.env.cells.lookup x = some c → ∀ v, s.heap.IsCell c v → h'.IsCell c v := fun x c e v ⟨o, ho, hd⟩ => by
  have nch : c ∉ ch := fun z => (hch c z).2.2.1 x c e rfl
  by_cases hc : c ∈ X.fs
  ·obtain ⟨sl, q⟩ := slot c o (I.cne x c e) hc nch ho (I.freeC x c e)
   exact ⟨_, q, hd⟩
  ·exact ⟨o, keep c o (I.cne x c e) hc nch ho (I.freeC x c e), hd⟩
 refine ⟨I.ok, I.os, hg, ⟨fun b o e n hb hx => ?_, fun b o e n hb hx => ?_, fun b o e n hx => ?_, fun b o e hx => ?_, fun b xs e => tups b xs (I.base.tups b xs e), fun b o xs e => frzs b o xs (I.base.frzs b o xs e), fun b ps e => ?_⟩, ?_, fun x c e => ?_, ?_, fun x c e => ?_, fun p hp => ?_, hok, I.len⟩
 ·exact keep b o (neL b o e) hb (neC b o e hx) (I.base.keep b o e n hb hx) (I.base.free b o e n hx)
 ·obtain ⟨sl, e1⟩ := I.base.slot b o e n hb hx
  obtain ⟨sl', e2⟩ := slot b _ (neL b o e) hb (neC b o e hx) e1 (I.base.free b o e n hx)
  exact ⟨sl', e2⟩
 ·obtain ⟨o', e1⟩ := I.base.there b o e hx
  exact free b o' (neC b o e hx) e1 (I.base.free b o e n hx)
 ·obtain ⟨o', e1⟩ := I.base.there b o e hx
  exact there b o' (neC b o e hx) e1
 ·obtain ⟨m1, e1⟩ := I.base.tbls b ps e
  obtain ⟨m2, e2⟩ := tbls b _ e1
  exact ⟨m1 ++ m2, by rw [e2, Array.append_assoc]⟩
 ·obtain ⟨m, hn, hl⟩ := I.loc
  refine ⟨m, ns m hn, fun i x v e1 e2 e3 => ?_⟩
  obtain ⟨u, r, l⟩ := hl i x v e1 e2 e3
  refine ⟨u, r, ?_⟩
  rcases l with l | ⟨k, c, e, z⟩
  ·exact .inl l
  ·exact .inr ⟨k, c, e, cellK x c e _ z⟩
 ·obtain ⟨v, z⟩ := I.cell x c e
  exact ⟨v, cellK x c e v z⟩
 ·obtain ⟨m, ⟨o, _, _, ho, _⟩, _⟩ := I.loc
  exact free _ o (fun z => (hch _ z).2.1 rfl) ho I.free
 ·obtain ⟨v, o, ho, hd⟩ := I.cell x c e
  exact free c o (fun z => (hch c z).2.2.1 x c e rfl) ho (I.freeC x c e)
 ·obtain ⟨e, n, ne, nf, d⟩ := I.pin p hp
  have nch : p.1 ∉ ch := fun z => (hch p.1 z).2.2.2 p hp rfl
  exact ⟨keep p.1 p.2 ne nf nch e n, free p.1 p.2 nch e n, ne, nf, d⟩
theorem Inv.un {t' : Nat} (I : Inv X pins σ H s) (u : Un X.fs [] H H' s.heap h') (hok : HOk X.prog X.w H' h') : Inv X pins σ H' { s with heap := h', toks := t' } := by
 obtain ⟨m, ⟨o, es, ep, ho, r⟩, _⟩ := id I.loc
 obtain ⟨sl, hL⟩ := u.any ho I.free (by simp)
 exact I.step (g' := s.gens) (d' := s.drawn) (ch := []) (fun _ z => nomatch z) (fun b o _ hb _ e n => u.keep b o e n hb (by simp)) (fun b o _ hb _ e n => u.slot b o e n hb (by simp)) (fun b o _ e n => u.free b o e n (by simp)) (fun b o _ e => u.there b o e (by simp)) u.tups u.frzs u.tbls (fun m' hm => by
  obtain ⟨o', es', ep', ho', r'⟩ := hm
  rw [ho] at ho'; cases ho'
  exact ⟨_, es', ep', hL, r'⟩) hok I.bare
theorem Inv.call {g' : Array GenState} {t' : Nat} {d' : Drawn} {ch : List Addr} (I : Inv X pins σ H s) (u : Un (frs X.stack) ch H H' s.heap h') (hok : HOk X.prog X.w H' h') (hg : AllBare g')
  (hch : ∀ b ∈ ch, (b ∈ X.ex ∨ X.s₀.heap.objs.size ≤ b) ∧ b ≠ X.env.locals ∧ (∀ x c, X.env.cells.lookup x = some c → c ≠ b) ∧ ∀ p ∈ X.pn ++ pins, p.1 ≠ b) :
  Inv X pins σ H' { s with heap := h', gens := g', drawn := d', toks := t' } := by
 obtain ⟨m, ⟨o, es, ep, ho, r⟩, _⟩ := id I.loc
 obtain ⟨sl, hL⟩ := u.any ho I.free fun z => (hch _ z).2.1 rfl
 exact I.step (ch := ch) hch (fun b o hL hb hc e n => u.keep b o e n (fun z => (List.mem_cons.mp (I.stkSub b z)).elim hL hb) hc) (fun b o _ _ hc e n => u.any e n hc) (fun b o hc e n => u.free b o e n hc) (fun b o hc e => u.there b o e hc) u.tups u.frzs u.tbls (fun m' hm => by
  obtain ⟨o', es', ep', ho', r'⟩ := hm
  rw [ho] at ho'; cases ho'
  exact ⟨_, es', ep', hL, r'⟩) hok hg
theorem Inv.turned {t' : Nat} {it : Addr} (I : Inv X pins σ H s) (k : ∀ b o, b ≠ it → s.heap.get? b = some o → h'.get? b = some o) (hn : H it = none) (hL : it ≠ X.env.locals)
  (h1 : it ∈ X.ex ∨ X.s₀.heap.objs.size ≤ it) (h2 : ∀ x c, X.env.cells.lookup x = some c → c ≠ it) (h3 : ∀ p ∈ X.pn ++ pins, p.1 ≠ it) : Inv X pins σ H { s with heap := h', toks := t' } := by
 have nit : ∀ b u, H b = some u → b ≠ it := fun b u e z => by rw [z, hn] at e; cases e
 refine I.step (g' := s.gens) (d' := s.drawn) (ch := [it]) (fun b hb => ?_) (fun b o _ _ hc e _ => k b o (fun z => hc (by simp [z])) e) (fun b o _ _ hc e _ => ⟨o.slots, k b o (fun z => hc (by simp [z])) e⟩) (fun _ _ _ _ n => n)
  (fun b o hc e => ⟨o, k b o (fun z => hc (by simp [z])) e⟩) (fun _ _ e => e) (fun _ _ _ e => e) (fun b ps e => ⟨#[], by rw [e]; simp⟩) (fun m hm => ?_) (fun b u e => ?_) I.bare
 ·have e : b = it := by simpa using hb
  subst e
  exact ⟨h1, hL, h2, h3⟩
 ·obtain ⟨o, es, ep, ho, r⟩ := hm
  exact ⟨o, es, ep, k _ o (Ne.symm hL) ho, r⟩
 ·refine (I.hok b u e).stay (fun c v hc q => k c v ?_ q) (fun _ q => q) fun _ _ q => q
  rcases hc with z | z
  ·rw [z]; exact nit b u e
  ·exact nit c _ z
theorem Inv.tok (I : Inv X pins σ H s) (t : Nat) : Inv X pins σ H { s with toks := t } := I.un (h' := s.heap) (t' := t) Un.refl I.hok
theorem Inv.kept {t' : Nat} (I : Inv X pins σ H s) (k : ∀ b u, s.heap.get? b = some u → h'.get? b = some u) : Inv X pins σ H { s with heap := h', toks := t' } := I.un (Un.kept k) (I.hok.kept k)
theorem Inv.laid {a : Addr} {o : HO} {t' : Nat} (I : Inv X pins σ H s) (k : ∀ b u, s.heap.get? b = some u → h'.get? b = some u) (hp : s.heap.objs.size ≤ a) (new : ObjOk X.prog X.w (upd H a o) h' a o) :
  Inv X pins σ (upd H a o) { s with heap := h', toks := t' } := I.un (Un.laid k hp (I.hok.fresh hp)) (I.hok.laid k hp new)
theorem Inv.write {x e : Addr} {o : HO} {t' : Nat} (I : Inv X pins σ H s) (mu : Mut (H x)) (he : e = x ∨ H e = some (.own x)) (k : ∀ b u, b ≠ e → s.heap.get? b = some u → h'.get? b = some u) (heo : ∃ u, h'.get? e = some u)
  (new : ObjOk X.prog X.w (upd H x o) h' x o) : Inv X pins σ (upd H x o) { s with heap := h', toks := t' } := I.un (Un.write mu he k heo) (I.hok.write mu he k heo new)
theorem Inv.pins_of {pins' : List (Addr × Obj)} (I : Inv X pins σ H s) (h : ∀ p ∈ pins', s.heap.get? p.1 = some p.2 ∧ H p.1 = none ∧ p.1 ≠ X.env.locals ∧ p.1 ∉ X.fs ∧ ∀ v, p.2.data ≠ .cell v) : Inv X pins' σ H s :=
 ⟨I.ok, I.os, I.bare, I.base, I.loc, I.cell, I.free, I.freeC, fun p hp => (List.mem_append.mp hp).elim (fun z => I.pin p (List.mem_append_left _ z)) (h p), I.hok, I.len⟩
theorem Wd {N : List Str} (hN : N.Nodup) {i j : Nat} {x : Str} (a : N[i]? = some x) (b : N[j]? = some x) : i = j := by
 obtain ⟨h1, e1⟩ := List.getElem?_eq_some_iff.mp a
 obtain ⟨h2, e2⟩ := List.getElem?_eq_some_iff.mp b
 exact (List.getElem_inj hN).mp (e1.trans e2.symm)
theorem WG {M : Model} {A : Around} {E : Value → Shared → Prop} {i : Nat} {x : Str} {v : V} {u : Value} {Q : Unit → Shared → Prop} (I : Inv X pins σ H s) (hN : X.N.Nodup) (hi : X.N[i]? = some x) (hx : Loc X.env.scope x) (r : RelV v u)
  (h : ∀ s', Inv X pins (σ.set i (some v)) H s' → (∃ a, Heap.SameBut a s.heap s'.heap ∧ (a = X.env.locals ∨ X.env.cells.lookup x = some a)) → Q () s') (hf : X.fn x = true ∨ X.env.scope.names.lookup x = some .local := by first | exact .inl rfl | exact .inr rfl | assumption) : wpAny M A (storeName X.env x u) Q E s := by
 obtain ⟨m, hn, hl⟩ := id I.loc
 have hcls : (X.env.scope.kind == .class || (X.env.scope.kind == .module && X.env.locals != X.env.globals)) = false := by rw [I.ok.kind]; rfl
 have hiσ : i < σ.length := by rw [I.len]; exact (List.getElem?_eq_some_iff.mp hi).1
 have cne := I.cne
 have tracked : ∀ {a : Addr} {h' : Heap}, (∃ o, s.heap.get? a = some o ∧ H a = none) → Heap.SameBut a s.heap h' → HOk X.prog X.w H h' := fun {a h'} ha hs b ob e => by
  obtain ⟨_, _, hfree⟩ := ha
  refine (I.hok b ob e).stay (fun c w' hc q => (hs.2 c ?_).trans q) (fun _ q => q) fun _ _ q => q
  rintro rfl
  rcases hc with rfl | hc
  ·rw [hfree] at e; cases e
  ·rw [hfree] at hc; cases hc
 rcases hx with hk | hk
 ·refine wpAny_storeName_local hk hn (fun h' hn' hs => ?_) hcls
  obtain ⟨oL, _, _, hoL, _⟩ := id hn
  refine h _ ⟨I.ok, I.os, I.bare, ⟨fun b o e n hb hx => ?_, fun b o e n hb hx => ?_, I.base.free, fun b o e hx => ?_, I.base.tups, I.base.frzs, I.base.tbls⟩, ⟨_, hn', fun j y v' e1 e2 e3 => ?_⟩, fun y c e => ?_, I.free, I.freeC, fun p hp => ?_, tracked ⟨oL, hoL, I.free⟩ hs, by simpa using I.len⟩ ⟨_, hs, .inl rfl⟩
  ·exact (hs.2 b (Nat.ne_of_lt (Nat.lt_of_lt_of_le (Heap.lt_size e) I.ok.above))).trans (I.base.keep b o e n hb hx)
  ·obtain ⟨sl, e1⟩ := I.base.slot b o e n hb hx
   exact ⟨sl, (hs.2 b (Nat.ne_of_lt (Nat.lt_of_lt_of_le (Heap.lt_size e) I.ok.above))).trans e1⟩
  ·obtain ⟨o', e1⟩ := I.base.there b o e hx
   exact ⟨o', (hs.2 b (Nat.ne_of_lt (Nat.lt_of_lt_of_le (Heap.lt_size e) I.ok.above))).trans e1⟩
  ·by_cases hj : j = i
   ·subst hj
    rw [hi] at e1; cases e1
    rw [List.getElem?_set_self hiσ] at e2
    cases e2
    exact ⟨u, r, .inl ⟨hk, by simp⟩⟩
   ·rw [List.getElem?_set_ne (Ne.symm hj)] at e2
    obtain ⟨u', r', q⟩ := hl j y v' e1 e2 e3
    refine ⟨u', r', ?_⟩
    rcases q with ⟨k, e⟩ | ⟨k, c, e, z⟩
    ·refine .inl ⟨k, ?_⟩
     have : y ≠ x := fun e => hj (Wd hN e1 (e ▸ hi))
     simp [this, e]
    ·exact .inr ⟨k, c, e, z.sameBut hs (cne y c e)⟩
  ·obtain ⟨w', z⟩ := I.cell y c e
   exact ⟨w', z.sameBut hs (cne y c e)⟩
  ·obtain ⟨e, n, ne, nf, d⟩ := I.pin p hp
   exact ⟨(hs.2 p.1 ne).trans e, n, ne, nf, d⟩
 ·have hfn : X.fn x = true := by
   rcases hf with z | z
   ·exact z
   ·rw [z] at hk; cases hk
  obtain ⟨c, hc⟩ := I.ok.has x (.inl hk)
  obtain ⟨w', z⟩ := I.cell x c hc
  refine wpAny_storeName_cell I.ok.kind hk hc z (fun h' hc' hs => ?_)
  obtain ⟨oc, hoc, hocd⟩ := id z
  refine h { s with heap := h' } ⟨I.ok, I.os, I.bare, ⟨fun b o e n hb hx => ?_, fun b o e n hb hx => ?_, I.base.free, fun b o e hx => ?_, I.base.tups, I.base.frzs, I.base.tbls⟩, ⟨m, hn.sameBut hs (Ne.symm (cne x c hc)), fun j y v' e1 e2 e3 => ?_⟩, fun y c' e => ?_, I.free, I.freeC, fun p hp => ?_, tracked ⟨oc, hoc, I.freeC x c hc⟩ hs, by simpa using I.len⟩ ⟨c, hs, .inr hc⟩
  ·exact (hs.2 b (Nat.ne_of_lt (Nat.lt_of_lt_of_le (Heap.lt_size e) (I.ok.cab x c hfn hc)))).trans (I.base.keep b o e n hb hx)
  ·obtain ⟨sl, e1⟩ := I.base.slot b o e n hb hx
   exact ⟨sl, (hs.2 b (Nat.ne_of_lt (Nat.lt_of_lt_of_le (Heap.lt_size e) (I.ok.cab x c hfn hc)))).trans e1⟩
  ·obtain ⟨o', e1⟩ := I.base.there b o e hx
   exact ⟨o', (hs.2 b (Nat.ne_of_lt (Nat.lt_of_lt_of_le (Heap.lt_size e) (I.ok.cab x c hfn hc)))).trans e1⟩
  ·by_cases hj : j = i
   ·subst hj
    rw [hi] at e1; cases e1
    rw [List.getElem?_set_self hiσ] at e2
    cases e2
    exact ⟨u, r, .inr ⟨.inl hk, c, hc, hc'⟩⟩
   ·rw [List.getElem?_set_ne (Ne.symm hj)] at e2
    obtain ⟨u', r', q⟩ := hl j y v' e1 e2 e3
    refine ⟨u', r', ?_⟩
    rcases q with q | ⟨k, c', e, z'⟩
    ·exact .inl q
    ·refine .inr ⟨k, c', e, z'.sameBut hs ?_⟩
     rintro rfl
     exact hj (Wd hN e1 (I.ok.inj _ _ _ e hc ▸ hi))
  ·by_cases hcc : c' = c
   ·subst hcc; exact ⟨_, hc'⟩
   ·obtain ⟨w2, z2⟩ := I.cell y c' e
    exact ⟨w2, z2.sameBut hs hcc⟩
  ·obtain ⟨e, n, ne, nf, d⟩ := I.pin p hp
   refine ⟨(hs.2 p.1 ?_).trans e, n, ne, nf, d⟩
   intro q
   rw [q, hoc] at e
   have q' : oc = p.2 := Option.some.inj e
   exact d w' (by rw [← q']; exact hocd)
theorem Z3 {M : Model} {A : Around} {E : Value → Shared → Prop} {i : Nat} {x : Str} {v : V} {u : Value} {Q : Unit → Shared → Prop} (I : Inv X pins σ H s) (hN : X.N.Nodup) (hi : X.N[i]? = some x) (hx : Loc X.env.scope x) (r : RelV v u)
  (h : ∀ s', Inv X pins (σ.set i (some v)) H s' → Q () s') (hf : X.fn x = true ∨ X.env.scope.names.lookup x = some .local := by first | exact .inl rfl | exact .inr rfl | assumption) : wpAny M A (storeName X.env x u) Q E s :=
 WG I hN hi hx r (fun s' I' _ => h s' I') hf
theorem Inv.call' {s' : Shared} {ch : List Addr} (I : Inv X pins σ H s) (ho : s'.os = s.os) (u : Un (frs X.stack) ch H H' s.heap s'.heap) (hok : HOk X.prog X.w H' s'.heap) (hg : AllBare s'.gens)
  (hch : ∀ b ∈ ch, (b ∈ X.ex ∨ X.s₀.heap.objs.size ≤ b) ∧ b ≠ X.env.locals ∧ (∀ x c, X.env.cells.lookup x = some c → c ≠ b) ∧ ∀ p ∈ X.pn ++ pins, p.1 ≠ b) : Inv X pins σ H' s' := by
 obtain ⟨h', g', d', t', o'⟩ := s'
 have e : o' = s.os := ho
 subst e
 exact I.call (g' := g') (t' := t') (d' := d') u hok hg hch
end
abbrev XK := Value → Option Addr → Hp → Prop
abbrev St := List (Option V)
abbrev VK := V → Hp → Prop
abbrev TE := St → Hp → VK → Prop
abbrev TT := St → Hp → (Bool → Hp → Prop) → Prop
abbrev TA := St → Hp → (List V → Hp → Prop) → Prop
structure Ends where
 nx : St → Hp → Prop
 rt : VK
 bk : St → Hp → Prop := fun _ _ => False
 ct : St → Hp → Prop := fun _ _ => False
abbrev TS := Ends → St → Hp → Prop
def EP (X : Cx) (pins : List (Addr × Obj)) (σ : St) (Q : VK) (u : Value) (s' : Shared) : Prop := ∃ v H', Inv X pins σ H' s' ∧ RelV v u ∧ Q v H'
def TP (X : Cx) (pins : List (Addr × Obj)) (σ : St) (Q : Bool → Hp → Prop) (b : Bool) (s' : Shared) : Prop := ∃ H', Inv X pins σ H' s' ∧ Q b H'
def AP (X : Cx) (pins : List (Addr × Obj)) (σ : St) (Q : List V → Hp → Prop) (us : List Value) (s' : Shared) : Prop := ∃ vs H', Inv X pins σ H' s' ∧ Vals vs us ∧ Q vs H'
def SP (X : Cx) (pins : List (Addr × Obj)) (D : Ends) (f : Flow) (s' : Shared) : Prop :=
 match f with
 | .next => ∃ σ' H', Inv X pins σ' H' s' ∧ D.nx σ' H'
 | .brk => ∃ σ' H', Inv X pins σ' H' s' ∧ D.bk σ' H'
 | .cont => ∃ σ' H', Inv X pins σ' H' s' ∧ D.ct σ' H'
 | .ret u => ∃ v σ' H', Inv X pins σ' H' s' ∧ RelV v u ∧ D.rt v H'
def PE (X : Cx) (e : Expr) (t : TE) : Prop :=
 ∀ (pins : List (Addr × Obj)) (s : Shared) (σ : St) (H : Hp) (Q : VK), Inv X pins σ H s → t σ H Q → wpAny (model X.prog X.w) X.A (eval e X.env) (EP X pins σ Q) X.xe s
def PT (X : Cx) (e : Expr) (t : TT) : Prop :=
 ∀ (pins : List (Addr × Obj)) (s : Shared) (σ : St) (H : Hp) (Q : Bool → Hp → Prop), Inv X pins σ H s → t σ H Q → wpAny (model X.prog X.w) X.A (isTrue e X.env (eval e X.env)) (TP X pins σ Q) X.xe s
def PW (X : Cx) (e : Expr) (t : TT) : Prop :=
 ∀ (whole : Sem Value) (pins : List (Addr × Obj)) (s : Shared) (σ : St) (H : Hp) (Q : Bool → Hp → Prop), Inv X pins σ H s → t σ H Q → wpAny (model X.prog X.w) X.A (isTrue e X.env whole) (TP X pins σ Q) X.xe s
theorem PW.pt {X : Cx} {e : Expr} {t : TT} (h : PW X e t) : PT X e t := h _
def PA (X : Cx) (es : List Expr) (t : TA) : Prop :=
 ∀ (pos : Pos) (pins : List (Addr × Obj)) (s : Shared) (σ : St) (H : Hp) (Q : List V → Hp → Prop), Inv X pins σ H s → t σ H Q → wpAny (model X.prog X.w) X.A (spliced (backTo pos (starEach es X.env))) (AP X pins σ Q) X.xe s
def PS (X : Cx) (st : Stmt) (t : TS) : Prop :=
 ∀ (pins : List (Addr × Obj)) (s : Shared) (σ : St) (H : Hp) (D : Ends), Inv X pins σ H s → t D σ H → wpAny (model X.prog X.w) X.A (exec st X.env) (SP X pins D) X.xe s
def PSs (X : Cx) (st : List Stmt) (t : TS) : Prop :=
 ∀ (pins : List (Addr × Obj)) (s : Shared) (σ : St) (H : Hp) (D : Ends), Inv X pins σ H s → t D σ H → wpAny (model X.prog X.w) X.A (execs st X.env) (SP X pins D) X.xe s
theorem thn {α : Type} {t : Sem α} {Q Q' : α → Shared → Prop} {M : Model} {A : Around} {E : Value → Shared → Prop} {s : Shared} (h : wpAny M A t Q E s) (hQ : ∀ a s, Q a s → Q' a s) : wpAny M A t Q' E s := wpAny_mono h hQ fun _ _ x => x
end L2
namespace L2
open PySem PySem.Spec PyProof.Rows
section
variable {X : Cx}
def tVar (i : Nat) : TE := fun σ H Q => ∃ v, σ[i]? = some (some v) ∧ Q v H
def tC (v : V) : TE := fun _ H Q => Q v H
theorem J9 {i : Nat} {x : Str} {pos : Pos} (hN : X.N[i]? = some x) (hv : Vis X.env.scope x) (hd : (x == ("__debug__" : Str)) = false := by decide) (hcd : (x == ("__classdict__" : Str)) = false := by decide) : PE X (.Name x pos) (tVar i) := by
 intro pins s σ H Q I h
 obtain ⟨v, e, h⟩ := h
 obtain ⟨m, hn, hl⟩ := I.loc
 obtain ⟨u, r, l⟩ := hl i x v hN e hv
 have fin : EP X pins σ Q u s := ⟨v, H, I, r, h⟩
 rcases l with ⟨hk, hm⟩ | ⟨hk, c, hc, hcell⟩
 ·exact wpAny_Name (wpAny_loadName_local I.ok.kind hk hn hm fin) hd
 ·rcases hk with hk | hk
  ·exact wpAny_Name (wpAny_loadName_cell I.ok.kind hk hc hcell fin) hd
  ·exact wpAny_Name (wpAny_loadName_free I.ok.kind hk hc hcell fin hcd) hd
theorem Zi {i j pos} : PE X (.Constant (.int i) j pos) (tC (.int i)) := fun _ _ _ H _ I h => wpAny_Constant_int ⟨.int i, H, I.tok _, ⟨_, rfl⟩, h⟩
theorem WH {b j pos} : PE X (.Constant (.bool b) j pos) (tC (.bl b)) := fun _ _ _ H _ I h => Constant_bool ⟨.bl b, H, I, rfl, h⟩
theorem Ys {j pos} : PE X (.Constant .none j pos) (tC .non) := fun _ _ _ H _ I h => Constant_none ⟨.non, H, I, rfl, h⟩
theorem W2 {x j pos} : PE X (.Constant (.str x) j pos) (tC (.str x)) := fun _ _ _ H _ I h => Calls.Constant_str ⟨.str x, H, I.tok _, ⟨_, rfl⟩, h⟩
def Gl (X : Cx) (x : Str) : Prop := X.env.kindOf x = some .globalImplicit
theorem Ji {E : Value → Shared → Prop} {pins : List (Addr × Obj)} {s : Shared} {σ : St} {H : Hp} {x : Str} {u : Value} {pos : Pos} {Q : Value → Shared → Prop} (I : Inv X pins σ H s) (hg : Gl X x) (hm : X.mg x = some u) (h : Q u s)
  (hd : (x == ("__debug__" : Str)) = false := by decide) : wpAny (model X.prog X.w) X.A (eval (.Name x pos) X.env) Q E s :=
 Calls.Name_function_global I.ok.kind hg (Calls.loadGlobal_global (by rw [I.ok.glob]; exact I.mod.glob.keeps I.bk) hm h) hd
theorem YN {E : Value → Shared → Prop} {pins : List (Addr × Obj)} {s : Shared} {σ : St} {H : Hp} {x : Str} {u : Value} {pos : Pos} {Q : Value → Shared → Prop} (I : Inv X pins σ H s) (hg : Gl X x) (hm : X.mg x = none) (hv : bootBuiltins x = some u) (h : Q u s)
  (hn : x ≠ "__name__" := by decide) (hd : (x == ("__debug__" : Str)) = false := by decide) : wpAny (model X.prog X.w) X.A (eval (.Name x pos) X.env) Q E s := by
 obtain ⟨mb, h1, h2⟩ := I.mod.blt
 exact Calls.Name_function_global I.ok.kind hg (Calls.loadGlobal_builtin (by rw [I.ok.glob]; exact I.mod.glob.keeps I.bk) hm (by rw [I.ok.blt]; exact h1.keeps I.bk) ((h2 x hn).trans hv) h) hd
theorem ZH {x : Str} {v : V} {u : Value} {pos : Pos} (hg : Gl X x) (hm : X.mg x = some u) (r : RelV v u) (hd : (x == ("__debug__" : Str)) = false := by decide) : PE X (.Name x pos) (tC v) :=
 fun _ _ _ H _ I h => Ji I hg hm ⟨v, H, I, r, h⟩ hd
theorem ZI {x : Str} {v : V} {u : Value} {pos : Pos} (hg : Gl X x) (hm : X.mg x = none) (hv : bootBuiltins x = some u) (r : RelV v u) (hn : x ≠ "__name__" := by decide) (hd : (x == ("__debug__" : Str)) = false := by decide) : PE X (.Name x pos) (tC v) :=
 fun _ _ _ H _ I h => YN I hg hm hv ⟨v, H, I, r, h⟩ hn hd
variable {a b : Expr} {ta tb : TE} {pos : Pos}
def PC (X : Cx) (op : CmpOp) (a b : Expr) (t : TE) : Prop :=
 ∀ (pins : List (Addr × Obj)) (s : Shared) (σ : St) (H : Hp) (Q : VK), Inv X pins σ H s → t σ H Q →
  wpAny (model X.prog X.w) X.A (eval a X.env) (fun v s₁ => wpAny (model X.prog X.w) X.A (eval b X.env) (fun u s₂ => wpAny (model X.prog X.w) X.A (compareOp op v u) (EP X pins σ Q) X.xe s₂) X.xe s₁) X.xe s
theorem nobehind (b : Expr) {op : CmpOp} (h : op ≠ .In) (h2 : op ≠ .NotIn) : behindInMarks op b = false := by
 have e1 : (op == CmpOp.In) = false := by cases op <;> first | rfl | exact absurd rfl h
 have e2 : (op == CmpOp.NotIn) = false := by cases op <;> first | rfl | exact absurd rfl h2
 cases b <;> simp [behindInMarks, e1, e2]
def tIsN (ta : TE) : TE := fun σ H Q => ta σ H fun x H1 => Q (.bl (decide (x = .non))) H1
def tNotN (ta : TE) : TE := fun σ H Q => ta σ H fun x H1 => Q (.bl (!decide (x = .non))) H1
theorem RelV.none_iff {x : V} {v : Value} (r : RelV x v) : (v == Value.none) = decide (x = .non) := by
 cases x with
 | non => cases r; rfl
 | bl _ => cases r; rfl
 | int _ => obtain ⟨t, rfl⟩ := r; rfl
 | str _ => obtain ⟨t, rfl⟩ := r; rfl
 | byt _ => obtain ⟨t, rfl⟩ := r; rfl
 | flt _ => obtain ⟨t, rfl⟩ := r; rfl
 | ref _ => cases r; rfl
 | ty _ => cases r; rfl
theorem U7 {j pos'} (ha : PE X a ta) : PC X .Is a (.Constant .none j pos') (tIsN ta) := by
 intro pins s σ H Q I h
 refine thn (ha pins s σ H _ I h) fun v s1 ⟨x, H1, I1, r1, q1⟩ => ?_
 exact Constant_none (is_none_gen ⟨.bl _, H1, I1, by rw [r1.none_iff]; rfl, q1⟩)
theorem Jd {j pos'} (ha : PE X a ta) : PC X .IsNot a (.Constant .none j pos') (tNotN ta) := by
 intro pins s σ H Q I h
 refine thn (ha pins s σ H _ I h) fun v s1 ⟨x, H1, I1, r1, q1⟩ => ?_
 exact Constant_none (isnot_none_gen ⟨.bl _, H1, I1, by rw [r1.none_iff]; rfl, q1⟩)
def tB (t : TE) : TT := fun σ H Q => t σ H fun x H1 => ∃ c, x = .bl c ∧ Q c H1
theorem ZbI {op : CmpOp} {t : TE} (h : PC X op a b t) (h1 : behindInMarks op b = false := by first | exact nobehind _ (by decide) (by decide) | rfl) : PE X (.Compare a [op] [b] pos) t := fun pins s σ H Q I hw => wpAny_Compare1 (h pins s σ H Q I hw) h1
theorem Y5 {op : CmpOp} {t : TE} (h : PC X op a b t) (h1 : behindInMarks op b = false := by first | exact nobehind _ (by decide) (by decide) | rfl) : PT X (.Compare a [op] [b] pos) (tB t) := by
 intro pins s σ H Q I hw
 refine wpAny_isTrue_Compare1 (thn (h pins s σ H _ I hw) fun v s1 h1 => thn h1 fun u s2 h2 => thn h2 fun c s3 ⟨x, H1, I1, r1, q1⟩ => ?_) h1
 obtain ⟨d, rfl, q⟩ := q1
 cases r1
 exact wpAny_truthy_bool ⟨H1, I1, q⟩
theorem ZU {e : Expr} {t : TE} (h : PE X e t) (he : ∀ whole, isTrue e X.env whole = (do let v ← whole; standAt e.pos; holding [v] (truthy v)) := by intro _; rfl) : PT X e (tB t) := by
 intro pins s σ H Q I hw
 refine isTrue_plain (thn (h pins s σ H _ I hw) fun v s1 ⟨x, H1, I1, r1, q1⟩ => ?_) (he _)
 obtain ⟨d, rfl, q⟩ := q1
 cases r1
 exact wpAny_truthy_bool ⟨H1, I1, q⟩
variable {tA tB' : TT} {rest : List Expr}
def tAnd (t u : TT) : TT := fun σ H Q => t σ H fun c H1 => if c = true then u σ H1 Q else Q false H1
def tOr (t u : TT) : TT := fun σ H Q => t σ H fun c H1 => if c = true then Q true H1 else u σ H1 Q
def tNot (t : TT) : TT := fun σ H Q => t σ H fun c H1 => Q (!c) H1
theorem JK (ha : PT X a tA) : PW X (.BoolOp .And [a] pos) tA := by
 intro wh pins s σ H Q I h
 refine isTrue_and (thn (ha pins s σ H Q I h) fun c s1 e => ?_)
 cases c with
 | true => exact isTrue_and_nil e
 | false => exact e
theorem JZ (ha : PT X a tA) : PW X (.BoolOp .Or [a] pos) tA := by
 intro wh pins s σ H Q I h
 refine isTrue_or (thn (ha pins s σ H Q I h) fun c s1 e => ?_)
 cases c with
 | false => exact isTrue_or_nil e
 | true => exact e
theorem J5 (ha : PT X a tA) (hb : PW X (.BoolOp .And (b :: rest) pos) tB') : PW X (.BoolOp .And (a :: b :: rest) pos) (tAnd tA tB') := by
 intro wh pins s σ H Q I h
 refine isTrue_and (thn (ha pins s σ H _ I h) fun c s1 ⟨H1, I1, q1⟩ => ?_)
 cases c with
 | true => exact hb wh pins s1 σ H1 Q I1 q1
 | false => exact ⟨H1, I1, q1⟩
theorem Ut (ha : PT X a tA) (hb : PW X (.BoolOp .Or (b :: rest) pos) tB') : PW X (.BoolOp .Or (a :: b :: rest) pos) (tOr tA tB') := by
 intro wh pins s σ H Q I h
 refine isTrue_or (thn (ha pins s σ H _ I h) fun c s1 ⟨H1, I1, q1⟩ => ?_)
 cases c with
 | true => exact ⟨H1, I1, q1⟩
 | false => exact hb wh pins s1 σ H1 Q I1 q1
theorem Yh (ha : PT X a tA) : PT X (.UnaryOp .Not a pos) (tNot tA) := by
 intro pins s σ H Q I h
 exact isTrue_not (ha pins s σ H (fun c H1 => Q (!c) H1) I h)
def tAndV (ta tb : TE) : TE := fun σ H Q => ta σ H fun x H1 => ∃ c, x = .bl c ∧ if c = true then tb σ H1 Q else Q (.bl false) H1
def tNotV (ta : TE) : TE := fun σ H Q => ta σ H fun x H1 => ∃ c, x = .bl c ∧ Q (.bl (!c)) H1
theorem YF {op} {t : TE} (h : PE X a t) : PE X (.BoolOp op [a] pos) t := fun pins s σ H Q I hw => BoolOp_one (h pins s σ H Q I hw)
theorem YG (ha : PE X a ta) (hb : PE X (.BoolOp .And (b :: rest) pos) tb) : PE X (.BoolOp .And (a :: b :: rest) pos) (tAndV ta tb) := by
 intro pins s σ H Q I h
 refine BoolOp_and (thn (ha pins s σ H _ I h) fun v s1 ⟨x, H1, I1, r1, q1⟩ => ?_)
 obtain ⟨c, rfl, q1⟩ := q1
 cases r1
 refine wpAny_truthy_bool ?_
 cases c with
 | true => exact hb pins s1 σ H1 Q I1 q1
 | false => exact ⟨.bl false, H1, I1, rfl, q1⟩
theorem Zdq (ha : PE X a ta) : PE X (.UnaryOp .Not a pos) (tNotV ta) := by
 intro pins s σ H Q I h
 refine UnaryOp_ (thn (ha pins s σ H _ I h) fun v s1 ⟨x, H1, I1, r1, q1⟩ => ?_)
 obtain ⟨c, rfl, q1⟩ := q1
 cases r1
 exact not_of (wpAny_truthy_bool ⟨.bl (!c), H1, I1, rfl, q1⟩)
def tIf (t : TT) (ta tb : TE) : TE := fun σ H Q => t σ H fun c H1 => if c = true then ta σ H1 Q else tb σ H1 Q
theorem ZbG {c : Expr} (hc : PT X c tA) (ha : PE X a ta) (hb : PE X b tb) : PE X (.IfExp c a b pos) (tIf tA ta tb) := by
 intro pins s σ H Q I h
 refine wpAny_IfExp (thn (hc pins s σ H _ I h) fun d s1 ⟨H1, I1, q1⟩ => ?_)
 cases d with
 | true => exact ha pins s1 σ H1 Q I1 q1
 | false => exact hb pins s1 σ H1 Q I1 q1
end
end L2
namespace L2
open PySem PySem.Spec PyProof.Rows
def SqL (K : PySem.W.Frag) (H : Hp) (a : Addr) (xs : List V) : Prop :=
 Rd H a (.lst xs) ∨
  ∃ (o : Obj) (its : Array Value) (n : Nat), K.lookup a = some o ∧ o.cls = .type "list" ∧ o.dict = none ∧ o.data = .seq its n ∧ its.size ≤ sizeLine ∧ Vals xs its.toList
def SqT (K : PySem.W.Frag) (H : Hp) (a : Addr) (xs : List V) : Prop :=
 Rd H a (.tup xs) ∨
  (∃ (o : Obj) (its : Array Value) (n : Nat), K.lookup a = some o ∧ o.cls = .type "tuple" ∧ o.data = .seq its n ∧ its.size ≤ sizeLine ∧ Vals xs its.toList) ∨ H a = some (.par xs)
def absV : Value → Option V
 | .none => some .non
 | .bool b => some (.bl b)
 | .int i _ => some (.int i)
 | .str x _ => some (.str x)
 | .bytes b _ => some (.byt b)
 | .float b _ => some (.flt b)
 | .ref a => some (.ref a)
 | .type n => some (.ty n)
 | _ => none
theorem RelV.abs {x : V} {u : Value} (r : RelV x u) : absV u = some x := by
 cases x with
 | non => cases r; rfl
 | bl _ => cases r; rfl
 | int _ => obtain ⟨t, rfl⟩ := r; rfl
 | str _ => obtain ⟨t, rfl⟩ := r; rfl
 | byt _ => obtain ⟨t, rfl⟩ := r; rfl
 | flt _ => obtain ⟨t, rfl⟩ := r; rfl
 | ref _ => cases r; rfl
 | ty _ => cases r; rfl
theorem RelV.inj {x y : V} {u : Value} (r : RelV x u) (q : RelV y u) : x = y := Option.some.inj (r.abs.symm.trans q.abs)
theorem Vals.inj : ∀ {xs ys : List V} {us : List Value}, Vals xs us → Vals ys us → xs = ys
 | _, _, _, .nil, .nil => rfl
 | _, _, _, .cons r t, .cons r' t' => by rw [r.inj r', Vals.inj t t']
section
variable {X : Cx} {pins : List (Addr × Obj)} {σ : St} {H : Hp} {s : Shared} {a : Addr} {xs ys : List V}
theorem SqL.of {K : PySem.W.Frag} (h : H a = some (.lst xs)) : SqL K H a xs := .inl (.inl h)
theorem SqT.of {K : PySem.W.Frag} (h : H a = some (.tup xs)) : SqT K H a xs := .inl (.inl h)
theorem SqT.ofP {K : PySem.W.Frag} (h : H a = some (.par xs)) : SqT K H a xs := .inr (.inr h)
theorem Inv.list (I : Inv X pins σ H s) (h : SqL X.K H a xs) : ∃ its : List Value, Vals xs its ∧ PlainL s.heap a its.toArray ∧ xs.length ≤ sizeLine := by
 rcases h with h | ⟨o, its, n, hk, hc, hd, hs, hz, r⟩
 ·obtain ⟨z, its, n, r, e⟩ := h.ok I.hok
  exact ⟨its, r, ⟨_, n, e, rfl, rfl, rfl⟩, z⟩
 ·refine ⟨its.toList, r, ⟨o, n, I.kIn a o hk, hc, hd, by simpa using hs⟩, ?_⟩
  have e := r.length
  simp only [Array.length_toList] at e
  omega
theorem Inv.tuple (I : Inv X pins σ H s) (h : SqT X.K H a xs) : ∃ its : List Value, Vals xs its ∧ IsTup s.heap a its.toArray ∧ xs.length ≤ sizeLine := by
 rcases h with h | ⟨o, its, n, hk, hc, hs, hz, r⟩ | h
 ·obtain ⟨z, its, r, p, _⟩ := h.ok I.hok
  exact ⟨its, r, p, z⟩
 rotate_left
 ·obtain ⟨z, its, r, p⟩ := (show ObjOk X.prog X.w H s.heap a (.par xs) from I.hok a _ h)
  exact ⟨its, r, p, z⟩
 ·refine ⟨its.toList, r, ⟨o, I.kIn a o hk, hc, n, by simpa using hs⟩, ?_⟩
  have e := r.length
  simp only [Array.length_toList] at e
  omega
theorem Inv.list_inj (I : Inv X pins σ H s) (h : SqL X.K H a xs) (h' : SqL X.K H a ys) : xs = ys := by
 obtain ⟨its, r, ⟨o, n, e, _, _, d⟩, _⟩ := I.list h
 obtain ⟨its', r', ⟨o', n', e', _, _, d'⟩, _⟩ := I.list h'
 rw [e] at e'; cases e'
 rw [d] at d'
 injection d' with d1 _
 have : its = its' := by simpa using congrArg Array.toList d1
 subst this
 exact r.inj r'
theorem Inv.tuple_inj (I : Inv X pins σ H s) (h : SqT X.K H a xs) (h' : SqT X.K H a ys) : xs = ys := by
 obtain ⟨its, r, ⟨o, e, _, n, d⟩, _⟩ := I.tuple h
 obtain ⟨its', r', ⟨o', e', _, n', d'⟩, _⟩ := I.tuple h'
 rw [e] at e'; cases e'
 rw [d] at d'
 injection d' with d1 _
 have : its = its' := by simpa using congrArg Array.toList d1
 subst this
 exact r.inj r'
end
abbrev Cx.wish (X : Cx) (E : Value → Shared → Prop) : Cx := { X with xe := E }
abbrev Cx.nox (X : Cx) : Cx := X.wish fun _ _ => False
theorem Cx.Ok.wish {X : Cx} (ok : X.Ok) (E : Value → Shared → Prop) : (X.wish E).Ok :=
 ⟨ok.mod, ok.kind, ok.glob, ok.blt, ok.above, ok.inj, ok.has, ok.cab, ok.hd, ok.frames, ok.stk, ok.exf, ok.bs, ok.bsz, ok.noex, ok.exfs, ok.funs, ok.frf⟩
theorem Cx.Ok.unwish {X : Cx} {E : Value → Shared → Prop} (ok : (X.wish E).Ok) : X.Ok :=
 ⟨ok.mod, ok.kind, ok.glob, ok.blt, ok.above, ok.inj, ok.has, ok.cab, ok.hd, ok.frames, ok.stk, ok.exf, ok.bs, ok.bsz, ok.noex, ok.exfs, ok.funs, ok.frf⟩
section
variable {X : Cx} {pins : List (Addr × Obj)} {σ : St} {H : Hp} {s : Shared} {E : Value → Shared → Prop}
theorem Inv.wish (I : Inv X pins σ H s) (E : Value → Shared → Prop) : Inv (X.wish E) pins σ H s := ⟨I.ok.wish E, I.os, I.bare, I.base, I.loc, I.cell, I.free, I.freeC, I.pin, I.hok, I.len⟩
theorem Inv.unwish (I : Inv (X.wish E) pins σ H s) : Inv X pins σ H s := ⟨I.ok.unwish, I.os, I.bare, I.base, I.loc, I.cell, I.free, I.freeC, I.pin, I.hok, I.len⟩
theorem SP.unwish {D : Ends} {f : Flow} {s' : Shared} (h : SP (X.wish E) pins D f s') : SP X pins D f s' := by
 cases f with
 | next => obtain ⟨σ', H', I, q⟩ := h; exact ⟨σ', H', I.unwish, q⟩
 | brk => obtain ⟨σ', H', I, q⟩ := h; exact ⟨σ', H', I.unwish, q⟩
 | cont => obtain ⟨σ', H', I, q⟩ := h; exact ⟨σ', H', I.unwish, q⟩
 | ret u => obtain ⟨v, σ', H', I, r, q⟩ := h; exact ⟨v, σ', H', I.unwish, r, q⟩
theorem PSs.nox {st : List Stmt} {t : TS} (h : PSs X.nox st t) : PSs X st t := fun pins s σ H D I hw =>
 wpAny_mono (h pins s σ H D (I.wish _) hw) (fun _ _ q => q.unwish) fun _ _ z => False.elim z
end
section
variable {X : Cx} {st : Stmt} {rest : List Stmt} {t u : TS} {e : Expr} {te : TE} {pos : Pos}
def tNext : TS := fun D σ H => D.nx σ H
def tSeq (t u : TS) : TS := fun D σ H => t { D with nx := u D } σ H
theorem ZC : PSs X [] tNext := fun _ _ σ H _ I h => wpAny_execs_nil ⟨σ, H, I, h⟩
theorem Zh (h1 : PS X st t) (h2 : PSs X rest u) : PSs X (st :: rest) (tSeq t u) := by
 intro pins s σ H D I h
 refine wpAny_execs_cons (thn (h1 pins s σ H { D with nx := u D } I h) fun f s1 q => ?_)
 cases f with
 | next =>
  obtain ⟨σ', H', I', q⟩ := q
  exact h2 pins s1 σ' H' D I' q
 | ret v => exact q
 | brk => exact q
 | cont => exact q
theorem Zm (h1 : PS X st t) : PSs X [st] t := by
 intro pins s σ H D I h
 refine wpAny_execs_cons (thn (h1 pins s σ H D I h) fun f s1 q => ?_)
 cases f with
 | next => exact wpAny_execs_nil q
 | ret v => exact q
 | brk => exact q
 | cont => exact q
theorem Inv.quiet {pins : List (Addr × Obj)} {σ : St} {H : Hp} {s : Shared} (I : Inv X pins σ H s) : interactive X.env = false := by simp [interactive, I.ok.kind]
def tDrop (te : TE) : TS := fun D σ H => te σ H fun _ H1 => D.nx σ H1
theorem Ya (he : PE X e te) (hs : swapsWith e none pos.line X.env = pure false := by rfl) : PS X (.Expr e pos) (tDrop te) := by
 intro pins s σ H D I h
 exact wpAny_Expr_any (thn (he pins s σ H _ I h) fun v s1 ⟨x, H1, I1, r1, q1⟩ => ⟨σ, H1, I1, q1⟩) I.quiet hs
def tRet (te : TE) : TS := fun D σ H => te σ H D.rt
theorem Zx (he : PE X e te) : PS X (.Return (some e) pos) (tRet te) := by
 intro pins s σ H D I h
 exact wpAny_Return_some (thn (he pins s σ H _ I h) fun v s1 ⟨x, H1, I1, r1, q1⟩ => ⟨x, σ, H1, I1, r1, q1⟩)
def tIfS (c : TT) (t u : TS) : TS := fun D σ H => c σ H fun b H1 => if b = true then t D σ H1 else u D σ H1
theorem ZS {c : Expr} {a b : List Stmt} {tc : TT} (hc : PT X c tc) (ha : PSs X a t) (hb : PSs X b u) : PS X (.If c a b pos) (tIfS tc t u) := by
 intro pins s σ H D I h
 refine wpAny_If (thn (hc pins s σ H _ I h) fun d s1 ⟨H1, I1, q1⟩ => ?_)
 cases d with
 | true => exact ha pins s1 σ H1 D I1 q1
 | false => exact hb pins s1 σ H1 D I1 q1
def tNever : TS := fun _ _ _ => False
theorem ZE {sts : List Stmt} : PSs X sts tNever := fun _ _ _ _ _ _ h => h.elim
end
abbrev TG := V → St → Hp → (St → Hp → Prop) → Prop
abbrev TGs := List V → St → Hp → (St → Hp → Prop) → Prop
def PG (X : Cx) (target : Expr) (t : TG) : Prop :=
 ∀ (pins : List (Addr × Obj)) (s : Shared) (σ : St) (H : Hp) (v : V) (u : Value) (Q : St → Hp → Prop), Inv X pins σ H s → RelV v u → t v σ H Q →
  wpAny (model X.prog X.w) X.A (assign target X.env u) (fun _ s' => ∃ σ' H', Inv X pins σ' H' s' ∧ Q σ' H') X.xe s
def PGs (X : Cx) (ts : List Expr) (t : TGs) : Prop :=
 ∀ (pins : List (Addr × Obj)) (s : Shared) (σ : St) (H : Hp) (vs : List V) (us : List Value) (Q : St → Hp → Prop), Inv X pins σ H s → Vals vs us → t vs σ H Q →
  wpAny (model X.prog X.w) X.A (assignInOrder ((assignEach ts X.env).map (·.2)) us) (fun _ s' => ∃ σ' H', Inv X pins σ' H' s' ∧ Q σ' H') X.xe s
abbrev TSet := V → V → V → Hp → (Hp → Prop) → Prop
def PSet (X : Cx) (t : TSet) : Prop :=
 ∀ (pins : List (Addr × Obj)) (s : Shared) (σ : St) (H : Hp) (o i v : V) (ov iv u : Value) (Q : Hp → Prop), Inv X pins σ H s → RelV o ov → RelV i iv → RelV v u → t o i v H Q →
  wpAny (model X.prog X.w) X.A (setItem ov iv u) (fun _ s' => ∃ H', Inv X pins σ H' s' ∧ Q H') X.xe s
section
variable {X : Cx} {pos : Pos}
def gName (i : Nat) : TG := fun v σ H Q => Q (σ.set i (some v)) H
theorem Zz {i : Nat} {x : Str} (hN : X.N.Nodup) (hi : X.N[i]? = some x) (hx : Loc X.env.scope x) (hf : X.fn x = true ∨ X.env.scope.names.lookup x = some .local := by first | exact .inl rfl | exact .inr rfl | assumption) : PG X (.Name x pos) (gName i) := by
 intro pins s σ H v u Q I r h
 exact wpAny_assign_Name (Z3 I hN hi hx r (fun s' I' => ⟨_, H, I', h⟩) hf)
def gNil : TGs := fun vs σ H Q => vs = [] ∧ Q σ H
def gCons (t : TG) (u : TGs) : TGs := fun vs σ H Q => ∃ v r, vs = v :: r ∧ t v σ H fun σ' H' => u r σ' H' Q
theorem ZK : PGs X [] gNil := by
 intro pins s σ H vs us Q I r h
 obtain ⟨e, h⟩ := h
 subst e
 cases r
 exact assignInOrder_nil ⟨σ, H, I, h⟩
theorem Zn {e : Expr} {es : List Expr} {t : TG} {u : TGs} (h1 : PG X e t) (h2 : PGs X es u)
  (hs : (assignEach (e :: es) X.env).map (·.2) = assign e X.env :: (assignEach es X.env).map (·.2) := by rfl) : PGs X (e :: es) (gCons t u) := by
 intro pins s σ H vs us Q I r h
 obtain ⟨v, vr, e1, h⟩ := h
 subst e1
 cases r with
 | cons r rr =>
  rw [hs]
  refine assignInOrder_cons (thn (h1 pins s σ H _ _ _ I r h) fun _ s1 ⟨σ1, H1, I1, q1⟩ => ?_)
  exact h2 pins s1 σ1 H1 _ _ Q I1 rr q1
def gTup (K : PySem.W.Frag) (n : Nat) (t : TGs) : TG := fun v σ H Q => ∃ a xs, v = .ref a ∧ SqT K H a xs ∧ xs.length = n ∧ t xs σ H Q
theorem ZT {es : List Expr} {k : Nat} {t : TGs} {n : Nat} (hc : X.calm = true) (h : PGs X es t)
  (hn : (assignEach es X.env).length = n := by rfl) (hst : (assignEach es X.env).findIdx? (·.1) = none := by rfl) : PG X (.Tuple es k pos) (gTup X.K n t) := by
 intro pins s σ H v u Q I r hw
 obtain ⟨a, xs, e1, hq, hl, hw⟩ := hw
 subst e1
 cases r
 obtain ⟨its, rv, ht, hz⟩ := I.tuple hq
 refine assign_Tuple_tuple (I.ok.hd hc) ht (by simp [hn, ← hl, rv.length]) hst fun h' hx => ?_
 have I1 : Inv X pins σ H { s with heap := h' } := I.kept (t' := s.toks) fun b o e => hx b o (Nat.ne_of_lt (Heap.lt_size e)) e
 exact h pins _ σ H xs _ Q I1 (by simpa using rv) hw
def gSub (to ti : TE) (t : TSet) : TG := fun v σ H Q => to σ H fun o H1 => ti σ H1 fun i H2 => t o i v H2 fun H3 => Q σ H3
theorem ZbE {o i : Expr} {to ti : TE} {t : TSet} (ho : PE X o to) (hi : PE X i ti) (hs : PSet X t)
    (ha : ∀ v, assign (.Subscript o i pos) X.env v = (do
      let ov ← holding [v] (eval o X.env)
      let iv ← holding [v, ov] (eval i X.env)
      standAt pos
      holding [v, ov, iv] (setItem ov iv v)
      release [v, ov, iv] []) := by intro _; rfl) : PG X (.Subscript o i pos) (gSub to ti t) := by
  intro pins s σ H v u Q I r h
  rw [ha]
  refine wpAny_bind (wpAny_holding (thn (ho pins s σ H _ I h) fun ov s1 ⟨x, H1, I1, r1, q1⟩ => ?_))
  refine wpAny_bind (wpAny_holding (thn (hi pins s1 σ H1 _ I1 q1) fun iv s2 ⟨y, H2, I2, r2, q2⟩ => ?_))
  refine wpAny_bind (wpAny_standAt (wpAny_bind (wpAny_holding (thn (hs pins s2 σ H2 x y v ov iv u _ I2 r1 r2 r q2) fun _ s3 ⟨H3, I3, q3⟩ => ?_))))
  exact wpAny_release ⟨σ, H3, I3, q3⟩
def tAsg (te : TE) (g : TG) : TS := fun D σ H => te σ H fun x H1 => g x σ H1 D.nx
theorem J7 {tg e : Expr} {te : TE} {g : TG} (he : PE X e te) (hg : PG X tg g) (hs : swapsWithSole [tg] e pos.line X.env = pure false := by rfl) (hw : swappedStores [tg] e X.env = pure none := by rfl)
  (h1 : (assignEach [tg] X.env).map (·.2) = [assign tg X.env] := by rfl) : PS X (.Assign [tg] e pos) (tAsg te g) := by
 intro pins s σ H D I h
 refine wpAny_Assign_stores (thn (he pins s σ H _ I h) fun v s1 ⟨x, H1, I1, r1, q1⟩ => ?_) hs hw
 rw [h1]
 exact thn (hg pins s1 σ H1 x v _ I1 r1 q1) fun _ s2 q => q
theorem Zs {i : Nat} {x : Str} {e : Expr} {te : TE} {pos' : Pos} (hN : X.N.Nodup) (hi : X.N[i]? = some x) (hx : Loc X.env.scope x) (he : PE X e te) (hs : swapsWith e (some (.Name x pos')) pos.line X.env = pure false := by rfl) (hf : X.fn x = true ∨ X.env.scope.names.lookup x = some .local := by first | exact .inl rfl | exact .inr rfl | assumption) :
  PS X (.Assign [.Name x pos'] e pos) (tAsg te (gName i)) := by
 intro pins s σ H D I h
 refine wpAny_Assign_Name (thn (he pins s σ H _ I h) fun v s1 ⟨y, H1, I1, r1, q1⟩ => ?_) hs
 exact Z3 I1 hN hi hx r1 (fun s2 I2 => ⟨_, H1, I2, q1⟩) hf
def tPar (i j : Nat) (ta : TA) : TS := fun D σ H => ta σ H fun vs H1 => ∃ v w, vs = [v, w] ∧ D.nx ((σ.set i (some v)).set j (some w)) H1
theorem ZbB {i j : Nat} {x y : Str} {a b : Expr} {ta : TA} {px py pt : Pos} {kt k2 pt2} (hc : X.calm = true) (hN : X.N.Nodup) (hi : X.N[i]? = some x) (hj : X.N[j]? = some y) (hij : i ≠ j)
  (hx : X.env.scope.names.lookup x = some .local) (hy : X.env.scope.names.lookup y = some .local) (ha : PA X [a, b] ta)
  (hw : swappedStores [.Tuple [.Name x px, .Name y py] kt pt] (.Tuple [a, b] k2 pt2) X.env = pure (some [x, y]))
  (hs : swapsWithSole [.Tuple [.Name x px, .Name y py] kt pt] (.Tuple [a, b] k2 pt2) pos.line X.env = pure false := by rfl) :
  PS X (.Assign [.Tuple [.Name x px, .Name y py] kt pt] (.Tuple [a, b] k2 pt2) pos) (tPar i j ta) := by
 intro pins s σ H D I h
 rw [exec_Assign_arm]
 refine wpAny_bind (wpAny_standAt ?_)
 rw [hs]
 refine wpAny_bind (wpAny_pure ?_)
 rw [if_neg (by decide)]
 refine wpAny_bind (Tuple_ (thn (ha _ pins s σ H _ I h) fun us s1 ⟨vs, H1, I1, r1, q1⟩ => ?_))
 obtain ⟨v, w, e1, q1⟩ := q1
 subst e1
 obtain ⟨u1, u2, rfl, rv, rw'⟩ : ∃ u1 u2, us = [u1, u2] ∧ RelV v u1 ∧ RelV w u2 := by
  cases r1 with
  | cons p q =>
   cases q with
   | cons p' q' =>
    cases q'
    exact ⟨_, _, rfl, p, p'⟩
 refine wpAny_newObj_type ?_ (by show 2 ≤ sizeLine; decide)
 have I2 : Inv X pins σ H1 { s1 with heap := s1.heap.push { cls := .type "tuple", data := .seq [u1, u2].toArray } } := I1.kept (t' := s1.toks) fun b o e => Heap.get?_push_of_some _ e
 rw [hw]
 refine wpAny_bind (wpAny_pure ?_)
 show wpAny (model X.prog X.w) X.A (do rule "assign.swapped-stores"; let items ← unpackItems (.ref s1.heap.objs.size) 2 none; assignInOrder [fun v => bindName X.env y v, fun v => bindName X.env x v] items.reverse; pure Flow.next) _ _ _
 refine wpAny_bind (wpAny_rule (wpAny_bind (unpackItems_tuple (items := #[u1, u2]) (I.ok.hd hc) (IsTup.new s1.heap _) fun h' hx' => ?_)))
 have I3 := I2.kept (h' := h') (t' := s1.toks) fun b o e => hx' b o (Nat.ne_of_lt (Heap.lt_size e)) e
 show wpAny _ _ (assignInOrder [fun v => bindName X.env y v, fun v => bindName X.env x v] [u2, u1] >>= fun _ => pure Flow.next) _ _ _
 refine wpAny_bind (assignInOrder_cons (wpAny_bindName (Z3 I3 hN hj (.inl hy) rw' (fun s2 I4 => ?_) (.inr hy))))
 refine assignInOrder_cons (wpAny_bindName (Z3 I4 hN hi (.inl hx) rv (fun s3 I5 => assignInOrder_nil (wpAny_pure ?_)) (.inr hx)))
 rw [List.set_comm _ _ (Ne.symm hij)] at I5
 exact ⟨_, H1, I5, q1⟩
end
structure It where
 go : Nat → Hp → Prop
 yld : Nat → Hp → V → Hp → Prop
 stop : Nat → Hp → Prop
def FpOk (X : Cx) (pins : List (Addr × Obj)) (H : Hp) (b : Addr) : Prop :=
 H b = none ∧ b ≠ X.env.locals ∧ b ∉ X.fs ∧ (b ∈ X.ex ∨ X.s₀.heap.objs.size ≤ b) ∧ (∀ x c, X.env.cells.lookup x = some c → c ≠ b) ∧ ∀ p ∈ X.pn ++ pins, p.1 ≠ b
theorem Inv.fpOk {X : Cx} {pins : List (Addr × Obj)} {σ : St} {H H' : Hp} {s : Shared} {b : Addr} (I : Inv X pins σ H s) (hb : s.heap.objs.size ≤ b) (hn : H' b = none) : FpOk X pins H' b := by
 refine ⟨hn, Nat.ne_of_gt (Nat.lt_of_lt_of_le I.lt hb), I.nofs hb, .inr (Nat.le_trans I.sz hb), fun x c e z => ?_, fun p hp z => ?_⟩
 ·obtain ⟨v, q⟩ := I.cell x c e
  exact absurd (Nat.lt_of_lt_of_le q.lt (by rw [z]; exact hb)) (Nat.lt_irrefl _)
 ·exact absurd (Nat.lt_of_lt_of_le (Heap.lt_size (I.pin p hp).1) (by rw [z]; exact hb)) (Nat.lt_irrefl _)
structure Turn (P : Program) (w : World) (K : PySem.W.Frag) (tg : Expr) (J : It) (fp : List Addr) (it : Addr) (tn : Nat → Heap → Prop) : Prop where
 mem : it ∈ fp
 obj : ∀ i h, tn i h → ∀ b ∈ fp, ∃ o, h.get? b = some o ∧ ∀ v, o.data ≠ .cell v
 keep : ∀ i h h', tn i h → (∀ b ∈ fp, ∀ o, h.get? b = some o → h'.get? b = some o) → tn i h'
 item : ∀ (X : Cx), X.prog = P → X.w = w → X.K = K → X.calm = true → ∀ (i : Nat) (pins : List (Addr × Obj)) (s : Shared) (σ : St) (H : Hp) (E : Value → Shared → Prop), Inv X pins σ H s → (∀ b ∈ fp, FpOk X pins H b) → tn i s.heap → J.go i H →
  wpAny (model P w) X.A (pyNext (.ref it)) (fun r s1 => ∃ u, r = some u ∧
   wpAny (model P w) X.A (letOwnedTupleGo tg (.ref it) u) (fun _ s2 => ∃ x H', Inv X pins σ H' s2 ∧ RelV x u ∧ J.yld i H x H' ∧ tn (i + 1) s2.heap ∧ ∀ b ∈ fp, H' b = none) E s1) E s
 done : ∀ (X : Cx), X.prog = P → X.w = w → X.K = K → X.calm = true → ∀ (i : Nat) (pins : List (Addr × Obj)) (s : Shared) (σ : St) (H : Hp) (E : Value → Shared → Prop), Inv X pins σ H s → (∀ b ∈ fp, FpOk X pins H b) → tn i s.heap → J.stop i H →
  wpAny (model P w) X.A (pyNext (.ref it)) (fun r s1 => r = none ∧ Inv X pins σ H s1) E s
 self : ∀ (A : Around) (i : Nat) (s : Shared) (Q : Value → Shared → Prop) (E : Value → Shared → Prop), tn i s.heap → Q (.ref it) s → wpAny (model P w) A (pyIter (.ref it)) Q E s
abbrev TI := St → Hp → (It → Hp → Prop) → Prop
def PIE (X : Cx) (pins : List (Addr × Obj)) (σ : St) (tg : Expr) (R : It → Hp → Prop) (itv : Value) (s2 : Shared) : Prop :=
 ∃ (it : Addr) (fp : List Addr) (tn : Nat → Heap → Prop) (J : It) (H' : Hp), itv = .ref it ∧ Inv X pins σ H' s2 ∧ Turn X.prog X.w X.K tg J fp it tn ∧ tn 0 s2.heap ∧ (∀ b ∈ fp, FpOk X pins H' b) ∧ R J H'
def PI (X : Cx) (tg iter : Expr) (wi : TI) : Prop :=
 ∀ (pins : List (Addr × Obj)) (s : Shared) (σ : St) (H : Hp) (R : It → Hp → Prop), Inv X pins σ H s → wi σ H R →
  wpAny (model X.prog X.w) X.A (eval iter X.env) (fun v s1 => wpAny (model X.prog X.w) X.A (pyIter v) (PIE X pins σ tg R) X.xe s1) X.xe s
theorem Zcd {M : Model} {A : Around} {E : Value → Shared → Prop} {s : Shared} {tg : Expr} {it : Addr} {u : Value} {o : Obj} {n : String} {vs : Array Value} {Q : Unit → Shared → Prop} (ho : s.heap.get? it = some o) (hc : o.cls = .type n) (hd : o.data = .fields vs)
    (hn : ["enumerate", "zip", "dict_itemiterator", "dict_reverseitemiterator", "odict_iterator", "itertools.zip_longest", "itertools.pairwise"].contains n = false) (hQ : Q () s) : wpAny M A (letOwnedTupleGo tg (.ref it) u) Q E s := by
  unfold letOwnedTupleGo
  cases tg <;> first
    | exact wpAny_pure hQ
    | (cases u <;> first
        | exact wpAny_pure hQ
        | (refine wpAny_bind (wpAny_load ho ?_)
           rw [hc, hd]
           show wpAny M A (if (["enumerate", "zip", "dict_itemiterator", "dict_reverseitemiterator", "odict_iterator", "itertools.zip_longest", "itertools.pairwise"].contains n && vs[0]? == some (rawInt _)) = true then _ else _) Q E s
           rw [if_neg (by intro h; rw [hn, Bool.false_and] at h; cases h)]
           exact wpAny_pure hQ))
def Itl (K : PySem.W.Frag) (a : Addr) : It :=
 ⟨fun i H => ∃ xs x, SqL K H a xs ∧ xs[i]? = some x, fun i H x H' => H' = H ∧ ∀ xs, SqL K H a xs → xs[i]? = some x, fun i H => ∃ xs, SqL K H a xs ∧ xs.length ≤ i⟩
def Itt (K : PySem.W.Frag) (a : Addr) : It :=
 ⟨fun i H => ∃ xs x, SqT K H a xs ∧ xs[i]? = some x, fun i H x H' => H' = H ∧ ∀ xs, SqT K H a xs → xs[i]? = some x, fun i H => ∃ xs, SqT K H a xs ∧ xs.length ≤ i⟩
def Itr (lo : Int) (n : Nat) : It := ⟨fun i _ => i < n, fun i H x H' => H' = H ∧ x = .int (lo + i), fun i _ => n ≤ i⟩
theorem ZaP {P : Program} {w : World} {K : PySem.W.Frag} {tg : Expr} (a it : Addr) : Turn P w K tg (Itl K a) [it] it (fun i h => h.IsListIter it a i) where
 mem := by simp
 obj := fun i h st b hb => by
  have e : b = it := by simpa using hb
  subst e
  obtain ⟨o, e, c, d⟩ := st
  exact ⟨o, e, fun v z => by rw [d] at z; cases z⟩
 keep := fun i h h' st k => st.at fun o e => k it (by simp) o e
 item := by
  intro X hP hw hK hc i pins s σ H E I hf st hg
  subst hP hw hK
  obtain ⟨xs, x, hq, hx⟩ := hg
  obtain ⟨its, rv, p, hz⟩ := I.list hq
  obtain ⟨u, hu, ru⟩ := rv.get hx
  obtain ⟨f0, f1, f2, f3, f4, f5⟩ := hf it (by simp)
  refine wpAny_pyNext_list_item st p.isList (x := u) (by simpa using hu) fun h' st' sb => ?_
  have I1 : Inv X pins σ H { s with heap := h' } := I.turned (t' := s.toks) (fun b o hb e => (sb.2 b hb).trans e) f0 f1 f3 f4 f5
  obtain ⟨o, e, c, d⟩ := id st'
  exact ⟨u, rfl, Zcd (s := { s with heap := h' }) e c d (by decide) ⟨x, H, I1, ru, ⟨rfl, fun ys hy => by rw [I.list_inj hy hq]; exact hx⟩, st', fun b hb => (hf b hb).1⟩⟩
 done := by
  intro X hP hw hK hc i pins s σ H E I hf st hg
  subst hP hw hK
  obtain ⟨xs, hq, hx⟩ := hg
  obtain ⟨its, rv, p, hz⟩ := I.list hq
  obtain ⟨f0, f1, f2, f3, f4, f5⟩ := hf it (by simp)
  have hl := rv.length
  exact wpAny_pyNext_list_end (I.ok.hd hc) st p.isList (by simp; omega) fun h' eb => ⟨rfl, I.turned (t' := s.toks) (fun b o hb e => eb b o hb e) f0 f1 f3 f4 f5⟩
 self := fun _ _ _ _ _ st h => wpAny_pyIter_listiter st h
theorem UX {P : Program} {w : World} {K : PySem.W.Frag} {tg : Expr} (a it : Addr) : Turn P w K tg (Itt K a) [it] it (fun i h => h.IsTupleIter it a i) where
 mem := by simp
 obj := fun i h st b hb => by
  have e : b = it := by simpa using hb
  subst e
  obtain ⟨o, e, c, d⟩ := st
  exact ⟨o, e, fun v z => by rw [d] at z; cases z⟩
 keep := fun i h h' st k => st.at fun o e => k it (by simp) o e
 item := by
  intro X hP hw hK hc i pins s σ H E I hf st hg
  subst hP hw hK
  obtain ⟨xs, x, hq, hx⟩ := hg
  obtain ⟨its, rv, p, hz⟩ := I.tuple hq
  obtain ⟨u, hu, ru⟩ := rv.get hx
  obtain ⟨f0, f1, f2, f3, f4, f5⟩ := hf it (by simp)
  refine wpAny_pyNext_tuple_item st (show s.heap.IsTuple a its.toArray from p) (x := u) (by simpa using hu) fun h' st' sb => ?_
  have I1 : Inv X pins σ H { s with heap := h' } := I.turned (t' := s.toks) (fun b o hb e => (sb.2 b hb).trans e) f0 f1 f3 f4 f5
  obtain ⟨o, e, c, d⟩ := id st'
  exact ⟨u, rfl, Zcd (s := { s with heap := h' }) e c d (by decide) ⟨x, H, I1, ru, ⟨rfl, fun ys hy => by rw [I.tuple_inj hy hq]; exact hx⟩, st', fun b hb => (hf b hb).1⟩⟩
 done := by
  intro X hP hw hK hc i pins s σ H E I hf st hg
  subst hP hw hK
  obtain ⟨xs, hq, hx⟩ := hg
  obtain ⟨its, rv, p, hz⟩ := I.tuple hq
  obtain ⟨f0, f1, f2, f3, f4, f5⟩ := hf it (by simp)
  have hl := rv.length
  exact wpAny_pyNext_tuple_end (I.ok.hd hc) st (show s.heap.IsTuple a its.toArray from p) (by simp; omega) fun h' eb => ⟨rfl, I.turned (t' := s.toks) (fun b o hb e => eb b o hb e) f0 f1 f3 f4 f5⟩
 self := fun _ _ _ _ _ st h => wpAny_pyIter_tupleiter st h
theorem UY {P : Program} {w : World} {K : PySem.W.Frag} {tg : Expr} (it : Addr) (lo : Int) (n : Nat) : Turn P w K tg (Itr lo n) [it] it (fun i h => IsRangeIter h it (lo + (i : Nat) * 1) ((n : Int) - (i : Nat)) 1) where
 mem := by simp
 obj := fun i h st b hb => by
  have e : b = it := by simpa using hb
  subst e
  exact ⟨_, st, fun v z => by
   have z' : Data.fields _ = Data.cell v := z
   cases z'⟩
 keep := fun i h h' st k => k it (by simp) _ st
 item := by
  intro X hP hw hK hc i pins s σ H E I hf st hg
  subst hP hw hK
  obtain ⟨f0, f1, f2, f3, f4, f5⟩ := hf it (by simp)
  have W := Walks.range (prog := X.prog) (w := X.w) (I.ok.hd hc) it lo 1 n
  refine W.item i s _ _ hg st fun v h' tk hv st' kk => ?_
  obtain ⟨t, rfl⟩ := hv
  have I1 : Inv X pins σ H { s with heap := h', toks := tk } := I.turned (fun b o hb e => kk b o (by simpa using hb) e) f0 f1 f3 f4 f5
  refine ⟨_, rfl, Zcd (s := { s with heap := h', toks := tk }) (n := "range_iterator") st' rfl rfl (by decide) ⟨.int (lo + i), H, I1, ⟨t, ?_⟩, ⟨rfl, rfl⟩, st', fun b hb => (hf b hb).1⟩⟩
  rw [Int.mul_one]
 done := by
  intro X hP hw hK hc i pins s σ H E I hf st hg
  subst hP hw hK
  obtain ⟨f0, f1, f2, f3, f4, f5⟩ := hf it (by simp)
  exact wpAny_pyNext_range_end (I.ok.hd hc) st (by have : n ≤ i := hg; omega) fun h' eb => ⟨rfl, I.turned (t' := s.toks) (fun b o hb e => eb b o hb e) f0 f1 f3 f4 f5⟩
 self := fun _ _ _ _ _ st h => wpAny_pyIter_rangeiter st h
end L2
namespace L2
open PySem PySem.Spec PyProof.Rows
section
variable {X : Cx} {tg : Expr}
def iList (K : PySem.W.Frag) (tl : TE) : TI := fun σ H R => tl σ H fun x H1 => ∃ a, x = .ref a ∧ (∃ xs, SqL K H1 a xs) ∧ R (Itl K a) H1
def iTup (K : PySem.W.Frag) (tl : TE) : TI := fun σ H R => tl σ H fun x H1 => ∃ a, x = .ref a ∧ (∃ xs, SqT K H1 a xs) ∧ R (Itt K a) H1
theorem ZX {l : Expr} {tl : TE} (hl : PE X l tl) : PI X tg l (iList X.K tl) := by
 intro pins s σ H R I h
 refine thn (hl pins s σ H _ I h) fun v s1 ⟨x, H1, I1, r1, q1⟩ => ?_
 obtain ⟨a, e, ⟨xs, hq⟩, q⟩ := q1
 subst e
 cases r1
 obtain ⟨its, rv, p, hz⟩ := I1.list hq
 refine wpAny_pyIter_list p.isList ?_
 refine ⟨s1.heap.objs.size, [s1.heap.objs.size], _, _, H1, rfl, I1.kept (t' := s1.toks) fun b o e => Heap.get?_push_of_some _ e, ZaP a _, ⟨_, Heap.get?_push_size _ rfl, rfl, rfl⟩, fun b hb => ?_, q⟩
 have e : b = s1.heap.objs.size := by simpa using hb
 subst e
 exact I1.fpOk (Nat.le_refl _) (I1.hok.fresh (Nat.le_refl _))
theorem U5 {l : Expr} {tl : TE} (hl : PE X l tl) : PI X tg l (iTup X.K tl) := by
 intro pins s σ H R I h
 refine thn (hl pins s σ H _ I h) fun v s1 ⟨x, H1, I1, r1, q1⟩ => ?_
 obtain ⟨a, e, ⟨xs, hq⟩, q⟩ := q1
 subst e
 cases r1
 obtain ⟨its, rv, p, hz⟩ := I1.tuple hq
 refine wpAny_pyIter_tuple (show s1.heap.IsTuple a its.toArray from p) ?_
 refine ⟨s1.heap.objs.size, [s1.heap.objs.size], _, _, H1, rfl, I1.kept (t' := s1.toks) fun b o e => Heap.get?_push_of_some _ e, UX a _, ⟨_, Heap.get?_push_size _ rfl, rfl, rfl⟩, fun b hb => ?_, q⟩
 have e : b = s1.heap.objs.size := by simpa using hb
 subst e
 exact I1.fpOk (Nat.le_refl _) (I1.hok.fresh (Nat.le_refl _))
theorem Zbx {pins : List (Addr × Obj)} {σ : St} {H : Hp} {s : Shared} {R : It → Hp → Prop} {E : Value → Shared → Prop} {lo hi : Int} {t u v : Tok} {tk : Nat} (I : Inv X pins σ H s) (h1 : -(2 ^ 62) ≤ lo) (h2 : lo < 2 ^ 62) (h3 : -(2 ^ 62) ≤ hi) (h4 : hi < 2 ^ 62)
  (q : R (Itr lo (hi - lo).toNat) H) : wpAny (model X.prog X.w) X.A (pyIter (.ref s.heap.objs.size)) (PIE X pins σ tg R) E { s with heap := s.heap.push { cls := .type "range", data := .fields #[.int lo t, .int hi u, .int 1 v] }, toks := tk } := by
 refine wpAny_pyIter_range (IsRange.new ..) (small_one h1 h2 h3 h4) ?_
 have I1 : Inv X pins σ H { s with heap := s.heap.push { cls := .type "range", data := .fields #[.int lo t, .int hi u, .int 1 v] }, toks := tk } := I.kept fun b o e => Heap.get?_push_of_some _ e
 refine ⟨(s.heap.push { cls := .type "range", data := .fields #[.int lo t, .int hi u, .int 1 v] }).objs.size, [(s.heap.push { cls := .type "range", data := .fields #[.int lo t, .int hi u, .int 1 v] }).objs.size], _, _, H, rfl,
  I1.kept (t' := tk) fun b o e => Heap.get?_push_of_some _ e, UY _ lo (hi - lo).toNat, ?_, fun b hb => ?_, q⟩
 ·have e1 : lo + ((0 : Nat) : Int) * 1 = lo := by simp
  have e2 : (((hi - lo).toNat : Nat) : Int) - ((0 : Nat) : Int) = Builtin.Range.rangeSize lo hi 1 := by rw [rangeSize_one]; split <;> omega
  show IsRangeIter _ _ (lo + ((0 : Nat) : Int) * 1) ((((hi - lo).toNat : Nat) : Int) - ((0 : Nat) : Int)) 1
  rw [e1, e2]
  exact Heap.get?_push_size _ rfl
 ·have e : b = (s.heap.push { cls := .type "range", data := .fields #[.int lo t, .int hi u, .int 1 v] }).objs.size := by simpa using hb
  subst e
  exact I1.fpOk (Nat.le_refl _) (I1.hok.fresh (Nat.le_refl _))
def iRng1 (ta : TA) : TI := fun σ H R => ta σ H fun vs H1 => ∃ j : Int, vs = [.int j] ∧ -(2 ^ 62) ≤ j ∧ j < 2 ^ 62 ∧ R (Itr 0 j.toNat) H1
theorem Z0 {a : Expr} {ta : TA} {p pos : Pos} (hg : Gl X "range") (hm : X.mg "range" = none) (ha : PA X [a] ta) (hs : starEach [a] X.env = [(false, eval a X.env)] := by rfl) : PI X tg (.Call (.Name "range" p) [a] [] pos) (iRng1 ta) := by
 intro pins s σ H R I h
 refine Call_ (YN I hg hm boot_range (PyProof.Rows.callWith_type1 (thn (ha pos pins s σ H _ I h) fun us s1 ⟨vs, H1, I1, r1, q1⟩ => ?_) hs rfl))
 obtain ⟨j, e, q1, q2, q⟩ := q1
 subst e
 cases r1 with
 | cons r rr =>
  cases rr
  obtain ⟨t, rfl⟩ := r
  exact call_range_1 (Zbx I1 (by omega) (by omega) q1 q2 (by simpa using q))
def tFor (wi : TI) (g : TG) (tb : TS) : TS := fun D σ H => wi σ H fun J H1 => ∃ W : Nat → Nat → St → Hp → Prop, (∃ m, W 0 m σ H1) ∧ ∀ i m σ H, W i m σ H →
 (J.stop i H ∧ D.nx σ H) ∨ (J.go i H ∧ ∃ N : St → Hp → Prop, (∀ σ' H', N σ' H' → ∃ m', m' < m ∧ W (i + 1) m' σ' H') ∧ ∀ x H', J.yld i H x H' → g x σ H' fun σ2 H2 => tb { D with nx := N, ct := N, bk := D.nx } σ2 H2)
def pinsAt (fp : List Addr) (h : Heap) : List (Addr × Obj) := fp.filterMap fun b => (h.get? b).map fun o => (b, o)
theorem ZQ {fp : List Addr} {h : Heap} {b : Addr} {o : Obj} (hb : b ∈ fp) (e : h.get? b = some o) : (b, o) ∈ pinsAt fp h := List.mem_filterMap.mpr ⟨b, hb, by rw [e]; rfl⟩
theorem Jt {fp : List Addr} {h : Heap} {p : Addr × Obj} (hp : p ∈ pinsAt fp h) : p.1 ∈ fp ∧ h.get? p.1 = some p.2 := by
 obtain ⟨b, hb, e⟩ := List.mem_filterMap.mp hp
 cases q : h.get? b with
 | none => rw [q] at e; cases e
 | some o =>
  rw [q] at e
  have e' : (b, o) = p := Option.some.inj e
  subst e'
  exact ⟨hb, q⟩
theorem Inv.pinned {pins : List (Addr × Obj)} {σ : St} {H : Hp} {s : Shared} {fp : List Addr} (I : Inv X pins σ H s) (hf : ∀ b ∈ fp, FpOk X pins H b) (ho : ∀ b ∈ fp, ∃ o, s.heap.get? b = some o ∧ ∀ v, o.data ≠ .cell v) : Inv X (pins ++ pinsAt fp s.heap) σ H s :=
 I.pins_of fun p hp => (List.mem_append.mp hp).elim (fun z => I.pin p (List.mem_append_right _ z)) fun z => by
  obtain ⟨hb, e⟩ := Jt z
  obtain ⟨f0, f1, f2, _⟩ := hf p.1 hb
  obtain ⟨o, e', d⟩ := ho p.1 hb
  rw [e] at e'; cases e'
  exact ⟨e, f0, f1, f2, d⟩
theorem Inv.unpinned {pins pl : List (Addr × Obj)} {σ : St} {H : Hp} {s : Shared} (I : Inv X (pins ++ pl) σ H s) : Inv X pins σ H s := I.pins_of fun p hp => I.pin p (List.mem_append_right _ (List.mem_append_left _ hp))
theorem Yi {iter : Expr} {body : List Stmt} {wi : TI} {g : TG} {tb : TS} {pos : Pos} (hp : PassesOwn (model X.prog X.w) X.A X.env X.xe) (hc : X.calm = true) (hi : PI X tg iter wi) (hg : PG X tg g) (hb : PSs X body tb)
  (hs : ∀ x, foldedSetIterable iter X.env x = pure x := by intro _; rfl) : PS X (.For tg iter body [] pos) (tFor wi g tb) := by
 intro pins s σ H D I h
 refine wpAny_For (thn (hi pins s σ H _ I h) fun v s1 h1 => thn h1 fun itv s2 h2 => ?_) hs
 obtain ⟨it, fp, tn, J, H2, e, I2, T, st2, f2, W, ⟨m0, w0⟩, turn⟩ := h2
 subst e
 have stat : ∀ {H' : Hp}, (∀ b ∈ fp, H' b = none) → ∀ b ∈ fp, FpOk X pins H' b := fun hn b hb => ⟨hn b hb, (f2 b hb).2⟩
 refine codeAny_forLoop_any (fun n s' => ∃ i σ' H', Inv X pins σ' H' s' ∧ tn i s'.heap ∧ (∀ b ∈ fp, H' b = none) ∧ W i n σ' H') ?_ m0 ⟨0, σ, H2, I2, st2, fun b hb => (f2 b hb).1, w0⟩
 rintro n s3 ⟨i, σ3, H3, I3, st3, fr3, w3⟩
 rcases turn i n σ3 H3 w3 with ⟨stop, qn⟩ | ⟨go, N, hN, step⟩
 ·refine wpAny_passesOwn hp (thn (T.done X rfl rfl rfl hc i pins s3 σ3 H3 X.xe I3 (stat fr3) st3 stop) fun r s4 ⟨hr, I4⟩ => ?_)
  subst hr
  exact wpAny_execs_nil ⟨σ3, H3, I4, qn⟩
 ·refine wpAny_passesOwn hp (thn (T.item X rfl rfl rfl hc i pins s3 σ3 H3 X.xe I3 (stat fr3) st3 go) fun r s4 ⟨u, hr, h4⟩ => ?_)
  subst hr
  refine wpAny_passesOwn hp (thn h4 fun _ s5 ⟨x, H5, I5, r5, y5, st5, fr5⟩ => ?_)
  have I5' := I5.pinned (stat fr5) (T.obj _ _ st5)
  refine wpAny_passesOwn hp (thn (hg _ s5 σ3 H5 x u _ I5' r5 (step x H5 y5)) fun _ s6 ⟨σ6, H6, I6, q6⟩ => ?_)
  refine wpAny_passesOwn hp (thn (hb _ s6 σ6 H6 _ I6 q6) fun f s7 q7 => ?_)
  have again : ∀ {σ7 : St} {H7 : Hp}, Inv X (pins ++ pinsAt fp s5.heap) σ7 H7 s7 → N σ7 H7 → ∃ m, m < n ∧ ∃ i σ' H', Inv X pins σ' H' s7 ∧ tn i s7.heap ∧ (∀ b ∈ fp, H' b = none) ∧ W i m σ' H' := fun {σ7 H7} I7 n7 => by
   obtain ⟨m', hm, w7⟩ := hN σ7 H7 n7
   refine ⟨m', hm, i + 1, σ7, H7, I7.unpinned, T.keep _ _ _ st5 fun b hb o e => (I7.pin (b, o) (List.mem_append_right _ (List.mem_append_right _ (ZQ hb e)))).1, fun b hb => ?_, w7⟩
   obtain ⟨o, e, d⟩ := T.obj _ _ st5 b hb
   exact (I7.pin (b, o) (List.mem_append_right _ (List.mem_append_right _ (ZQ hb e)))).2.1
  cases f with
  | next => obtain ⟨σ7, H7, I7, n7⟩ := q7; exact again I7 n7
  | cont => obtain ⟨σ7, H7, I7, n7⟩ := q7; exact again I7 n7
  | brk => obtain ⟨σ7, H7, I7, q7⟩ := q7; exact ⟨σ7, H7, I7.unpinned, q7⟩
  | ret v => obtain ⟨x7, σ7, H7, I7, r7, q7⟩ := q7; exact ⟨x7, σ7, H7, I7.unpinned, r7, q7⟩
end
theorem YQ {K : PySem.W.Frag} {a : Addr} {xs : List V} {g : TG} {tb : TS} {D : Ends} {σ : St} {H : Hp} (Pv : Nat → St → Hp → Prop) (h0 : Pv 0 σ H) (hl : ∀ i σ H, i ≤ xs.length → Pv i σ H → SqL K H a xs)
  (hs : ∀ i x σ H, xs[i]? = some x → Pv i σ H → g x σ H fun σ2 H2 => tb { D with nx := Pv (i + 1), ct := Pv (i + 1), bk := D.nx } σ2 H2) (hd : ∀ σ H, Pv xs.length σ H → D.nx σ H) :
  ∃ W : Nat → Nat → St → Hp → Prop, (∃ m, W 0 m σ H) ∧ ∀ i m σ H, W i m σ H →
   ((Itl K a).stop i H ∧ D.nx σ H) ∨ ((Itl K a).go i H ∧ ∃ N : St → Hp → Prop, (∀ σ' H', N σ' H' → ∃ m', m' < m ∧ W (i + 1) m' σ' H') ∧ ∀ x H', (Itl K a).yld i H x H' → g x σ H' fun σ2 H2 => tb { D with nx := N, ct := N, bk := D.nx } σ2 H2) := by
 refine ⟨fun i m σ H => m = xs.length - i ∧ i ≤ xs.length ∧ Pv i σ H, ⟨xs.length, by simp, Nat.zero_le _, h0⟩, ?_⟩
 rintro i m σ H ⟨rfl, hi, p⟩
 have q := hl i σ H hi p
 by_cases hlt : i < xs.length
 ·refine .inr ⟨⟨xs, xs[i], q, by simp [hlt]⟩, Pv (i + 1), fun σ' H' p' => ⟨xs.length - (i + 1), by omega, rfl, hlt, p'⟩, fun x H' y => ?_⟩
  obtain ⟨e, y⟩ := y
  subst e
  exact hs i x σ _ (y xs q) p
 ·have e : i = xs.length := by omega
  subst e
  exact .inl ⟨⟨xs, q, Nat.le_refl _⟩, hd σ H p⟩
theorem Yg {lo : Int} {n : Nat} {g : TG} {tb : TS} {D : Ends} {σ : St} {H : Hp} (Pv : Nat → St → Hp → Prop) (h0 : Pv 0 σ H)
  (hs : ∀ i σ H, i < n → Pv i σ H → g (.int (lo + i)) σ H fun σ2 H2 => tb { D with nx := Pv (i + 1), ct := Pv (i + 1), bk := D.nx } σ2 H2) (hd : ∀ σ H, Pv n σ H → D.nx σ H) :
  ∃ W : Nat → Nat → St → Hp → Prop, (∃ m, W 0 m σ H) ∧ ∀ i m σ H, W i m σ H →
   ((Itr lo n).stop i H ∧ D.nx σ H) ∨ ((Itr lo n).go i H ∧ ∃ N : St → Hp → Prop, (∀ σ' H', N σ' H' → ∃ m', m' < m ∧ W (i + 1) m' σ' H') ∧ ∀ x H', (Itr lo n).yld i H x H' → g x σ H' fun σ2 H2 => tb { D with nx := N, ct := N, bk := D.nx } σ2 H2) := by
 refine ⟨fun i m σ H => m = n - i ∧ i ≤ n ∧ Pv i σ H, ⟨n, by simp, Nat.zero_le _, h0⟩, ?_⟩
 rintro i m σ H ⟨rfl, hi, p⟩
 by_cases hlt : i < n
 ·refine .inr ⟨hlt, Pv (i + 1), fun σ' H' p' => ⟨n - (i + 1), by omega, rfl, hlt, p'⟩, fun x H' y => ?_⟩
  obtain ⟨e, y⟩ := y
  subst e y
  exact hs i σ _ hlt p
 ·have e : i = n := by omega
  subst e
  exact .inl ⟨Nat.le_refl _, hd σ H p⟩
end L2
namespace L2
open PySem PySem.Spec PyProof.Rows
abbrev R2 := V → V → Hp → VK → Prop
def OpR (X : Cx) (f : Value → Value → Sem Value) (r : R2) : Prop :=
 ∀ (pins : List (Addr × Obj)) (s : Shared) (σ : St) (H : Hp) (x y : V) (v u : Value) (Q : VK), Inv X pins σ H s → RelV x v → RelV y u → r x y H Q →
  wpAny (model X.prog X.w) X.A (f v u) (EP X pins σ Q) X.xe s
def UnR (X : Cx) (f : Value → Sem Value) (r : V → Hp → VK → Prop) : Prop :=
 ∀ (pins : List (Addr × Obj)) (s : Shared) (σ : St) (H : Hp) (x : V) (v : Value) (Q : VK), Inv X pins σ H s → RelV x v → r x H Q →
  wpAny (model X.prog X.w) X.A (f v) (EP X pins σ Q) X.xe s
def CallR (X : Cx) (f : Value) (r : List V → Hp → VK → Prop) : Prop :=
 ∀ (pins : List (Addr × Obj)) (s : Shared) (σ : St) (H : Hp) (xs : List V) (us : List Value) (Q : VK), Inv X pins σ H s → Vals xs us → r xs H Q →
  wpAny (model X.prog X.w) X.A (call f us) (EP X pins σ Q) X.xe s
def tOp (r : R2) (ta tb : TE) : TE := fun σ H Q => ta σ H fun x H1 => tb σ H1 fun y H2 => r x y H2 Q
def tUn (r : V → Hp → VK → Prop) (ta : TE) : TE := fun σ H Q => ta σ H fun x H1 => r x H1 Q
def rI (C : Int → Int → Prop) (g : Int → Int → V) : R2 := fun x y H Q => ∃ i j, x = .int i ∧ y = .int j ∧ C i j ∧ Q (g i j) H
def rI0 (g : Int → Int → V) : R2 := fun x y H Q => ∃ i j, x = .int i ∧ y = .int j ∧ Q (g i j) H
def rU (g : Int → V) : V → Hp → VK → Prop := fun x H Q => ∃ i, x = .int i ∧ Q (g i) H
section
variable {X : Cx} {a b c : Expr} {ta tb tc : TE} {pos : Pos}
theorem binT (ha : PE X a ta) (hb : PE X b tb) {pins : List (Addr × Obj)} {s : Shared} {σ : St} {H : Hp} {R : V → V → Hp → Prop} (I : Inv X pins σ H s)
  (h : ta σ H fun x H1 => tb σ H1 fun y H2 => R x y H2) {Q : Value → Shared → Prop} {f : Value → Value → Sem Value}
  (hf : ∀ v u s2 x y H2, Inv X pins σ H2 s2 → RelV x v → RelV y u → R x y H2 → wpAny (model X.prog X.w) X.A (f v u) Q X.xe s2) :
  wpAny (model X.prog X.w) X.A (eval a X.env) (fun v s₁ => wpAny (model X.prog X.w) X.A (eval b X.env) (fun u s₂ => wpAny (model X.prog X.w) X.A (f v u) Q X.xe s₂) X.xe s₁) X.xe s := by
 refine thn (ha pins s σ H _ I h) fun v s1 ⟨x, H1, I1, r1, q1⟩ => ?_
 refine thn (hb pins s1 σ H1 _ I1 q1) fun u s2 ⟨y, H2, I2, r2, q2⟩ => ?_
 exact hf v u s2 x y H2 I2 r1 r2 q2
theorem Zp {op : Operator} {r : R2} (ho : OpR X (binaryOp op) r) (ha : PE X a ta) (hb : PE X b tb) : PE X (.BinOp a op b pos) (tOp r ta tb) := by
 intro pins s σ H Q I h
 exact wpAny_BinOp (binT ha hb I h fun v u s2 x y H2 I2 rx ry q => ho pins s2 σ H2 x y v u Q I2 rx ry q)
theorem ZbF {op : UnaryOp} {r : V → Hp → VK → Prop} (ho : UnR X (unaryOp op) r) (ha : PE X a ta) : PE X (.UnaryOp op a pos) (tUn r ta) := by
 intro pins s σ H Q I h
 exact UnaryOp_ (thn (ha pins s σ H _ I h) fun v s1 ⟨x, H1, I1, r1, q1⟩ => ho pins s1 σ H1 x v Q I1 r1 q1)
theorem opI {f : Value → Value → Sem Value} {C : Int → Int → Prop} {g : Int → Int → Int}
  (rule : ∀ (i j : Int) (t u : Tok) (s : Shared) (Q : Value → Shared → Prop) (E : Value → Shared → Prop), C i j → Q (.int (g i j) s.toks) { s with toks := s.toks + 1 } → wpAny (model X.prog X.w) X.A (f (.int i t) (.int j u)) Q E s) :
  OpR X f (rI C fun i j => .int (g i j)) := by
 intro pins s σ H x y v u Q I rx ry h
 obtain ⟨i, j, rfl, rfl, hc, q⟩ := h
 obtain ⟨t, rfl⟩ := rx
 obtain ⟨t', rfl⟩ := ry
 exact rule i j t t' s _ _ hc ⟨.int (g i j), H, I.tok _, ⟨_, rfl⟩, q⟩
theorem opI0 {f : Value → Value → Sem Value} {g : Int → Int → Int}
  (rule : ∀ (i j : Int) (t u : Tok) (s : Shared) (Q : Value → Shared → Prop) (E : Value → Shared → Prop), Q (.int (g i j) s.toks) { s with toks := s.toks + 1 } → wpAny (model X.prog X.w) X.A (f (.int i t) (.int j u)) Q E s) :
  OpR X f (rI0 fun i j => .int (g i j)) := by
 intro pins s σ H x y v u Q I rx ry h
 obtain ⟨i, j, rfl, rfl, q⟩ := h
 obtain ⟨t, rfl⟩ := rx
 obtain ⟨t', rfl⟩ := ry
 exact rule i j t t' s _ _ ⟨.int (g i j), H, I.tok _, ⟨_, rfl⟩, q⟩
theorem opB0 {f : Value → Value → Sem Value} {g : Int → Int → Bool}
  (rule : ∀ (i j : Int) (t u : Tok) (s : Shared) (Q : Value → Shared → Prop) (E : Value → Shared → Prop), Q (.bool (g i j)) s → wpAny (model X.prog X.w) X.A (f (.int i t) (.int j u)) Q E s) :
  OpR X f (rI0 fun i j => .bl (g i j)) := by
 intro pins s σ H x y v u Q I rx ry h
 obtain ⟨i, j, rfl, rfl, q⟩ := h
 obtain ⟨t, rfl⟩ := rx
 obtain ⟨t', rfl⟩ := ry
 exact rule i j t t' s _ _ ⟨.bl (g i j), H, I, rfl, q⟩
def CDiv (i j : Int) : Prop := 0 < j ∧ j < 1073741824
def CPow (i j : Int) : Prop := 0 ≤ j ∧ j ≤ 1000000 ∧ i.natAbs < 2 ^ 64
def CMul (i j : Int) : Prop := (-(2 ^ 64) < i ∧ i < 2 ^ 64) ∨ (-(2 ^ 64) < j ∧ j < 2 ^ 64)
theorem CMul.ok {i j : Int} (h : CMul i j) : IntMulOk i j := by
 rcases h with ⟨h1, h2⟩ | ⟨h1, h2⟩
 ·exact .of_left (intBits_le_64 h1 h2)
 ·exact .of_right (intBits_le_64 h1 h2)
theorem Yt : OpR X (binaryOp .Add) (rI0 fun i j => .int (i + j)) := opI0 fun _ _ _ _ _ _ _ q => add_int q
theorem YI : OpR X (binaryOp .Sub) (rI0 fun i j => .int (i - j)) := opI0 fun _ _ _ _ _ _ _ q => sub_int q
theorem Wb : OpR X (binaryOp .Mult) (rI CMul fun i j => .int (i * j)) := opI fun _ _ _ _ _ _ _ hc q => mul_int q hc.ok
theorem Zay : OpR X (binaryOp .FloorDiv) (rI CDiv fun i j => .int (i / j)) := opI fun i j _ _ _ _ _ hc q => by
 have h1 : (0 : Int) < j := hc.1
 have h2 : j < 1073741824 := hc.2
 exact floordiv_int (by omega) (by rw [Int.fdiv_eq_ediv_of_nonneg i (by omega)]; exact q) (.inl (PyProof.noPylong_small (by omega)))
theorem Yk : OpR X (binaryOp .Mod) (rI (fun _ j => 0 < j) fun i j => .int (i % j)) := opI fun i j _ _ _ _ _ hc q => by
 have h1 : (0 : Int) < j := hc
 exact mod_int' (by omega) (by rw [Int.fmod_eq_emod_of_nonneg i (by omega)]; exact q)
theorem ZbK : OpR X (binaryOp .Pow) (rI CPow fun i j => .int (i ^ j.toNat)) := opI fun _ _ _ _ _ _ _ hc q => pow_int_small hc.1 hc.2.1 hc.2.2 q
theorem unI {f : Value → Sem Value} {g : Int → Int}
  (rule : ∀ (i : Int) (t : Tok) (s : Shared) (Q : Value → Shared → Prop) (E : Value → Shared → Prop), Q (.int (g i) s.toks) { s with toks := s.toks + 1 } → wpAny (model X.prog X.w) X.A (f (.int i t)) Q E s) :
  UnR X f (rU fun i => .int (g i)) := by
 intro pins s σ H x v Q I rx h
 obtain ⟨i, rfl, q⟩ := h
 obtain ⟨t, rfl⟩ := rx
 exact rule i t s _ _ ⟨.int (g i), H, I.tok _, ⟨_, rfl⟩, q⟩
theorem UW : UnR X (unaryOp .USub) (rU fun i => .int (-i)) := unI fun _ _ _ _ _ q => neg_int q
end
def scal : V → V → Bool
 | .non, .non => true | .non, .int _ => true | .int _, .non => true | .non, .bl _ => true | .bl _, .non => true | .non, .str _ => true | .str _, .non => true
 | .int _, .int _ => true | .bl _, .bl _ => true | .str _, .str _ => true | .byt _, .byt _ => true
 | .int _, .str _ => true | .str _, .int _ => true | .bl _, .str _ => true | .str _, .bl _ => true
 | _, _ => false
def rEq : R2 := fun x y H Q => scal x y = true ∧ Q (.bl (decide (x = y))) H
def rNe : R2 := fun x y H Q => scal x y = true ∧ Q (.bl (!decide (x = y))) H
theorem ZaF {i j : Int} : decide (V.int i = V.int j) = (i == j) := by
 rw [Bool.eq_iff_iff]
 simp
theorem Zcq {i j : Bool} : decide (V.bl i = V.bl j) = (i == j) := by
 rw [Bool.eq_iff_iff]
 simp
theorem ZaE {i j : Str} : decide (V.str i = V.str j) = (i == j) := by
 rw [Bool.eq_iff_iff]
 simp
theorem ZaG {i j : Array UInt8} : decide (V.byt i = V.byt j) = (i.toList == j.toList) := by
 rw [Bool.eq_iff_iff]
 cases i
 cases j
 simp
section
variable {X : Cx} {a b c : Expr} {ta tb tc : TE} {pos : Pos}
theorem ZA {pins : List (Addr × Obj)} {σ : St} {H : Hp} {s : Shared} {Q : VK} {k k' : Bool} (I : Inv X pins σ H s) (q : Q (.bl k) H) (e : k = k') : EP X pins σ Q (.bool k') s := by
 subst e
 exact ⟨.bl k, H, I, rfl, q⟩
theorem Wc : OpR X (compareOp .Eq) rEq := by
 intro pins s σ H x y v u Q I rx ry h
 obtain ⟨hs, q⟩ := h
 cases x with
 | non =>
  cases rx
  cases y with
  | non => cases ry; exact PySem.EqNone.eq_none_none (ZA I q (by simp))
  | bl j => cases ry; exact PySem.EqNone.eq_none_bool (ZA I q (by simp))
  | int j => obtain ⟨t', rfl⟩ := ry; exact PySem.EqNone.eq_none_int (ZA I q (by simp))
  | str j => obtain ⟨t', rfl⟩ := ry; exact PySem.EqNone.eq_none_str (ZA I q (by simp))
  | _ => exact absurd (show false = true from hs) Bool.false_ne_true
 | bl i =>
  cases rx
  cases y with
  | non => cases ry; exact PySem.EqNone.eq_bool_none (ZA I q (by simp))
  | bl j => cases ry; exact eq_bool (ZA I q Zcq)
  | str j => obtain ⟨t', rfl⟩ := ry; exact PySem.EqMixed.eq_bool_str (ZA I q (by simp))
  | _ => exact absurd (show false = true from hs) Bool.false_ne_true
 | int i =>
  obtain ⟨t, rfl⟩ := rx
  cases y with
  | non => cases ry; exact PySem.EqNone.eq_int_none (ZA I q (by simp))
  | int j => obtain ⟨t', rfl⟩ := ry; exact eq_int (ZA I q ZaF)
  | str j => obtain ⟨t', rfl⟩ := ry; exact PySem.EqMixed.eq_int_str (ZA I q (by simp))
  | _ => exact absurd (show false = true from hs) Bool.false_ne_true
 | str i =>
  obtain ⟨t, rfl⟩ := rx
  cases y with
  | non => cases ry; exact PySem.EqNone.eq_str_none (ZA I q (by simp))
  | bl j => cases ry; exact PySem.EqMixed.eq_str_bool (ZA I q (by simp))
  | int j => obtain ⟨t', rfl⟩ := ry; exact PySem.EqMixed.eq_str_int (ZA I q (by simp))
  | str j => obtain ⟨t', rfl⟩ := ry; exact eq_str (ZA I q ZaE)
  | _ => exact absurd (show false = true from hs) Bool.false_ne_true
 | byt i =>
  obtain ⟨t, rfl⟩ := rx
  cases y with
  | byt j => obtain ⟨t', rfl⟩ := ry; exact PySem.W.eq_bytes (ZA I q ZaG)
  | _ => exact absurd (show false = true from hs) Bool.false_ne_true
 | _ => cases y <;> exact absurd (show false = true from hs) Bool.false_ne_true
theorem Zax : OpR X (compareOp .NotEq) rNe := by
 intro pins s σ H x y v u Q I rx ry h
 obtain ⟨hs, q⟩ := h
 cases x with
 | non =>
  cases rx
  cases y with
  | non => cases ry; exact PySem.EqNone.ne_none_none (ZA I q (by simp))
  | bl j => cases ry; exact PySem.EqNone.ne_none_bool (ZA I q (by simp))
  | int j => obtain ⟨t', rfl⟩ := ry; exact PySem.EqNone.ne_none_int (ZA I q (by simp))
  | str j => obtain ⟨t', rfl⟩ := ry; exact PySem.EqNone.ne_none_str (ZA I q (by simp))
  | _ => exact absurd (show false = true from hs) Bool.false_ne_true
 | bl i =>
  cases rx
  cases y with
  | non => cases ry; exact PySem.EqNone.ne_bool_none (ZA I q (by simp))
  | bl j => cases ry; exact ne_bool (ZA I q (congrArg not Zcq))
  | str j => obtain ⟨t', rfl⟩ := ry; exact PySem.EqMixed.ne_bool_str (ZA I q (by simp))
  | _ => exact absurd (show false = true from hs) Bool.false_ne_true
 | int i =>
  obtain ⟨t, rfl⟩ := rx
  cases y with
  | non => cases ry; exact PySem.EqNone.ne_int_none (ZA I q (by simp))
  | int j => obtain ⟨t', rfl⟩ := ry; exact ne_int (ZA I q (congrArg not ZaF))
  | str j => obtain ⟨t', rfl⟩ := ry; exact PySem.EqMixed.ne_int_str (ZA I q (by simp))
  | _ => exact absurd (show false = true from hs) Bool.false_ne_true
 | str i =>
  obtain ⟨t, rfl⟩ := rx
  cases y with
  | non => cases ry; exact PySem.EqNone.ne_str_none (ZA I q (by simp))
  | bl j => cases ry; exact PySem.EqMixed.ne_str_bool (ZA I q (by simp))
  | int j => obtain ⟨t', rfl⟩ := ry; exact PySem.EqMixed.ne_str_int (ZA I q (by simp))
  | str j => obtain ⟨t', rfl⟩ := ry; exact ne_str (ZA I q (congrArg not ZaE))
  | _ => exact absurd (show false = true from hs) Bool.false_ne_true
 | byt i =>
  obtain ⟨t, rfl⟩ := rx
  cases y with
  | byt j => obtain ⟨t', rfl⟩ := ry; exact PySem.W.ne_bytes (ZA I q (congrArg not ZaG))
  | _ => exact absurd (show false = true from hs) Bool.false_ne_true
 | _ => cases y <;> exact absurd (show false = true from hs) Bool.false_ne_true
theorem Zde : OpR X (compareOp .Lt) (rI0 fun i j => .bl (decide (i < j))) := opB0 fun _ _ _ _ _ _ _ q => lt_int q
theorem Zdf : OpR X (compareOp .LtE) (rI0 fun i j => .bl (decide (i ≤ j))) := opB0 fun _ _ _ _ _ _ _ q => le_int q
theorem Zdg : OpR X (compareOp .Gt) (rI0 fun i j => .bl (decide (j < i))) := opB0 fun _ _ _ _ _ _ _ q => gt_int q
theorem Zdh : OpR X (compareOp .GtE) (rI0 fun i j => .bl (decide (j ≤ i))) := opB0 fun _ _ _ _ _ _ _ q => ge_int q
theorem OpR.or {f : Value → Value → Sem Value} {r r' : R2} (h : OpR X f r) (h' : OpR X f r') : OpR X f (fun x y H Q => r x y H Q ∨ r' x y H Q) := by
 intro pins s σ H x y v u Q I rx ry q
 rcases q with q | q
 ·exact h pins s σ H x y v u Q I rx ry q
 ·exact h' pins s σ H x y v u Q I rx ry q
theorem nomark (b : Expr) {op : CmpOp} (h : op ≠ .In := by decide) (h2 : op ≠ .NotIn := by decide) : behindInMarks op b = false := by
 have e1 : (op == CmpOp.In) = false := by cases op <;> first | rfl | exact absurd rfl h
 have e2 : (op == CmpOp.NotIn) = false := by cases op <;> first | rfl | exact absurd rfl h2
 cases b <;> simp [behindInMarks, e1, e2]
theorem Yq {op : CmpOp} {r : R2} (ho : OpR X (compareOp op) r) (ha : PE X a ta) (hb : PE X b tb) (hm : behindInMarks op b = false) : PE X (.Compare a [op] [b] pos) (tOp r ta tb) := by
 intro pins s σ H Q I h
 exact wpAny_Compare1 (binT ha hb I h fun v u s2 x y H2 I2 rx ry q => ho pins s2 σ H2 x y v u Q I2 rx ry q) hm
def tTest (t : TE) : TT := fun σ H Q => t σ H fun x H' => ∃ k, x = .bl k ∧ Q k H'
theorem ZG {op : CmpOp} {r : R2} (ho : OpR X (compareOp op) r) (ha : PE X a ta) (hb : PE X b tb) (hm : behindInMarks op b = false) : PT X (.Compare a [op] [b] pos) (tTest (tOp r ta tb)) := by
 intro pins s σ H Q I h
 refine wpAny_isTrue_Compare1 (thn (ha pins s σ H _ I h) fun v s1 ⟨x, H1, I1, r1, q1⟩ => thn (hb pins s1 σ H1 _ I1 q1) fun u s2 ⟨y, H2, I2, r2, q2⟩ =>
  thn (ho pins s2 σ H2 x y v u _ I2 r1 r2 q2) fun c s3 ⟨z, H3, I3, r3, k, e, q3⟩ => ?_) hm
 subst e
 cases r3
 exact wpAny_truthy_bool ⟨H3, I3, q3⟩
def tChain (r r' : R2) (ta tb tc : TE) : TE := fun σ H Q => ta σ H fun x H1 => tb σ H1 fun y H2 => r x y H2 fun z H3 => ∃ k, z = .bl k ∧
 (if k = true then tc σ H3 fun w' H4 => r' y w' H4 Q else Q (.bl false) H3)
theorem ZbJ {op op' : CmpOp} {r r' : R2} (ho : OpR X (compareOp op) r) (ho' : OpR X (compareOp op') r') (ha : PE X a ta) (hb : PE X b tb) (hc : PE X c tc)
  (hm : lastMarks [op, op'] [b, c] = false := by with_unfolding_all rfl) : PE X (.Compare a [op, op'] [b, c] pos) (tChain r r' ta tb tc) := by
 intro pins s σ H Q I h
 refine Compare_chain (thn (ha pins s σ H _ I h) fun v s1 ⟨x, H1, I1, r1, q1⟩ => chain_link (thn (hb pins s1 σ H1 _ I1 q1) fun u s2 ⟨y, H2, I2, r2, q2⟩ =>
  thn (ho pins s2 σ H2 x y v u _ I2 r1 r2 q2) fun d s3 ⟨z, H3, I3, r3, k, e, q3⟩ => ?_)) hm
 subst e
 cases r3
 refine wpAny_truthy_bool ?_
 cases k with
 | false => exact ite_ff ⟨.bl false, H3, I3, rfl, q3⟩
 | true => exact ite_tt (chain_last (thn (hc pins s3 σ H3 _ I3 q3) fun w' s4 ⟨z', H4, I4, r4, q4⟩ => ho' pins s4 σ H4 y z' u w' Q I4 r2 r4 q4))
theorem line63 : (sizeLine : Nat) < 2 ^ 63 := by rw [sizeLine_eq]; decide
theorem vals1 {x : V} {us : List Value} (r : Vals [x] us) : ∃ u, us = [u] ∧ RelV x u := by
 cases r with
 | cons r1 r2 => cases r2; exact ⟨_, rfl, r1⟩
theorem vals2 {x y : V} {us : List Value} (r : Vals [x, y] us) : ∃ u w', us = [u, w'] ∧ RelV x u ∧ RelV y w' := by
 cases r with
 | cons r1 r2 =>
  cases r2 with
  | cons r3 r4 => cases r4; exact ⟨_, _, rfl, r1, r3⟩
theorem WR (hc : X.calm = true) : CallR X (.builtin "max") (fun xs H Q => ∃ i j, xs = [.int i, .int j] ∧ Q (.int (if j > i then j else i)) H) := by
 intro pins s σ H xs us Q I r h
 obtain ⟨i, j, rfl, q⟩ := h
 obtain ⟨u, w', rfl, ⟨t, rfl⟩, ⟨t', rfl⟩⟩ := vals2 r
 refine max_two_ints (I.ok.hd hc) fun h' tk k => ⟨_, H, I.kept k, ?_, q⟩
 by_cases hj : j > i
 ·rw [if_pos hj, if_pos hj]; exact ⟨_, rfl⟩
 ·rw [if_neg hj, if_neg hj]; exact ⟨_, rfl⟩
theorem Zbm (hc : X.calm = true) : CallR X (.builtin "min") (fun xs H Q => ∃ i j, xs = [.int i, .int j] ∧ Q (.int (if j < i then j else i)) H) := by
 intro pins s σ H xs us Q I r h
 obtain ⟨i, j, rfl, q⟩ := h
 obtain ⟨u, w', rfl, ⟨t, rfl⟩, ⟨t', rfl⟩⟩ := vals2 r
 refine min_two_ints (I.ok.hd hc) fun h' tk k => ⟨_, H, I.kept k, ?_, q⟩
 by_cases hj : j < i
 ·rw [if_pos hj, if_pos hj]; exact ⟨_, rfl⟩
 ·rw [if_neg hj, if_neg hj]; exact ⟨_, rfl⟩
end
end L2
namespace L2
open PySem PySem.Spec PyProof.Rows
structure ObjM (h : Heap) (x dx C : Addr) (mA : Str → Option Value) : Prop where
 obj : h.get? x = some (PySem.W.instObj C dx)
 ns : h.Ns1 dx mA
 ne : dx ≠ x
theorem Zbc {h : Heap} {dx : Addr} {mA : Str → Option Value} (n : h.Ns1 dx mA) : ∃ od, h.get? dx = some od ∧ ∀ name, PySem.W.lookIn name od = some (mA name) := by
 obtain ⟨o, es, ep, ho, hd, hk, _, hm⟩ := n
 refine ⟨o, ho, fun name => ?_⟩
 have e := hm name
 unfold nsFind findBy at e
 rw [← Array.find?_toList] at e
 unfold PySem.W.lookIn
 rw [hd]
 dsimp only
 split
 ·rename_i y q
  rw [q] at e
  exact congrArg some e
 ·rename_i q
  rw [q] at e
  have a : es.toList.any (·.refKey) = false := by
   rw [List.any_eq_false]
   intro y hy
   obtain ⟨z, t, hkey⟩ := hk y (Array.mem_toList_iff.mp hy)
   simp [DictEntry.refKey, hkey]
  have a' : ¬ es.toList.any (·.refKey) = true := by rw [a]; exact Bool.false_ne_true
  rw [if_neg a']
  exact congrArg some e
theorem ObjM.look {h : Heap} {x dx C : Addr} {mA : Str → Option Value} (I : ObjM h x dx C mA) : ∃ od, PySem.W.InstAt h x (PySem.W.instObj C dx) C (some od) ∧ ∀ name, PySem.W.lookIn name od = some (mA name) :=
 let ⟨od, ho, hl⟩ := Zbc I.ns
 ⟨od, ⟨I.obj, rfl, rfl, ho⟩, hl⟩
section
variable {P : Program} {w : World} {H H' : Hp} {h h' : Heap} {a C dx : Addr} {fs fs' : List (Str × V)}
theorem Zc5 (hok : HOk P w H h) (e : H a = some (.ins C dx fs)) : ∃ mA, ObjM h a dx C mA ∧ (∀ f, RelO (fs.lookup f) (mA f)) ∧ PySem.Within mA (fs.map (·.1)) ∧ fs.length ≤ 1000 ∧ H dx = some (.own a) := by
 obtain ⟨d, z, ne, ob, mA, n, r, q⟩ := (show ObjOk P w H h a (.ins C dx fs) from hok a _ e)
 exact ⟨mA, ⟨ob, n, ne⟩, r, q, z, d⟩
end
structure Cls (K : PySem.W.Frag) (C : Addr) : Prop where
 pg : PySem.W.plainGet K C Str.empty = true
 hd : PySem.W.hasDictIn K C = true
 po : PySem.W.plainOver K C = true
 sa : PySem.W.findIn K (.ref C) "__setattr__" = some (some (.builtin "object.__setattr__"))
theorem Cls.get {K : PySem.W.Frag} {C : Addr} (c : Cls K C) (f : Str) : PySem.W.plainGet K C f = true := c.pg
structure Con (K : PySem.W.Frag) (C : Addr) (f : Str) (v : V) (u : Value) : Prop where
 at_ : PySem.W.findIn K (.ref C) f = some (some u)
 rel : RelV v u
 get : PySem.W.specialIn K u "__get__" = some none
 cp : PySem.W.copiedNames.contains f = false
structure Meth (K : PySem.W.Frag) (C : Addr) (m : Str) (f : Addr) : Prop where
 at_ : PySem.W.findIn K (.ref C) m = some (some (.ref f))
 fn : PySem.W.isFn K (.ref f) = true
 kp : PySem.W.keepIn K (.ref f) = true
section
variable {X : Cx} {pins : List (Addr × Obj)} {σ : St} {H : Hp} {s : Shared} {A : Around} {E : Value → Shared → Prop} {Q : Value → Shared → Prop} {c : Value} {b : Bool}
inductive TyOf (K : PySem.W.Frag) (H : Hp) : V → Value → Prop where
 | non : TyOf K H .non (.type "NoneType")
 | bl (x : Bool) : TyOf K H (.bl x) (.type "bool")
 | int (i : Int) : TyOf K H (.int i) (.type "int")
 | str (x : Str) : TyOf K H (.str x) (.type "str")
 | flt (x : UInt64) : TyOf K H (.flt x) (.type "float")
 | lst {a : Addr} {xs : List V} (e : H a = some (.lst xs)) : TyOf K H (.ref a) (.type "list")
 | frz {a : Addr} {o : Obj} {xs : List V} (e : H a = some (.frz o (.lst xs))) : TyOf K H (.ref a) (.type "list")
 | tup {a : Addr} {xs : List V} (e : H a = some (.tup xs)) : TyOf K H (.ref a) (.type "tuple")
 | dK {a : Addr} {kvs : List (Key × V)} (e : H a = some (.dK kvs)) : TyOf K H (.ref a) (.type "dict")
 | dT {a : Addr} {kvs : List (List Key × V)} (e : H a = some (.dT kvs)) : TyOf K H (.ref a) (.type "dict")
 | ins {a C dx : Addr} {fs : List (Str × V)} (e : H a = some (.ins C dx fs)) (cl : Cls K C) (ha : PySem.W.findIn K (.ref C) "__class__" = some (some (.builtin "object.__class__")))
   (hn : PySem.W.specialIn K (.builtin "object.__class__") "__get__" = some (some (.builtin "getset_descriptor.__get__"))) (htk : PySem.W.takesIn K (.builtin "object.__class__") = some true)
   (hm : PySem.W.mroIn K C (.type "object") = some true) : TyOf K H (.ref a) (.ref C)
theorem Zbg {x : V} {u t : Value} (I : Inv X pins σ H s) (rx : RelV x u) (ty : TyOf X.K H x t) (e : PySem.W.kitOne X.K t c = some b) (h : ∀ tk, Q (.bool b) { s with toks := tk }) :
  wpAny (model X.prog X.w) A (call (.builtin "isinstance") [u, c]) Q E s := by
 cases ty with
 | non => cases (show u = Value.none from rx); exact PySem.W.kia_one PySem.W.kitx_none I.kIn True.intro e (fun z => nomatch z) h
 | bl y => cases (show u = Value.bool y from rx); exact PySem.W.kia_one PySem.W.kitx_bool I.kIn True.intro e (fun z => nomatch z) h
 | int i => obtain ⟨t, q⟩ := (show ∃ t, u = Value.int i t from rx); cases q; exact PySem.W.kia_one PySem.W.kitx_int I.kIn True.intro e (fun z => nomatch z) h
 | str y => obtain ⟨t, q⟩ := (show ∃ t, u = Value.str y t from rx); cases q; exact PySem.W.kia_one PySem.W.kitx_str I.kIn True.intro e (fun z => nomatch z) h
 | flt y => obtain ⟨t, q⟩ := (show ∃ t, u = Value.float y t from rx); cases q; exact PySem.W.kia_one PySem.W.kitx_float I.kIn True.intro e (fun z => nomatch z) h
 | @lst a xs ea =>
  cases (show u = Value.ref a from rx)
  obtain ⟨_, _, n, _, h1⟩ := (show ObjOk X.prog X.w H s.heap a (.lst xs) from I.hok a _ ea)
  exact PySem.W.kia_one PySem.W.kitx_list I.kIn ⟨_, h1, rfl⟩ e (fun z => nomatch z) h
 | @frz a ob xs ea =>
  cases (show u = Value.ref a from rx)
  obtain ⟨_, _, _, n, _, h1⟩ := (show ObjOk X.prog X.w H s.heap a (.frz ob (.lst xs)) from I.hok a _ ea)
  exact PySem.W.kia_one PySem.W.kitx_list I.kIn ⟨_, h1, rfl⟩ e (fun z => nomatch z) h
 | @tup a xs ea =>
  cases (show u = Value.ref a from rx)
  obtain ⟨_, _, _, p, _⟩ := (show ObjOk X.prog X.w H s.heap a (.tup xs) from I.hok a _ ea)
  obtain ⟨o, h1, h2, _⟩ := p
  exact PySem.W.kia_one PySem.W.kitx_tuple I.kIn ⟨o, h1, h2⟩ e (fun z => nomatch z) h
 | @dK a kvs ea =>
  cases (show u = Value.ref a from rx)
  obtain ⟨_, _, vs, _, p⟩ := (show ObjOk X.prog X.w H s.heap a (.dK kvs) from I.hok a _ ea)
  obtain ⟨o, es, ep, h1, h2, _⟩ := p
  exact PySem.W.kia_one PySem.W.kitx_dict I.kIn ⟨o, h1, h2.1⟩ e (fun z => nomatch z) h
 | @dT a kvs ea =>
  cases (show u = Value.ref a from rx)
  obtain ⟨_, _, xs, _, o, es, ep, h1, h2, _⟩ := (show ObjOk X.prog X.w H s.heap a (.dT kvs) from I.hok a _ ea)
  exact PySem.W.kia_one PySem.W.kitx_dict I.kIn ⟨o, h1, h2.1⟩ e (fun z => nomatch z) h
 | @ins a C dx fs ea cl ha hn htk hm =>
  cases (show u = Value.ref a from rx)
  obtain ⟨mA, O, _⟩ := Zc5 I.hok ea
  obtain ⟨od, J, _⟩ := O.look
  exact PySem.W.kia_one (PySem.W.kitx_own (cl.get _) cl.hd ha hn htk hm) I.kIn J e (fun z => nomatch z) h
end
end L2
namespace L2
open PySem PySem.Spec PyProof.Rows
structure Room (k : Nat) (A : Around) : Prop where
 hd : A.handled = none
 dp : A.depth + 3 * k + 5 < recursionLimit
 un : A.units + 16 * k + 200 < cLine
theorem Room.mono {j k : Nat} {A : Around} (r : Room k A) (h : j ≤ k) : Room j A := ⟨r.hd, by have := r.dp; omega, by have := r.un; omega⟩
theorem Room.deeper {k : Nat} {A : Around} (r : Room (k + 1) A) (env : Env) : Room k (A.deeper env) :=
 ⟨r.hd, by have := r.dp; show A.depth + 1 + 3 * k + 5 < _; omega, by have := r.un; show A.units + 3 + 16 * k + 200 < _; omega⟩
theorem Room.depth {k : Nat} {A : Around} (r : Room k A) : A.depth < recursionLimit := by have := r.dp; omega
theorem Room.units {k : Nat} {A : Around} (r : Room k A) : A.units + 64 < cLine := by have := r.un; omega
theorem Room.units0 {k : Nat} {A : Around} (r : Room k A) : A.units < cLine := by have := r.un; omega
def tNil : TA := fun _ H Q => Q [] H
def tCons (ta : TE) (tr : TA) : TA := fun σ H Q => ta σ H fun x H1 => tr σ H1 fun xs H2 => Q (x :: xs) H2
section
variable {X : Cx} {e : Expr} {es : List Expr} {te : TE} {t : TA} {pos : Pos}
theorem Zc : PA X [] tNil := fun _ _ _ _ H Q I h => Calls.spliced_nil ⟨[], H, I, .nil, h⟩
theorem Za (ha : PE X e te) (hr : PA X es t) (hs : starEach (e :: es) X.env = (false, eval e X.env) :: starEach es X.env := by rfl) : PA X (e :: es) (tCons te t) := by
 intro pos pins s σ H Q I h
 rw [hs]
 show wpAny _ _ (spliced ((false, eval e X.env) :: backTo pos (starEach es X.env))) _ _ s
 refine Calls.spliced_cons (thn (ha pins s σ H _ I h) fun u s1 ⟨x, H1, I1, r1, q1⟩ => ?_)
 exact thn (hr pos pins s1 σ H1 _ I1 q1) fun us s2 ⟨xs, H2, I2, r2, q2⟩ => ⟨x :: xs, H2, I2, .cons r1 r2, q2⟩
def tTup (t : TA) : TE := fun σ H Q => t σ H fun xs H1 => xs.length ≤ sizeLine ∧ ∀ p, H1 p = none → Q (.ref p) (upd H1 p (.tup xs))
def tLst (t : TA) : TE := fun σ H Q => t σ H fun xs H1 => xs.length ≤ sizeLine ∧ ∀ p, H1 p = none → Q (.ref p) (upd H1 p (.lst xs))
theorem Zv {x1} (h : PA X es t) : PE X (.Tuple es x1 pos) (tTup t) := by
 intro pins s σ H Q I hq
 refine wpAny_Tuple_spliced (thn (h pos pins s σ H _ I hq) fun us s1 ⟨xs, H1, I1, r, z, q⟩ => ⟨by rw [← r.length]; exact z, ?_⟩)
 have hf : H1 s1.heap.objs.size = none := I1.hok.fresh (Nat.le_refl _)
 refine ⟨.ref s1.heap.objs.size, upd H1 s1.heap.objs.size (.tup xs), I1.laid (t' := s1.toks) (fun b u e => Heap.get?_push_of_some _ e) (Nat.le_refl _) ?_, rfl, q _ hf⟩
 exact ⟨z, us, r, ⟨_, Heap.get?_push_size _ rfl, rfl, _, rfl⟩, _, Heap.get?_push_size _ rfl, rfl⟩
theorem ZD (h : PA X es t) : PE X (.List es pos) (tLst t) := by
 intro pins s σ H Q I hq
 refine wpAny_List_spliced (thn (h pos pins s σ H _ I hq) fun us s1 ⟨xs, H1, I1, r, z, q⟩ => ⟨by rw [← r.length]; exact z, ?_⟩)
 have hf : H1 s1.heap.objs.size = none := I1.hok.fresh (Nat.le_refl _)
 refine ⟨.ref s1.heap.objs.size, upd H1 s1.heap.objs.size (.lst xs), I1.laid (t' := s1.toks) (fun b u e => Heap.get?_push_of_some _ e) (Nat.le_refl _) ?_, rfl, q _ hf⟩
 exact ⟨z, us, 0, r, Heap.get?_push_size _ rfl⟩
end
abbrev Sp := List V → Hp → VK → XK → Prop
abbrev CXT := List Env → Hp → Shared → XK → Value → Shared → Prop
structure Env0 (P : Program) (w : World) (K : PySem.W.Frag) (mg : Str → Option Value) (base : Heap) (A : Around) (outer : List Env) (s : Shared) (H : Hp) : Prop where
 frames : A.frames = some outer
 mod : Mod K mg base
 bs : ∀ b o, base.get? b = some o → s.heap.get? b = some o ∧ H b = none
 bsz : base.objs.size ≤ s.heap.objs.size
 funs : s.heap.FunFrames base outer
 frf : ∀ b ∈ frs outer, H b = none
 hok : HOk P w H s.heap
 bare : AllBare s.gens
def CE (outer : List Env) (P : Program) (w : World) (H : Hp) (s : Shared) (Q : VK) (u : Value) (s' : Shared) : Prop :=
 ∃ v H', s'.os = s.os ∧ AllBare s'.gens ∧ Un (frs outer) [] H H' s.heap s'.heap ∧ HOk P w H' s'.heap ∧ RelV v u ∧ Q v H'
def CR (CX : CXT) (outer : List Env) (P : Program) (w : World) (H : Hp) (s : Shared) (Q : VK) (E : XK) (r : Result) (s' : Shared) : Prop :=
 match r with
 | .ok (.ret u) => CE outer P w H s Q u s'
 | .ok _ => False
 | .error e => CX outer H s E e s'
structure FnOk (P : Program) (w : World) (K : PySem.W.Frag) (mg : Str → Option Value) (base : Heap) (CX : CXT) (k : Nat) (f : Addr) (fd : FuncData) (ps : List Str) (sp : Sp) : Prop where
 len : ∀ vs H Q E, sp vs H Q E → vs.length = ps.length
 run : ∀ (A : Around) (outer : List Env) (s : Shared) (H : Hp) (args : Args) (us : List Value) (vs : List V) (Q : VK) (E : XK), Room k A → Env0 P w K mg base A outer s H → BindsTo s fd args (ps.zip us) → Vals vs us → sp vs H Q E →
  codeAny (model P w) A (.call (.ref f) args) (CR CX outer P w H s Q E) s
section
variable {X : Cx} {pins : List (Addr × Obj)} {σ : St} {H : Hp} {s s' : Shared}
theorem Inv.env0 (I : Inv X pins σ H s) : Env0 X.prog X.w X.K X.mg X.base X.A X.stack s H :=
 ⟨I.ok.frames, I.ok.mod, I.bs, Nat.le_trans I.ok.bsz I.sz, I.stack, I.stkFree, I.hok, I.bare⟩
theorem Inv.after {Q : VK} {u : Value} (I : Inv X pins σ H s) (h : CE X.stack X.prog X.w H s Q u s') : EP X pins σ Q u s' := by
 obtain ⟨v, H', os, bare, un, hok, r, q⟩ := h
 obtain ⟨hh, g, d, t, os'⟩ := s'
 obtain rfl : os' = s.os := os
 exact ⟨v, H', I.call (h' := hh) (g' := g) (d' := d) (t' := t) (ch := []) un hok bare (fun b z => absurd z (by simp)), r, q⟩
end
def tCall (sp : Sp) (dvs : List V) (E : XK) (t : TA) : TE := fun σ H Q => t σ H fun vs H1 => sp (vs ++ dvs) H1 Q E
def Binds (K : PySem.W.Frag) (fd : FuncData) (ps : List Str) (ds : List Value) : Prop :=
 ∀ (s : Shared) (us : List Value), K.In s.heap → (us ++ ds).length = ps.length → BindsTo s fd ⟨us, []⟩ (ps.zip (us ++ ds))
theorem Binds.all {K : PySem.W.Frag} {fd : FuncData} {ps : List Str} (h : ∀ us : List Value, us.length = ps.length → bindArgs fd ⟨us, []⟩ = pure (ps.zip us)) : Binds K fd ps [] := fun s us _ hl => by
 rw [List.append_nil] at hl ⊢
 exact .of_eq (h us hl)
def Passes (CX : CXT) (X : Cx) (E : XK) : Prop := ∀ (pins : List (Addr × Obj)) (σ : St) (H : Hp) (s : Shared) (e : Value) (s' : Shared), Inv X pins σ H s → CX X.stack H s E e s' → X.xe e s'
section
variable {X : Cx} {CX : CXT} {k : Nat} {f C : Addr} {fd : FuncData} {ps : List Str} {sp : Sp} {dvs : List V} {ds : List Value} {E : XK} {x m : Str} {p pos apos : Pos} {e o : Expr} {es : List Expr} {ta : TE} {t : TA}
theorem Zbt {pins : List (Addr × Obj)} {σ : St} {H : Hp} {s : Shared} {Q : VK} {us : List Value} {vs : List V} (F : FnOk X.prog X.w X.K X.mg X.base CX k f fd ps sp) (hr : Room k X.A) (hb : Binds X.K fd ps ds) (hd : Vals dvs ds) (hx : Passes CX X E)
  (I : Inv X pins σ H s) (r : Vals vs us) (h : sp (vs ++ dvs) H Q E) : wpAny (model X.prog X.w) X.A (call (.ref f) us) (EP X pins σ Q) X.xe s := by
 have r2 : Vals (vs ++ dvs) (us ++ ds) := r.append hd
 have hl : (us ++ ds).length = ps.length := by rw [← r2.length]; exact F.len _ _ _ _ h
 refine wpAny_call (codeAny_mono (F.run X.A X.stack s H ⟨us, []⟩ (us ++ ds) (vs ++ dvs) Q E hr I.env0 (hb s us I.kIn hl) r2 h) fun r s' hq => ?_)
 cases r with
 | error e => exact hx pins σ H s e s' I hq
 | ok fl =>
  cases fl with
  | ret u => exact I.after hq
  | next => exact False.elim hq
  | brk => exact False.elim hq
  | cont => exact False.elim hq
theorem Zaw (F : FnOk X.prog X.w X.K X.mg X.base CX k f fd ps sp) (hr : Room k X.A) (hg : Gl X x) (hm : X.mg x = some (.ref f)) (hk : PySem.W.keepIn X.K (.ref f) = true) (hb : Binds X.K fd ps ds) (hd : Vals dvs ds) (hx : Passes CX X E)
  (ha : PA X (e :: es) t) (hdb : (x == ("__debug__" : Str)) = false := by decide) (he : starEach (e :: es) X.env = (false, eval e X.env) :: starEach es X.env := by rfl) (hpl : (backTo pos (starEach es X.env)).any (·.1) = false := by rfl) :
  PE X (.Call (.Name x p) (e :: es) [] pos) (tCall sp dvs E t) := by
 intro pins s σ H Q I h
 refine wpAny_Call_Name_kw (Ji I hg hm ?_ hdb)
 refine PySem.W.callWith_K (h₀ := X.base) I.ok.mod.kin hk (thn (ha pos pins s σ H _ I h) fun us s1 ⟨vs, H1, I1, r, q⟩ => ⟨I1.kIn, ?_⟩) he hpl
 exact Zbt F hr hb hd hx I1 r q
structure Mk (K : PySem.W.Frag) (C f : Addr) : Prop where
 makes : PySem.W.makesIn K C = true
 init : PySem.W.findIn K (.ref C) "__init__" = some (some (.ref f))
 fn : PySem.W.isFn K (.ref f) = true
 kp : PySem.W.keepIn K (.ref C) = true
end
def PK (X : Cx) (kws : List Keyword) (t : TA) : Prop :=
 ∀ (pos : Pos) (pins : List (Addr × Obj)) (s : Shared) (σ : St) (H : Hp) (Q : List V → Hp → Prop), Inv X pins σ H s → t σ H Q → wpAny (model X.prog X.w) X.A (evalAll ((backToKw pos (keywordEach kws X.env)).map (·.2))) (AP X pins σ Q) X.xe s
section
variable {X : Cx} {CX : CXT} {k : Nat} {f C : Addr} {fd : FuncData} {ps ks : List Str} {sp : Sp} {E : XK} {x m : Str} {p pos apos kpos : Pos} {e o : Expr} {es : List Expr} {kws : List Keyword} {te ta : TE} {t tk : TA} {nm : Option Str}
theorem Zdp : PK X [] tNil := fun _ _ _ _ H Q I h => wpAny_evalAll_nil ⟨[], H, I, .nil, h⟩
theorem ZcC (ha : PE X e te) (hr : PK X kws t) : PK X (⟨nm, e, kpos⟩ :: kws) (tCons te t) := by
 intro pos pins s σ H Q I h
 show wpAny _ _ (evalAll ((do let v ← eval e X.env; standAt pos; pure v) :: (backToKw pos (keywordEach kws X.env)).map (·.2))) _ _ s
 refine wpAny_evalAll_cons (wpAny_bind (thn (ha pins s σ H _ I h) fun u s1 ⟨x, H1, I1, r1, q1⟩ => wpAny_bind (wpAny_standAt (wpAny_pure ?_))))
 exact thn (hr pos pins s1 σ H1 _ I1 q1) fun us s2 ⟨xs, H2, I2, r2, q2⟩ => ⟨x :: xs, H2, I2, .cons r1 r2, q2⟩
structure KBinds (K : PySem.W.Frag) (fd : FuncData) (ps ks : List Str) (g : List Value → List Value → List Value) (gV : List V → List V → List V) : Prop where
 to : ∀ (s : Shared) (us ws : List Value), K.In s.heap → (g us ws).length = ps.length → BindsTo s fd ⟨us, ks.zip ws⟩ (ps.zip (g us ws))
 rel : ∀ {vs : List V} {us : List Value} {zs : List V} {ws : List Value}, Vals vs us → Vals zs ws → Vals (gV vs zs) (g us ws)
variable {g : List Value → List Value → List Value} {gV : List V → List V → List V}
end
structure FnScope (N P : List Str) (sc : Scope) : Prop where
 kind : sc.kind = .function
 co : sc.isCoroutine = false
 gen : sc.isGenerator = false
 nd : N.Nodup
 pre : N.take P.length = P
 par : ∀ x ∈ P, sc.names.lookup x = some .local ∨ sc.names.lookup x = some .cell
 nofree : ∀ y ∈ sc.names, y.2 ≠ .free
theorem WS {kindOf : Str → Option NameKind} {x : Str} : ∀ {binds : List (Str × Value)} {m : Str → Option Value}, (∀ v, (x, v) ∉ binds) → bindL kindOf binds m x = m x
 | [], _, _ => rfl
 | (n, v) :: r, m, h => by
  unfold bindL
  rw [WS fun w hw => h w (List.mem_cons_of_mem _ hw)]
  split
  ·have : x ≠ n := by rintro rfl; exact h v List.mem_cons_self
   simp [this]
  ·rfl
theorem WU {kindOf : Str → Option NameKind} {x : Str} : ∀ {binds : List (Str × Value)} {m : Str → Option Value}, (∀ v, (x, v) ∉ binds) → bindC kindOf binds m x = m x
 | [], _, _ => rfl
 | (n, v) :: r, m, h => by
  unfold bindC
  rw [WU fun w hw => h w (List.mem_cons_of_mem _ hw)]
  split
  ·rfl
  ·have : x ≠ n := by rintro rfl; exact h v List.mem_cons_self
   simp [this]
theorem WT {kindOf : Str → Option NameKind} {x : Str} {v : Value} : ∀ {P : List Str} {vs : List Value} {i : Nat} {m : Str → Option Value}, P.Nodup → P[i]? = some x → vs[i]? = some v → kindOf x = some .local →
  bindL kindOf (P.zip vs) m x = some v
 | [], _, _, _, _, h, _, _ => by simp at h
 | _ :: _, [], _, _, _, _, h, _ => by simp at h
 | p :: P, w :: vs, 0, m, nd, h1, h2, hk => by
  simp at h1 h2; subst h1; subst h2
  show bindL kindOf ((p, w) :: P.zip vs) m p = _
  unfold bindL
  rw [WS fun v hv => (List.nodup_cons.mp nd).1 (List.of_mem_zip hv).1, if_pos hk]
  simp
 | p :: P, w :: vs, i + 1, m, nd, h1, h2, hk => by
  show bindL kindOf ((p, w) :: P.zip vs) m x = _
  unfold bindL
  exact WT (i := i) (List.nodup_cons.mp nd).2 (by simpa using h1) (by simpa using h2) hk
theorem WV {kindOf : Str → Option NameKind} {x : Str} {v : Value} : ∀ {P : List Str} {vs : List Value} {i : Nat} {m : Str → Option Value}, P.Nodup → P[i]? = some x → vs[i]? = some v → kindOf x ≠ some .local →
  bindC kindOf (P.zip vs) m x = some v
 | [], _, _, _, _, h, _, _ => by simp at h
 | _ :: _, [], _, _, _, _, h, _ => by simp at h
 | p :: P, w :: vs, 0, m, nd, h1, h2, hk => by
  simp at h1 h2; subst h1; subst h2
  show bindC kindOf ((p, w) :: P.zip vs) m p = _
  unfold bindC
  rw [WU fun v hv => (List.nodup_cons.mp nd).1 (List.of_mem_zip hv).1, if_neg hk]
  simp
 | p :: P, w :: vs, i + 1, m, nd, h1, h2, hk => by
  show bindC kindOf ((p, w) :: P.zip vs) m x = _
  unfold bindC
  exact WV (i := i) (List.nodup_cons.mp nd).2 (by simpa using h1) (by simpa using h2) hk
def start (N : List Str) (vs : List V) : St := vs.map some ++ List.replicate (N.length - vs.length) none
def cxOf (CX : CXT) (P : Program) (w : World) (K : PySem.W.Frag) (mg : Str → Option Value) (base : Heap) (N : List Str) (qual : Str) (scope : Scope) (f : Addr) (cd : Value) (A : Around) (outer : List Env) (s : Shared) (H : Hp) (E : XK) : Cx where
 prog := P
 w := w
 K := K
 mg := mg
 base := base
 A := A.deeper (envOfC qual scope s.heap.objs.size f cd)
 N := N
 s₀ := s
 H₀ := H
 env := envOfC qual scope s.heap.objs.size f cd
 outer := outer
 stack := envOfC qual scope s.heap.objs.size f cd :: outer
 ex := []
 calm := true
 fn := fun _ => true
 pn := []
 xe := fun e s' => wpAny (model P w) (A.deeper (envOfC qual scope s.heap.objs.size f cd)) (leaving (envOfC qual scope s.heap.objs.size f cd) e) (fun _ s'' => CX outer H s E e s'') (fun e' s'' => CX outer H s E e' s'') s'
theorem US {sc : Scope} {n : Nat} {x : Str} (h : sc.names.lookup x = some .cell) : ∃ c, (cellsFrom n sc.names []).lookup x = some c := by
 have q := PySem.W.cellsFrom_some sc.names n [] (.inl h)
 exact Option.isSome_iff_exists.mp q
theorem Zbh {CX : CXT} {P : Program} {w : World} {K : PySem.W.Frag} {mg : Str → Option Value} {base : Heap} {N ps : List Str} {qual : Str} {scope : Scope} {f : Addr} {cd : Value} {A : Around} {outer : List Env} {s s1 : Shared} {H : Hp} {E : XK} {us : List Value} {vs : List V}
  (S : FnScope N ps scope) (hd : A.handled = none) (e0 : Env0 P w K mg base A outer s H) (hl : vs.length = ps.length) (r : Vals vs us)
  (x : InCallC s s.heap.objs.size (bindL (envOfC qual scope s.heap.objs.size f cd).kindOf (ps.zip us) fun _ => none) (cellsFrom (s.heap.objs.size + 1) scope.names []) (bindC (envOfC qual scope s.heap.objs.size f cd).kindOf (ps.zip us) fun _ => none) s1) :
  Inv (cxOf CX P w K mg base N qual scope f cd A outer s H E) [] (start N vs) H s1 := by
 have hpl : ps.length ≤ N.length := by have := congrArg List.length S.pre; rw [List.length_take] at this; omega
 obtain ⟨h1, tk, rfl, hk⟩ := x.done
 have noA : ∀ b : Addr, b ∉ (cxOf CX P w K mg base N qual scope f cd A outer s H E).ex := fun b z => absurd (show b ∈ ([] : List Addr) from z) (by simp)
 refine ⟨⟨e0.mod, S.kind, rfl, rfl, Nat.le_refl _, fun y z c h1 h2 => ?_, fun y hy => ?_, fun y c _ h => ?_, fun _ => hd, Around.frames_deeper e0.frames, .inr ⟨rfl, rfl⟩, fun b z => absurd z (noA b), e0.bs, e0.bsz, fun b _ _ => noA b, fun b z => absurd z (noA b), e0.funs, e0.frf⟩,
  rfl, e0.bare, Un.kept hk, ⟨_, x.toInCall.ns, fun i y v h1 h2 h3 => ?_⟩, fun y c h => ⟨_, x.cell y c h⟩, e0.hok.fresh (Nat.le_refl _), fun y c h => ?_, fun p hp => absurd (show p ∈ ([] : List (Addr × Obj)) from hp) (by simp), e0.hok.kept hk, ?_⟩
 ·exact name_of_addr x.apart (PySem.mem_of_lookup h1) (PySem.mem_of_lookup h2)
 ·have hy : scope.names.lookup y = some .cell ∨ scope.names.lookup y = some .free := hy
  rcases hy with hy | hy
  ·exact US hy
  ·exact absurd rfl (S.nofree _ (PySem.mem_of_lookup hy))
 ·exact Nat.le_of_lt (x.above y c (PySem.mem_of_lookup h))
 ·have hi : i < vs.length := by
   unfold start at h2
   by_cases hi : i < vs.length
   ·exact hi
   ·rw [List.getElem?_append_right (by simpa using hi)] at h2
    rw [List.getElem?_replicate] at h2
    split at h2 <;> cases h2
  have ha : vs[i]? = some v := by
   unfold start at h2
   rw [List.getElem?_append_left (by simpa using hi), List.getElem?_map] at h2
   cases e : vs[i]? with
   | none => rw [e] at h2; cases h2
   | some a => rw [e] at h2; cases h2; rfl
  obtain ⟨u, hu, rv⟩ := r.get ha
  have hp : ps[i]? = some y := by
   rw [← S.pre, List.getElem?_take_of_lt (by omega)]; exact h1
  have ndP : ps.Nodup := by rw [← S.pre]; exact S.nd.sublist (List.take_sublist _ _)
  refine ⟨u, rv, ?_⟩
  rcases S.par y (List.mem_of_getElem? hp) with k | k
  ·exact .inl ⟨k, WT ndP hp hu k⟩
  ·obtain ⟨c, e⟩ := US (n := s.heap.objs.size + 1) k
   refine .inr ⟨.inl k, c, e, ?_⟩
   have q := x.cell y c e
   rw [WV ndP hp hu (by show scope.names.lookup y ≠ _; rw [k]; decide)] at q
   exact q
 ·exact e0.hok.fresh (Nat.le_of_lt (x.above y c (PySem.mem_of_lookup h)))
 ·unfold start
  show _ = N.length
  rw [List.length_append, List.length_map, List.length_replicate]
  omega
theorem Zce {CX : CXT} {P : Program} {w : World} {K : PySem.W.Frag} {mg : Str → Option Value} {base : Heap} {k : Nat} {f : Addr} {name qual : Str} {params : Arguments} {body : List Stmt} {scope : Scope} {dV kV doc pm cdv ct oc : Value} {an od : Option Addr}
    {osl : Array (Option Value)} {N ps : List Str} {sp : Sp} (lk : K.lookup f = some ⟨oc, od, .func (PySem.W.fnOf name qual params body scope dV kV doc pm an cdv ct), osl⟩) (hcd : PySem.W.codeIn K cdv qual = true) (S : FnScope N ps scope)
    (len : ∀ vs H Q E, sp vs H Q E → vs.length = ps.length)
    (hbody : ∀ (A : Around) (outer : List Env) (s : Shared) (H : Hp) (vs : List V) (Q : VK) (E : XK), Room k (A.deeper (envOfC qual scope s.heap.objs.size f cdv)) → sp vs H Q E →
      ∃ t, PSs (cxOf CX P w K mg base N qual scope f cdv A outer s H E) body t ∧ t { nx := fun _ H' => Q .non H', rt := Q } (start N vs) H) :
    FnOk P w K mg base CX (k + 1) f (PySem.W.fnOf name qual params body scope dV kV doc pm an cdv ct) ps sp := by
  refine ⟨len, fun A outer s H args us vs Q E hr e0 hb r hsp => ?_⟩
  have hl := len _ _ _ _ hsp
  have KX : K.In s.heap := e0.mod.kin.keeps fun b o e => (e0.bs b o e).1
  have lim : s.heap.NoLimit := e0.mod.nolimit.keeps fun b o e => (e0.bs b o e).1
  have hkind : ∀ y ∈ ps.zip us, scope.names.lookup y.1 = some .local ∨ (scope.names.lookup y.1 = some .cell ∧ ((cellsFrom (s.heap.objs.size + 1) scope.names []).lookup y.1).isSome = true) := fun ⟨n, v⟩ hy => by
    rcases S.par n (List.of_mem_zip hy).1 with q | q
    · exact .inl q
    · exact .inr ⟨q, PySem.W.cellsFrom_some _ _ _ (.inl q)⟩
  refine codeAny_call_function hr.depth (KX _ _ lk) rfl S.co S.gen rfl (PySem.W.codeRec_of KX hcd) (hb _ _ _ _ ?_)
  refine wpAny_newFunctionEnv_cells S.kind hkind fun env he s1 x => ?_
  subst he
  refine ⟨lim.keeps x.toInCall.keep, codeAny_func ?_⟩
  obtain ⟨t, ht, hq⟩ := hbody A outer s H vs Q E (hr.deeper _) hsp
  have I : Inv (cxOf CX P w K mg base N qual scope f cdv A outer s H E) [] (start N vs) H s1 := Zbh S hr.hd e0 hl r x
  refine wpAny_mono (ht [] s1 (start N vs) H _ I hq) (fun fl s' hs => ?_) fun e s' hs => hs
  have fin : ∀ {σ' : St} {H' : Hp} {v : V} {u : Value}, Inv (cxOf CX P w K mg base N qual scope f cdv A outer s H E) [] σ' H' s' → RelV v u → Q v H' → CE outer P w H s Q u s' :=
    fun {σ' H' v u} J rv q => ⟨v, H', J.os, J.bare, J.base, J.hok, rv, q⟩
  cases fl with
  | ret u =>
    obtain ⟨v, σ', H', J, rv, q⟩ := hs
    exact fin J rv q
  | next =>
    obtain ⟨σ', H', J, q⟩ := hs
    exact fin (v := V.non) (u := Value.none) J rfl q
  | brk =>
    obtain ⟨_, _, _, q⟩ := hs
    exact False.elim q
  | cont =>
    obtain ⟨_, _, _, q⟩ := hs
    exact False.elim q
end L2
namespace L2
open PySem PySem.Spec PyProof.Rows
section
variable {X : Cx} {x : Str} {p pos : Pos} {e : Expr} {es : List Expr} {t : TA} {id T : String} {r : List V → Hp → VK → Prop}
def tCB (r : List V → Hp → VK → Prop) (t : TA) : TE := fun σ H Q => t σ H fun vs H1 => r vs H1 Q
theorem Zj (hc : CallR X (.builtin id) r) (hg : Gl X x) (hm : X.mg x = none) (hv : bootBuiltins x = some (.builtin id)) (ha : PA X (e :: es) t) (hn : x ≠ "__name__" := by decide) (hdb : (x == ("__debug__" : Str)) = false := by decide)
  (he : starEach (e :: es) X.env = (false, eval e X.env) :: starEach es X.env := by rfl) (hpl : (backTo pos (starEach es X.env)).any (·.1) = false := by rfl) : PE X (.Call (.Name x p) (e :: es) [] pos) (tCB r t) := by
 intro pins s σ H Q I h
 refine wpAny_Call_Name_kw (YN I hg hm hv ?_ hn hdb)
 exact PyProof.Rows.callWith_builtin1 (thn (ha pos pins s σ H _ I h) fun us s1 ⟨vs, H1, I1, r1, q1⟩ => hc pins s1 σ H1 vs us Q I1 r1 q1) he hpl
theorem Yz (hc : CallR X (.type T) r) (hg : Gl X x) (hm : X.mg x = none) (hv : bootBuiltins x = some (.type T)) (ha : PA X (e :: es) t) (hn : x ≠ "__name__" := by decide) (hdb : (x == ("__debug__" : Str)) = false := by decide)
  (he : starEach (e :: es) X.env = (false, eval e X.env) :: starEach es X.env := by rfl) (hpl : (backTo pos (starEach es X.env)).any (·.1) = false := by rfl) : PE X (.Call (.Name x p) (e :: es) [] pos) (tCB r t) := by
 intro pins s σ H Q I h
 refine wpAny_Call_Name_kw (YN I hg hm hv ?_ hn hdb)
 exact PyProof.Rows.callWith_type1 (thn (ha pos pins s σ H _ I h) fun us s1 ⟨vs, H1, I1, r1, q1⟩ => hc pins s1 σ H1 vs us Q I1 r1 q1) he hpl
end
end L2
namespace HT
open PySem PyProof.Rows
def lexLt : List Int → List Int → Bool
 | [], [] => false
 | [], _ :: _ => true
 | _ :: _, [] => false
 | x :: xs, y :: ys => if x = y then lexLt xs ys else decide (x < y)
theorem lexLt_cons (x y : Int) (xs ys : List Int) : lexLt (x :: xs) (y :: ys) = if x = y then lexLt xs ys else decide (x < y) := rfl
theorem Wy : lexLt [] [] = false := rfl
theorem Wj (y : Int) (ys : List Int) : lexLt [] (y :: ys) = true := rfl
theorem Wk (x : Int) (xs : List Int) : lexLt (x :: xs) [] = false := rfl
theorem Zcm (A : Around) (s : Shared) (a : Int) (t : Tok) (c : Int) (u : Tok) : ∃ e, SeqAt.EqAt A s (.int a t) (.int c u) e ∧ (e = true ↔ a = c) :=
 ⟨(a == c), SeqAt.EqAt.int_int a t c u, by simp⟩
theorem Zbw (A : Around) (s : Shared) (a : Int) (t : Tok) (c : Int) (u : Tok) (prog : Program) (w : World) (E : Value → Shared → Prop) (Q : Value → Shared → Prop) (h : Q (.bool (decide (a < c))) s) :
  wpAny (model prog w) A (richCompare .Lt (.int a t) (.int c u)) Q E s :=
 (PyProof.Rows.lt_int h : wpAny (model prog w) A (compareOp .Lt (.int a t) (.int c u)) Q E s)
section
open PySem.SeqAt
open PySem.AutoSeq1 (wpAny_loadPart')
open PySem.MeetsSeq PySem.MeetsSeq2 PySem.MeetsSeq3
theorem Wu (l b : Addr) (items items2 : Array Value) (n n2 : Nat) (dd dd2 : Option Addr) (sl sl2 : Array (Option Value)) (ns ms : List Int) (hi : IntsAre items.toList ns) (hj : IntsAre items2.toList ms) :
  Meets (Builtin.«tuple.__lt__» ⟨[.ref l, .ref b], []⟩)
   (fun _ R s => s.heap.get? l = some { cls := .type "tuple", dict := dd, data := .seq items n, slots := sl } ∧ s.heap.get? b = some { cls := .type "tuple", dict := dd2, data := .seq items2 n2, slots := sl2 } ∧
    R (.ok (.ret (.bool (lexLt ns ms)))) s) :=
 .of_wp fun prog w A R s h => by
  obtain ⟨hp, g, d, tk, os⟩ := s; obtain ⟨hl, hb, h⟩ := h
  have f2 := AutoSeq1.sub_tuple_tuple
  have z1 : items.size = ns.length := by rw [← hi.length]; simp
  have z2 : items2.size = ms.length := by rw [← hj.length]; simp
  wp_walk using wpAny_loadPart' hl, wpAny_loadPart' hb, wpAny_forIn_list _ (fun rest b s' => b.1 = none ∧ s' = ⟨hp, g, d, tk, os⟩ ∧ ∃ (vs ws : List Value) (ns' ms' : List Int), rest = vs.zip ws ∧
   IntsAre vs ns' ∧ IntsAre ws ms' ∧ ns'.length + items2.size = ms'.length + items.size ∧ R (.ok (.ret (.bool (lexLt ns' ms')))) ⟨hp, g, d, tk, os⟩) _
  case turn =>
   rintro ⟨y, x⟩ rest b s' ⟨hb', rfl, vs, ws, ns', ms', hz, hvi, hwi, hlen, hR⟩
   cases hvi with
   | nil => rw [List.zip_nil_left] at hz; cases hz
   | cons a t hvi' =>
    cases hwi with
    | nil => rw [List.zip_nil_right] at hz; cases hz
    | cons c u hwi' =>
     rw [List.zip_cons_cons] at hz
     injection hz with hyx hrest
     injection hyx with hy hx
     subst hy hx
     rw [lexLt_cons] at hR
     simp only [List.length_cons] at hlen
     obtain ⟨e, he, hiff⟩ := Zcm A.in1 ⟨hp, g, d, tk, os⟩ a t c u
     refine wpAny_bind (he prog w _ _ ?_)
     cases e with
     | true =>
      rw [if_pos (hiff.mp rfl)] at hR
      wp_walk
      exact ⟨rfl, rfl, _, _, _, _, hrest, hvi', hwi', by omega, hR⟩
     | false =>
      rw [if_neg (fun q => absurd (hiff.mpr q) Bool.false_ne_true)] at hR
      have hri := Zbw A.in1 ⟨hp, g, d, tk, os⟩ a t c u prog w
      wp_walk using hri
      exact ⟨_, rfl, by simpa using hR⟩
  case fin =>
   rintro ⟨b1, b2⟩ s' ⟨hb', rfl, vs, ws, ns', ms', hz, hvi, hwi, hlen, hR⟩
   simp only at hb'
   subst hb'
   have hv : lexLt ns' ms' = decide (items.size < items2.size) := by
    cases hvi with
    | nil =>
     cases hwi with
     | nil =>
      simp only [List.length_nil] at hlen
      rw [Wy]
      exact (decide_eq_false (by omega)).symm
     | cons c u hw =>
      simp only [List.length_nil, List.length_cons] at hlen
      rw [Wj]
      exact (decide_eq_true (by omega)).symm
    | cons a t hv =>
     cases hwi with
     | nil =>
      simp only [List.length_nil, List.length_cons] at hlen
      rw [Wk]
      exact (decide_eq_false (by omega)).symm
     | cons c u hw =>
      rw [List.zip_cons_cons] at hz
      cases hz
   rw [hv] at hR
   wp_walk
   exact ⟨_, rfl, by simpa [Builtin.Tuple.tupleCompareSizes] using hR⟩
  case h =>
   exact ⟨rfl, rfl, items.toList, items2.toList, ns, ms, rfl, hi, hj, by omega, h⟩
end
section
variable {prog : Program} {w : World} {A : Around} {E : Value → Shared → Prop} {s : Shared}
theorem lt_tupInts {l b : Addr} {items items2 : Array Value} {ns ms : List Int} {Q : Value → Shared → Prop} (hl : IsTup s.heap l items) (hb : IsTup s.heap b items2) (hi : IntsAre items.toList ns) (hj : IntsAre items2.toList ms)
  (hu : A.units < cLine) (h : Q (.bool (lexLt ns ms)) s) : wpAny (model prog w) A (compareOp .Lt (.ref l) (.ref b)) Q E s := by
 obtain ⟨⟨cls, dd, data, sl⟩, ho, hc, n, hd⟩ := id hl
 obtain ⟨⟨cls2, dd2, data2, sl2⟩, ho2, hc2, n2, hd2⟩ := id hb
 simp only at hc hd hc2 hd2
 subst hc hd hc2 hd2
 exact richCompare_meets_room (op := .Lt) ⟨_, ho, rfl⟩ ⟨_, ho2, rfl⟩ PySem.F.slot_tuple_lt PySem.F.entry_tuple_lt (PySem.F.args_tuple_lt_2 _ _) (Wu l b items items2 n n2 dd dd2 sl sl2 ns ms hi hj)
  ⟨ho, ho2, show Value.bool (lexLt ns ms) ≠ Value.notImplemented ∧ Q (.bool (lexLt ns ms)) s from ⟨(fun x => nomatch x), h⟩⟩ hu
theorem cat_tup {t b : Addr} {vs ws : List Value} {Q : Value → Shared → Prop} (ht : IsTup s.heap t vs.toArray) (hb : IsTup s.heap b ws.toArray) (hv : vs ≠ [])
  (h1 : ws = [] → Q (.ref t) s) (h2 : ws ≠ [] → Q (.ref s.heap.objs.size) { s with heap := s.heap.push { cls := .type "tuple", data := .seq (vs ++ ws).toArray } })
  (hsz : vs.length + ws.length ≤ sizeLine) : wpAny (model prog w) A (binaryOp .Add (.ref t) (.ref b)) Q E s := by
 obtain ⟨⟨cls, dd, data, sl⟩, ho, hc, n, hd⟩ := id ht
 obtain ⟨⟨cls2, dd2, data2, sl2⟩, ho2, hc2, n2, hd2⟩ := id hb
 simp only at hc hd hc2 hd2
 subst hc hd hc2 hd2
 have e : vs.toArray ++ ws.toArray = (vs ++ ws).toArray := by simp
 by_cases hw : ws = []
 ·exact concat_meets ⟨_, ho, rfl⟩ ⟨_, ho2, rfl⟩ noFill_tuple_add seq_tuple_add PySem.F.slot_tuple_add PySem.F.entry_tuple_add (PySem.F.args_tuple_add_2 _ _)
   (tuple_addW1 t b vs.toArray ws.toArray n n2 dd dd2 sl sl2 (by simpa using hv) (by simp [hw])) ⟨ho, ho2, h1 hw⟩
 ·refine concat_meets ⟨_, ho, rfl⟩ ⟨_, ho2, rfl⟩ noFill_tuple_add seq_tuple_add PySem.F.slot_tuple_add PySem.F.entry_tuple_add (PySem.F.args_tuple_add_2 _ _)
   (tuple_addW2 t b vs.toArray ws.toArray n n2 dd dd2 sl sl2 (by simpa using hv) (by simpa using hw) (by rw [List.size_toArray, List.size_toArray]; exact hsz)) ⟨ho, ho2, ?_⟩
  rw [e]
  exact h2 hw
def sIx (n d : Nat) : Option Int → Nat
 | none => d
 | some v => if v < 0 then (v + (n : Int)).toNat else min v.toNat n
theorem sIx_none (n d : Nat) : sIx n d none = d := rfl
theorem sIx_nat (n d k : Nat) : sIx n d (some (k : Int)) = min k n := by
 show (if (k : Int) < 0 then ((k : Int) + (n : Int)).toNat else min (k : Int).toNat n) = min k n
 rw [if_neg (by omega), Int.toNat_natCast]
theorem Zdn (n d : Nat) (hd : d ≤ n) (o : Option Int) : sIx n d o ≤ n := by
 cases o with
 | none => exact hd
 | some v =>
  show (if v < 0 then (v + (n : Int)).toNat else min v.toNat n) ≤ n
  by_cases hv : v < 0
  ·rw [if_pos hv]; omega
  ·rw [if_neg hv]; exact Nat.min_le_right _ _
theorem ZaI (v : Int) (n d : Nat) : (if v < 0 then max (v + (n : Int)) 0 else min v (n : Int)) = ((sIx n d (some v) : Nat) : Int) := by
 show (if v < 0 then max (v + (n : Int)) 0 else min v (n : Int)) = (((if v < 0 then (v + (n : Int)).toNat else min v.toNat n) : Nat) : Int)
 by_cases hv : v < 0
 ·simp only [if_pos hv]; omega
 ·simp only [if_neg hv]; omega
theorem Zao (lo hi : Option Int) (n : Nat) : Builtin.Slice.sliceAdjust lo hi 1 (n : Int) = (((sIx n 0 lo : Nat) : Int), ((sIx n n hi : Nat) : Int)) := by
 have h1 : ¬ ((1 : Int) < 0) := by omega
 unfold Builtin.Slice.sliceAdjust
 simp only [h1, if_false]
 refine Prod.ext ?_ ?_
 ·cases lo with
  | none => rfl
  | some v => exact ZaI v n 0
 ·cases hi with
  | none => rfl
  | some v => exact ZaI v n n
theorem U4 (i j : Nat) : Builtin.Slice.slicePlaces (i : Int) (j : Int) 1 = j - i := by
 unfold Builtin.Slice.slicePlaces
 have h1 : (1 : Int) > 0 := by omega
 simp only [h1, if_true, Int.ediv_one]
 split <;> omega
theorem JT {v : Value} {o : Option Int} {Q : Option Int → Shared → Prop} (p : IsPart v o) (h : Q o s) : wpAny (model prog w) A (Builtin.Slice.slicePartIndex v) Q E s := by
 cases p with
 | none => exact slicePart_none h
 | int i t => exact slicePart_int h
theorem Jp {sl : Addr} {vl vu : Value} {lo hi : Option Int} {n : Nat} {Q : Int × Int × Nat → Shared → Prop} (hs : s.heap.IsSliceOf sl vl vu .none) (pl : IsPart vl lo) (pu : IsPart vu hi)
  (h : Q (((sIx n 0 lo : Nat) : Int), 1, sIx n n hi - sIx n 0 lo) s) : wpAny (model prog w) A (Builtin.Slice.sliceApplied (.ref sl) (pure (n : Int))) Q E s := by
 obtain ⟨os, hos, hcs, hds⟩ := id hs
 unfold Builtin.Slice.sliceApplied Builtin.Slice.sliceFields
 refine wpAny_bind (wpAny_bind (wpAny_field hos hds (x := vl) rfl (wpAny_bind (wpAny_field hos hds (x := vu) rfl (wpAny_bind (wpAny_field hos hds (x := .none) rfl (wpAny_pure ?_)))))))
 refine wpAny_bind (slicePart_none ?_)
 show wpAny _ _ (if ((1 : Int) == 0) = true then _ else _) _ _ s
 rw [if_neg (by decide)]
 refine wpAny_bind (JT pl (wpAny_bind (JT pu (wpAny_bind (wpAny_pure ?_)))))
 show wpAny _ _ (match Builtin.Slice.sliceAdjust lo hi 1 (n : Int) with | (lo, hi) => pure (lo, (1 : Int), Builtin.Slice.slicePlaces lo hi 1)) _ _ s
 rw [Zao lo hi n]
 show wpAny _ _ (pure (((sIx n 0 lo : Nat) : Int), (1 : Int), Builtin.Slice.slicePlaces ((sIx n 0 lo : Nat) : Int) ((sIx n n hi : Nat) : Int) 1)) _ _ s
 rw [U4]
 exact wpAny_pure h
theorem ZbD (xs : Array Value) (i k : Nat) : ((List.range k).filterMap fun (m : Nat) => xs[((i : Int) + (m : Int) * 1).toNat]?).toArray = ((xs.toList.drop i).take k).toArray := by
 have e : (fun (m : Nat) => xs[((i : Int) + (m : Int) * 1).toNat]?) = fun m => xs[i + m]? := by
  funext m
  have : ((i : Int) + (m : Int) * 1).toNat = i + m := by omega
  rw [this]
 rw [e]
 have := pick_run xs i k
 rw [List.filterMap_map] at this
 have e2 : ((fun x => xs[x]?) ∘ fun x => i + x) = fun m => xs[i + m]? := rfl
 rw [e2] at this
 rw [this]
theorem getItem_tuple_cut {t sl : Addr} {items : Array Value} {vl vu : Value} {lo hi : Option Int} {Q : Value → Shared → Prop} (ht : IsTup s.heap t items) (hs : s.heap.IsSliceOf sl vl vu .none) (pl : IsPart vl lo) (pu : IsPart vu hi)
  (hw : ¬ (sIx items.size 0 lo = 0 ∧ sIx items.size items.size hi = items.size))
  (h : Q (.ref s.heap.objs.size) { s with heap := s.heap.push { cls := .type "tuple", data := .seq ((items.toList.drop (sIx items.size 0 lo)).take (sIx items.size items.size hi - sIx items.size 0 lo)).toArray } })
  (hsz : items.size ≤ sizeLine) : wpAny (model prog w) A (getItem (.ref t) (.ref sl)) Q E s := by
 have htake : sizeOk (.seq ((items.toList.drop (sIx items.size 0 lo)).take (sIx items.size items.size hi - sIx items.size 0 lo)).toArray) := by
  show ((items.toList.drop (sIx items.size 0 lo)).take (sIx items.size items.size hi - sIx items.size 0 lo)).toArray.size ≤ sizeLine
  rw [List.size_toArray, List.length_take, List.length_drop, Array.length_toList]
  omega
 have hj : sIx items.size items.size hi ≤ items.size := Zdn _ _ (Nat.le_refl _) hi
 obtain ⟨os, hos, hcs, hds⟩ := id hs
 have hTs : s.TypeIs (.ref sl) "slice" := ⟨os, hos, hcs⟩
 unfold getItem
 try with_reducible refine wpAny_holding ?_
 first | refine wpAny_bind (wpAny_pure ?_) | skip
 refine wpAny_bind (wpAny_sequenceKey ht.typeIs (by decide) ?_)
 refine wpAny_bind (wpAny_callSpecial?_slot (name := Str.ofString "__getitem__") ht.typeIs PyProof.Rows.slot_tuple_getitem
  (wpAny_call_entry PyProof.Rows.slot_tuple_getitem ht.typeIs entry_tuple_getitem ?_ (args_tuple_getitem _ _)))
 show wpAny _ _ (Builtin.Tuple.tupleItemsOf (.ref t) >>= _) _ _ s
 refine wpAny_bind (tupleItemsOf_ ht ?_)
 refine wpAny_bind (wpAny_typeOf hTs ?_)
 rw [if_pos (by decide)]
 refine wpAny_bind (Jp hs pl pu ?_)
 have hno : ¬ ((((sIx items.size 0 lo : Nat) : Int) == 0 && (1 : Int) == 1 && (sIx items.size items.size hi - sIx items.size 0 lo) == items.size) = true) := by
  intro q
  rw [Bool.and_eq_true, Bool.and_eq_true] at q
  have q1 : ((sIx items.size 0 lo : Nat) : Int) = 0 := eq_of_beq q.1.1
  have q2 : sIx items.size items.size hi - sIx items.size 0 lo = items.size := eq_of_beq q.2
  exact hw ⟨by omega, by omega⟩
 show wpAny _ _ (if (((sIx items.size 0 lo : Nat) : Int) == 0 && (1 : Int) == 1 && (sIx items.size items.size hi - sIx items.size 0 lo) == items.size) = true then _ else _) _ _ s
 rw [if_neg hno, ZbD]
 first
  | exact wpAny_bind (m := Builtin.Tuple.tupleExact _) (wpAny_newObj_type (wpAny_pure ⟨_, rfl, wpAny_pure h⟩) htake)
  | exact wpAny_bind (m := Builtin.Tuple.tupleExact _) (wpAny_newObj_type (wpAny_bind (wpAny_pure (wpAny_pure ⟨_, rfl, wpAny_pure h⟩))) htake)
  | exact wpAny_bind (wpAny_bind (m := Builtin.Tuple.tupleExact _) (wpAny_newObj_type (wpAny_pure (wpAny_pure ⟨_, rfl, wpAny_pure h⟩)) htake))
  | exact wpAny_bind (wpAny_bind (m := Builtin.Tuple.tupleExact _) (wpAny_newObj_type (wpAny_pure ⟨_, rfl, wpAny_pure h⟩) htake))
end
end HT
namespace L2
open PySem PySem.Spec PyProof.Rows
abbrev TO := St → Hp → (Option Int → Hp → Prop) → Prop
def PO (X : Cx) (e : Option Expr) (t : TO) : Prop :=
 ∀ (pins : List (Addr × Obj)) (s : Shared) (σ : St) (H : Hp) (Q : Option Int → Hp → Prop), Inv X pins σ H s → t σ H Q →
  wpAny (model X.prog X.w) X.A (evalPart e X.env) (fun u s' => ∃ o H', Inv X pins σ H' s' ∧ IsPart u o ∧ Q o H') X.xe s
def tNoPart : TO := fun _ H Q => Q none H
def tPart (t : TE) : TO := fun σ H Q => t σ H fun x H1 => ∃ i, x = .int i ∧ Q (some i) H1
theorem Yn {ns : List Int} : ∀ {us : List Value}, Vals (ns.map V.int) us → IntsAre us ns := by
 induction ns with
 | nil => intro us r; rw [List.map_nil] at r; cases r; exact .nil
 | cons n ns ih =>
  intro us r
  rw [List.map_cons] at r
  cases r with
  | cons r1 r2 =>
   obtain ⟨t, e⟩ := r1
   subst e
   exact .cons n t (ih r2)
section
variable {X : Cx} {e : Expr} {te : TE} {lo hi : Option Expr} {tl th : TO} {pos p2 : Pos}
theorem YX : PO X none tNoPart := by
 intro pins s σ H Q I h
 rw [evalPart_none]
 exact wpAny_pure ⟨none, H, I, .none, h⟩
theorem YW (h : PE X e te) : PO X (some e) (tPart te) := by
 intro pins s σ H Q I hw
 rw [evalPart_some]
 refine thn (h pins s σ H _ I hw) fun u s1 ⟨x, H1, I1, r1, q1⟩ => ?_
 obtain ⟨i, rfl, q⟩ := q1
 obtain ⟨t, rfl⟩ := r1
 exact ⟨some i, H1, I1, .int i t, q⟩
def SlR (X : Cx) (r : V → Option Int → Option Int → Hp → VK → Prop) : Prop :=
 ∀ (pins : List (Addr × Obj)) (s : Shared) (σ : St) (H : Hp) (x : V) (v vl vu : Value) (lo hi : Option Int) (sl : Addr) (Q : VK), Inv X pins σ H s → RelV x v → s.heap.IsSliceOf sl vl vu .none → IsPart vl lo → IsPart vu hi → r x lo hi H Q →
  ∃ T id, typeLookup (.type T) "__getitem__" = pure (some (.builtin id)) ∧ s.TypeIs v T ∧ wpAny (model X.prog X.w) X.A (getItem v (.ref sl)) (EP X pins σ Q) X.xe s
def tSl (r : V → Option Int → Option Int → Hp → VK → Prop) (te : TE) (tl th : TO) : TE := fun σ H Q => te σ H fun x H1 => tl σ H1 fun l H2 => th σ H2 fun u H3 => r x l u H3 Q
theorem Yy {r : V → Option Int → Option Int → Hp → VK → Prop} (hr : SlR X r) (he : PE X e te) (hl : PO X lo tl) (hu : PO X hi th) : PE X (.Subscript e (.Slice lo hi none p2) pos) (tSl r te tl th) := by
 intro pins s σ H Q I h
 refine Subscript_ (thn (he pins s σ H _ I h) fun v s1 ⟨x, H1, I1, r1, q1⟩ => ?_)
 refine wpAny_Slice (thn (hl pins s1 σ H1 _ I1 q1) fun vl s2 ⟨l, H2, I2, pl, q2⟩ => thn (hu pins s2 σ H2 _ I2 q2) fun vu s3 ⟨u, H3, I3, pu, q3⟩ => ?_)
 rw [evalPart_none]
 refine wpAny_pure ?_
 have I4 : Inv X pins σ H3 { s3 with heap := s3.heap.push { cls := .type "slice", data := .fields #[vl, vu, .none] } } := I3.kept (t' := s3.toks) fun b ob q => Heap.get?_push_of_some _ q
 obtain ⟨T, id, hT, ht, hg⟩ := hr pins { s3 with heap := s3.heap.push { cls := .type "slice", data := .fields #[vl, vu, .none] } } σ H3 x v vl vu l u s3.heap.objs.size Q I4 r1 (Heap.IsSliceOf.new ..) pl pu q3
 show wpAny (model X.prog X.w) X.A (subscriptTail e (.Slice lo hi none p2) v (.ref s3.heap.objs.size)) (EP X pins σ Q) X.xe { s3 with heap := s3.heap.push { cls := .type "slice", data := .fields #[vl, vu, .none] } }
 exact tail_any (ops := [.ref s3.heap.objs.size, v]) ht hT hg (by with_unfolding_all rfl)
def cutV (xs : List V) (lo hi : Option Int) : List V := (xs.drop (HT.sIx xs.length 0 lo)).take (HT.sIx xs.length xs.length hi - HT.sIx xs.length 0 lo)
theorem JD (xs : List V) (lo hi : Option Int) : (cutV xs lo hi).length ≤ xs.length := by
 unfold cutV
 rw [List.length_take, List.length_drop]
 omega
def rSlT (K : PySem.W.Frag) : V → Option Int → Option Int → Hp → VK → Prop := fun x lo hi H Q => ∃ a xs, x = .ref a ∧ SqT K H a xs ∧
 ¬ (HT.sIx xs.length 0 lo = 0 ∧ HT.sIx xs.length xs.length hi = xs.length) ∧ ∀ p, H p = none → Q (.ref p) (upd H p (.tup (cutV xs lo hi)))
theorem JU : SlR X (rSlT X.K) := by
 intro pins s σ H x v vl vu lo hi sl Q I rx hs pl pu h
 obtain ⟨a, xs, rfl, hx, hw, q⟩ := h
 cases rx
 obtain ⟨its, r, ht, hz⟩ := I.tuple hx
 have hlen : its.toArray.size = xs.length := by rw [List.size_toArray]; exact r.length.symm
 refine ⟨"tuple", _, PyProof.Rows.slot_tuple_getitem.lookup, ht.typeIs, ?_⟩
 refine HT.getItem_tuple_cut ht hs pl pu (by rw [hlen]; exact hw) ?_ (by rw [hlen]; exact hz)
 rw [hlen]
 refine ⟨.ref s.heap.objs.size, _, I.laid (t' := s.toks) (o := .tup (cutV xs lo hi)) (fun b ob q => Heap.get?_push_of_some _ q) (Nat.le_refl _) ?_, rfl, q _ (I.hok.fresh (Nat.le_refl _))⟩
 exact ⟨Nat.le_trans (JD xs lo hi) hz, _, (r.drop (HT.sIx xs.length 0 lo)).take (HT.sIx xs.length xs.length hi - HT.sIx xs.length 0 lo), IsTup.new _ _, _, Heap.get?_push_size _ rfl, rfl⟩
def rLtT (K : PySem.W.Frag) : R2 := fun x y H Q => ∃ a b ns ms, x = .ref a ∧ y = .ref b ∧ SqT K H a (ns.map V.int) ∧ SqT K H b (ms.map V.int) ∧ Q (.bl (HT.lexLt ns ms)) H
theorem ZbM (hu : X.A.units < cLine) : OpR X (compareOp .Lt) (rLtT X.K) := by
 intro pins s σ H x y v u Q I rx ry h
 obtain ⟨a, b, ns, ms, rfl, rfl, ha, hb, q⟩ := h
 cases rx
 cases ry
 obtain ⟨its, r1, p1, _⟩ := I.tuple ha
 obtain ⟨its2, r2, p2, _⟩ := I.tuple hb
 have i1 : IntsAre its.toArray.toList ns := Yn r1
 have i2 : IntsAre its2.toArray.toList ms := Yn r2
 exact HT.lt_tupInts p1 p2 i1 i2 hu ⟨.bl (HT.lexLt ns ms), H, I, rfl, q⟩
def rCatT (K : PySem.W.Frag) : R2 := fun x y H Q => ∃ a b xs ys, x = .ref a ∧ y = .ref b ∧ SqT K H a xs ∧ SqT K H b ys ∧ xs ≠ [] ∧ xs.length + ys.length ≤ sizeLine ∧
 (ys = [] → Q (.ref a) H) ∧ (ys ≠ [] → ∀ p, H p = none → Q (.ref p) (upd H p (.tup (xs ++ ys))))
theorem Vals.nil_iff {xs : List V} {us : List Value} (r : Vals xs us) : us = [] ↔ xs = [] := by
 cases r with
 | nil => simp
 | cons _ _ => simp
theorem ZcK : OpR X (binaryOp .Add) (rCatT X.K) := by
 intro pins s σ H x y v u Q I rx ry h
 obtain ⟨a, b, xs, ys, rfl, rfl, ha, hb, hx, hz, q1, q2⟩ := h
 cases rx
 cases ry
 obtain ⟨its, r1, p1, _⟩ := I.tuple ha
 obtain ⟨its2, r2, p2, _⟩ := I.tuple hb
 refine HT.cat_tup p1 p2 (fun z => hx (r1.nil_iff.mp z)) (fun z => ⟨.ref a, H, I, rfl, q1 (r2.nil_iff.mp z)⟩) (fun z => ?_) (by rw [← r1.length, ← r2.length]; exact hz)
 refine ⟨.ref s.heap.objs.size, _, I.laid (t' := s.toks) (o := .tup (xs ++ ys)) (fun b ob q => Heap.get?_push_of_some _ q) (Nat.le_refl _) ?_, rfl, q2 (fun w => z (r2.nil_iff.mpr w)) _ (I.hok.fresh (Nat.le_refl _))⟩
 exact ⟨by rw [List.length_append]; exact hz, _, r1.append r2, IsTup.new _ _, _, Heap.get?_push_size _ rfl, rfl⟩
end
end L2
namespace L2
open PySem PySem.Spec PyProof.Rows
def ixN (n : Nat) (i : Int) : Option Nat := if 0 ≤ i then (if i < n then some i.toNat else none) else if -(n : Int) ≤ i then some (i + n).toNat else none
def atI {α : Type} (xs : List α) (i : Int) : Option α := (ixN xs.length i).bind fun j => xs[j]?
theorem Ud {n : Nat} {i : Int} {j : Nat} (h : ixN n i = some j) : seqIndex? i n = some j ∧ j < n ∧ -(n : Int) ≤ i ∧ i < n := by
 unfold ixN at h
 by_cases h0 : 0 ≤ i
 ·rw [if_pos h0] at h
  by_cases h1 : i < n
  ·rw [if_pos h1] at h
   have e : i.toNat = j := Option.some.inj h
   exact ⟨by rw [seqIndex_of h0 h1, e], by omega, by omega, h1⟩
  ·rw [if_neg h1] at h; cases h
 ·rw [if_neg h0] at h
  by_cases h1 : -(n : Int) ≤ i
  ·rw [if_pos h1] at h
   have e : (i + n).toNat = j := Option.some.inj h
   exact ⟨by rw [seqIndex_neg (by omega) h1, e], by omega, h1, by omega⟩
  ·rw [if_neg h1] at h; cases h
theorem ZaK {α : Type} {xs : List α} {i : Int} {v : α} (h : atI xs i = some v) : ∃ j, seqIndex? i xs.length = some j ∧ xs[j]? = some v ∧ j < xs.length ∧ -(xs.length : Int) ≤ i ∧ i < xs.length := by
 unfold atI at h
 cases e : ixN xs.length i with
 | none => rw [e] at h; cases h
 | some j =>
  rw [e] at h
  obtain ⟨h1, h2, h3, h4⟩ := Ud e
  exact ⟨j, h1, h, h2, h3, h4⟩
theorem ZY {α : Type} {xs : List α} {j : Nat} {v : α} (h : xs[j]? = some v) : atI xs (j : Int) = some v := by
 have hj : j < xs.length := (List.getElem?_eq_some_iff.mp h).1
 have e : ixN xs.length (j : Int) = some j := by
  unfold ixN
  rw [if_pos (by omega), if_pos (by omega)]; simp
 unfold atI; rw [e]; exact h
def PlainIx (b : Expr) : Prop := ∀ o i, subscripted b false o i = operate [o, i] (getItem o i)
def IxR (X : Cx) (r : R2) : Prop :=
 ∀ (value slice : Expr) (pins : List (Addr × Obj)) (s : Shared) (σ : St) (H : Hp) (x y : V) (v u : Value) (Q : VK), Inv X pins σ H s → RelV x v → RelV y u → r x y H Q →
  subscripted slice false v u = operate [v, u] (getItem v u) → wpAny (model X.prog X.w) X.A (subscriptTail value slice v u) (EP X pins σ Q) X.xe s
def MtR (X : Cx) (id : String) (r : V → List V → Hp → VK → Prop) : Prop :=
 ∀ (pins : List (Addr × Obj)) (s : Shared) (σ : St) (H : Hp) (x : V) (xs : List V) (v : Value) (us : List Value) (Q : VK), Inv X pins σ H s → RelV x v → Vals xs us → r x xs H Q →
  wpAny (model X.prog X.w) X.A (call (.builtin id) (v :: us)) (EP X pins σ Q) X.xe s
section
variable {X : Cx} {a b : Expr} {ta tb : TE} {pos : Pos}
theorem ZP {r : R2} (hr : IxR X r) (ha : PE X a ta) (hb : PE X b tb) (hs : PlainIx b) : PE X (.Subscript a b pos) (tOp r ta tb) := by
 intro pins s σ H Q I h
 exact Subscript_ (binT ha hb I h fun v u s2 x y H2 I2 rx ry q => hr a b pins s2 σ H2 x y v u Q I2 rx ry q (hs _ _))
def rIxL (K : PySem.W.Frag) : R2 := fun x y H Q => ∃ p xs i v, x = .ref p ∧ y = .int i ∧ SqL K H p xs ∧ atI xs i = some v ∧ Q v H
def rIxT (K : PySem.W.Frag) : R2 := fun x y H Q => ∃ p xs i v, x = .ref p ∧ y = .int i ∧ SqT K H p xs ∧ atI xs i = some v ∧ Q v H
theorem ZM : IxR X (rIxL X.K) := by
 intro value slice pins s σ H x y v u Q I rx ry h hs
 obtain ⟨p, xs, i, z, rfl, rfl, hq, he, q⟩ := h
 cases rx
 obtain ⟨t, rfl⟩ := ry
 obtain ⟨its, r, pl, hz⟩ := I.list hq
 obtain ⟨j, h1, h2, h3, h4, h5⟩ := ZaK he
 obtain ⟨w, ew, rw'⟩ := r.get h2
 have hl := r.length
 have hn := line63
 have fin : EP X pins σ Q w s := ⟨z, H, I, rw', q⟩
 by_cases h0 : 0 ≤ i
 ·have hj : i.toNat = j := by
   rw [seqIndex_of h0 h5] at h1
   exact Option.some.inj h1
  exact item_listR pl.isList h0 (by omega) (by rw [hj]; simpa using ew) fin hs
 ·have hj : (i + (its.toArray.size : Int)).toNat = j := by
   rw [seqIndex_neg (by omega) h4] at h1
   rw [List.size_toArray, ← hl]
   exact Option.some.inj h1
  exact subscriptTail_builtinR (x := w) pl.isList.typeIs slot_list_getitem.lookup
   (wpAny_getItem_list_neg (Q := fun r s' => r = w ∧ EP X pins σ Q r s') pl.isList (by omega) (by rw [List.size_toArray] <;> omega) (by omega) (by rw [hj]; simpa using ew) ⟨rfl, fin⟩) hs
theorem Yu : IxR X (rIxT X.K) := by
 intro value slice pins s σ H x y v u Q I rx ry h hs
 obtain ⟨p, xs, i, z, rfl, rfl, hq, he, q⟩ := h
 cases rx
 obtain ⟨t, rfl⟩ := ry
 obtain ⟨its, r, pl, hz⟩ := I.tuple hq
 obtain ⟨j, h1, h2, h3, h4, h5⟩ := ZaK he
 obtain ⟨w, ew, rw'⟩ := r.get h2
 have hl := r.length
 have hn := line63
 have fin : EP X pins σ Q w s := ⟨z, H, I, rw', q⟩
 exact subscriptTail_builtinR (x := w) pl.typeIs slot_tuple_getitem.lookup
  (getItem_tuple (j := j) (Q := fun r s' => r = w ∧ EP X pins σ Q r s') pl (by omega) (by omega) (by rw [List.size_toArray, ← hl]; exact h1) (by simpa using ew) ⟨rfl, fin⟩) hs
theorem Zae (its : List Value) (n j : Nat) (u : Value) : Obj.mapSeq (·.setIfInBounds j u) { cls := .type "list", data := .seq its.toArray n } = { cls := .type "list", data := .seq (its.set j u).toArray n } := by
 simp [Obj.mapSeq]
theorem Inv.lst {pins : List (Addr × Obj)} {σ : St} {H : Hp} {s : Shared} {p : Addr} {xs : List V} (I : Inv X pins σ H s) (h : H p = some (.lst xs)) :
  ∃ (its : List Value) (n : Nat), Vals xs its ∧ s.heap.get? p = some { cls := .type "list", data := .seq its.toArray n } ∧ xs.length ≤ sizeLine := by
 obtain ⟨z, its, n, r, e⟩ := I.hok p _ h
 exact ⟨its, n, r, e, z⟩
theorem Inv.lstUpd {pins : List (Addr × Obj)} {σ : St} {H : Hp} {s : Shared} {p : Addr} {xs ys : List V} {its its' : List Value} {n n' : Nat} {f : Obj → Obj} (I : Inv X pins σ H s) (h : H p = some (.lst xs))
  (ho : s.heap.get? p = some { cls := .type "list", data := .seq its.toArray n }) (hf : f { cls := .type "list", data := .seq its.toArray n } = { cls := .type "list", data := .seq its'.toArray n' }) (r : Vals ys its') (hz : ys.length ≤ sizeLine) (t : Nat) :
  Inv X pins σ (upd H p (.lst ys)) { s with heap := s.heap.update p f, toks := t } := by
 have e : (s.heap.update p f).get? p = some { cls := .type "list", data := .seq its'.toArray n' } := by
  rw [Heap.get?_update_self f ho (by rw [hf] <;> rfl), hf]
 refine I.write (x := p) (e := p) (by rw [h]; trivial) (.inl rfl) (fun b u hb q => (Heap.get?_update_other _ _ (Ne.symm hb)).trans q) ⟨_, e⟩ ?_
 exact ⟨hz, its', n', r, e⟩
def rSetL : V → V → V → Hp → (Hp → Prop) → Prop := fun o i v H Q => ∃ p xs k j, o = .ref p ∧ i = .int k ∧ H p = some (.lst xs) ∧ ixN xs.length k = some j ∧ Q (upd H p (.lst (xs.set j v)))
theorem Up : PSet X rSetL := by
 intro pins s σ H o i v ov iv u Q I ro ri rv h
 obtain ⟨p, xs, k, j, rfl, rfl, hp, hj, q⟩ := h
 cases ro
 obtain ⟨t, rfl⟩ := ri
 obtain ⟨its, n, r, ho, hz⟩ := I.lst hp
 obtain ⟨h1, h2, h3, h4⟩ := Ud hj
 have hl := r.length
 have hn := line63
 have I' : Inv X pins σ (upd H p (.lst (xs.set j v))) { s with heap := s.heap.update p (Obj.mapSeq (·.setIfInBounds j u)) } :=
  I.lstUpd hp ho (Zae its n j u) (r.set rv j) (by rw [List.length_set]; exact hz) s.toks
 by_cases h0 : 0 ≤ k
 ·have hk : k.toNat = j := by
   rw [seqIndex_of h0 h4] at h1
   exact Option.some.inj h1
  exact PySem.W.ki_setAt ho h0 (by omega) (by rw [List.size_toArray, ← hl]; exact h4) (by rw [hk]; exact ⟨_, I', q⟩)
 ·have hk : (k + (its.toArray.size : Int)).toNat = j := by
   rw [seqIndex_neg (by omega) h3] at h1
   rw [List.size_toArray, ← hl]
   exact Option.some.inj h1
  exact PySem.W.ki_setBack ho (by omega) (by rw [List.size_toArray, ← hl]; exact h3) (by omega) (by rw [hk]; exact ⟨_, I', q⟩)
theorem WY (lo hi : Option Int) (n : Nat) : (sliceBounds lo hi none n).1 = ((HT.sIx n 0 lo : Nat) : Int) ∧ (sliceBounds lo hi none n).2.1 = ((HT.sIx n n hi : Nat) : Int) ∧ (sliceBounds lo hi none n).2.2 = 1 := by
 refine ⟨?_, ?_, rfl⟩
 ·cases lo with
  | none => simp [sliceBounds, HT.sIx]
  | some i =>
   simp only [sliceBounds, HT.sIx, Option.getD_none, show (1 : Int) > 0 by decide, if_true]
   by_cases h : i < 0
   ·simp only [h, if_true] <;> omega
   ·simp only [h, if_false] <;> omega
 ·cases hi with
  | none => simp [sliceBounds, HT.sIx]
  | some i =>
   simp only [sliceBounds, HT.sIx, Option.getD_none, show (1 : Int) > 0 by decide, if_true]
   by_cases h : i < 0
   ·simp only [h, if_true] <;> omega
   ·simp only [h, if_false] <;> omega
theorem Ww (its : List Value) (lo hi : Option Int) : slicePick its.toArray lo hi none = ((its.drop (HT.sIx its.length 0 lo)).take (HT.sIx its.length its.length hi - HT.sIx its.length 0 lo)).toArray := by
 obtain ⟨h1, h2, h3⟩ := WY lo hi its.toArray.size
 unfold slicePick
 rw [h1, h2, h3]
 simp only [sliceRange_one, pick_run, List.size_toArray] <;> rfl
def rSlL (K : PySem.W.Frag) : V → Option Int → Option Int → Hp → VK → Prop := fun x lo hi H Q => ∃ a xs, x = .ref a ∧ SqL K H a xs ∧ ∀ p, H p = none → Q (.ref p) (upd H p (.lst (cutV xs lo hi)))
theorem Zcy : SlR X (rSlL X.K) := by
 intro pins s σ H x v vl vu lo hi sl Q I rx hs pl pu h
 obtain ⟨a, xs, rfl, hx, q⟩ := h
 cases rx
 obtain ⟨its, r, ht, hz⟩ := I.list hx
 have hlen := r.length
 refine ⟨"list", _, slot_list_getitem.lookup, ht.isList.typeIs, ?_⟩
 refine wpAny_getItem_list_slice ht.isList hs pl pu .none (by simp) ?_ (by rw [List.size_toArray] <;> omega)
 rw [Ww, ← hlen]
 refine ⟨.ref s.heap.objs.size, _, I.laid (t' := s.toks) (o := .lst (cutV xs lo hi)) (fun b ob q => Heap.get?_push_of_some _ q) (Nat.le_refl _) ?_, rfl, q _ (I.hok.fresh (Nat.le_refl _))⟩
 exact ⟨Nat.le_trans (JD xs lo hi) hz, _, 0, (r.drop (HT.sIx xs.length 0 lo)).take (HT.sIx xs.length xs.length hi - HT.sIx xs.length 0 lo), Heap.get?_push_size _ rfl⟩
def flatV : V → Bool
 | .non => true
 | .bl _ => true
 | .int _ => true
 | .str _ => true
 | _ => false
def eqV : V → V → Bool
 | .non, .non => true
 | .bl a, .bl b => a == b
 | .bl a, .int b => (if a then 1 else 0) == b
 | .int a, .bl b => a == (if b then 1 else 0)
 | .int a, .int b => a == b
 | .str a, .str b => a == b
 | _, _ => false
theorem Zcn {A : Around} {s : Shared} {y x : V} {u v : Value} (ry : RelV y u) (rx : RelV x v) (fy : flatV y = true) (fx : flatV x = true) : SeqAt.EqAt A s u v (eqV y x) := by
 cases y with
 | non =>
  cases ry
  cases x with
  | non => cases rx; exact SeqAt.EqAt.same _
  | bl b => cases rx; exact SeqAt.EqAt.none_bool b
  | int b => obtain ⟨t, rfl⟩ := rx; exact SeqAt.EqAt.none_int b t
  | str b => obtain ⟨t, rfl⟩ := rx; exact SeqAt.EqAt.none_str b t
  | _ => exact absurd (show false = true from fx) Bool.false_ne_true
 | bl a =>
  cases ry
  cases x with
  | non => cases rx; exact SeqAt.EqAt.bool_none a
  | bl b => cases rx; exact SeqAt.EqAt.bool_bool a b
  | int b => obtain ⟨t, rfl⟩ := rx; exact SeqAt.EqAt.bool_int a b t
  | str b => obtain ⟨t, rfl⟩ := rx; exact SeqAt.EqAt.bool_str a b t
  | _ => exact absurd (show false = true from fx) Bool.false_ne_true
 | int a =>
  obtain ⟨t', rfl⟩ := ry
  cases x with
  | non => cases rx; exact SeqAt.EqAt.int_none a t'
  | bl b => cases rx; exact SeqAt.EqAt.int_bool a t' b
  | int b => obtain ⟨t, rfl⟩ := rx; exact SeqAt.EqAt.int_int a t' b t
  | str b => obtain ⟨t, rfl⟩ := rx; exact SeqAt.EqAt.int_str a t' b t
  | _ => exact absurd (show false = true from fx) Bool.false_ne_true
 | str a =>
  obtain ⟨t', rfl⟩ := ry
  cases x with
  | non => cases rx; exact SeqAt.EqAt.str_none a t'
  | bl b => cases rx; exact SeqAt.EqAt.str_bool a t' b
  | int b => obtain ⟨t, rfl⟩ := rx; exact SeqAt.EqAt.str_int a t' b t
  | str b => obtain ⟨t, rfl⟩ := rx; exact SeqAt.EqAt.str_str a t' b t
  | _ => exact absurd (show false = true from fx) Bool.false_ne_true
 | _ => exact absurd (show false = true from fy) Bool.false_ne_true
def eqU (x : V) (u : Value) : Bool := match u with
 | .none => eqV .non x
 | .bool b => eqV (.bl b) x
 | .int i _ => eqV (.int i) x
 | .str z _ => eqV (.str z) x
 | _ => false
theorem Zcl {x y : V} {u : Value} (r : RelV y u) (f : flatV y = true) : eqU x u = eqV y x := by
 cases y with
 | non => cases r; rfl
 | bl b => cases r; rfl
 | int i => obtain ⟨t, rfl⟩ := r; rfl
 | str z => obtain ⟨t, rfl⟩ := r; rfl
 | _ => exact absurd (show false = true from f) Bool.false_ne_true
theorem Uh {x : V} : ∀ {xs : List V} {us : List Value}, Vals xs us → xs.all flatV = true → us.any (eqU x) = xs.any fun y => eqV y x
 | _, _, .nil, _ => rfl
 | y :: xs, u :: us, .cons r t, f => by
  rw [List.all_cons, Bool.and_eq_true] at f
  rw [List.any_cons, List.any_cons, Zcl r f.1, Uh t f.2]
theorem Wi {A : Around} {s : Shared} {x : V} {v : Value} (rx : RelV x v) (fx : flatV x = true) : ∀ {xs : List V} {us : List Value}, Vals xs us → xs.all flatV = true → ∀ u ∈ us, SeqAt.EqAt A s u v (eqU x u)
 | _, _, .nil, _ => fun u hu => by cases hu
 | y :: xs, u :: us, .cons r t, f => fun u' hu => by
  rw [List.all_cons, Bool.and_eq_true] at f
  rcases List.mem_cons.mp hu with rfl | hu
  ·rw [Zcl r f.1]; exact Zcn r rx f.1 fx
  ·exact Wi rx fx t f.2 u' hu
def inV (x : V) (xs : List V) : Bool := xs.any fun y => eqV y x
def rIn (K : PySem.W.Frag) (neg : Bool) : R2 := fun x y H Q => ∃ p xs, y = .ref p ∧ (SqL K H p xs ∨ SqT K H p xs) ∧ flatV x = true ∧ xs.all flatV = true ∧ Q (.bl (if neg then !inV x xs else inV x xs)) H
theorem W6 : OpR X (compareOp .NotIn) (rIn X.K true) := by
 intro pins s σ H x y v u Q I rx ry h
 obtain ⟨p, xs, rfl, hq, fx, fs, q⟩ := h
 cases ry
 rcases hq with hq | hq
 ·obtain ⟨its, r, pl, hz⟩ := I.list hq
  refine SeqAt.notIn_listAt (eqU x) pl.isList (fun w hw => Wi rx fx r fs w (by simpa using hw)) ⟨.bl _, H, I, rfl, ?_⟩
  rw [show its.toArray.any (eqU x) = its.any (eqU x) by simp, Uh r fs]
  exact q
 ·obtain ⟨its, r, pl, hz⟩ := I.tuple hq
  refine SeqAt.notIn_tupleAt (eqU x) pl (fun w hw => Wi rx fx r fs w (by simpa using hw)) ⟨.bl _, H, I, rfl, ?_⟩
  rw [show its.toArray.any (eqU x) = its.any (eqU x) by simp, Uh r fs]
  exact q
theorem Zr : CallR X (.builtin "len") (fun xs H Q => ∃ p ys, xs = [.ref p] ∧ (SqL X.K H p ys ∨ SqT X.K H p ys) ∧ Q (.int ys.length) H) := by
 intro pins s σ H xs us Q I r h
 obtain ⟨p, ys, rfl, hq, q⟩ := h
 obtain ⟨u, rfl, rx⟩ := vals1 r
 cases rx
 have hn := line63
 rcases hq with hq | hq
 ·obtain ⟨its, r', pl, hz⟩ := I.list hq
  have hlen := r'.length
  exact Calls.call_len_list pl.isList (by simp only [List.size_toArray] <;> omega) ⟨.int ys.length, H, I.tok _, ⟨s.toks + 1, by rw [List.size_toArray, hlen]⟩, q⟩
 ·obtain ⟨its, r', pl, hz⟩ := I.tuple hq
  have hlen := r'.length
  exact len_tuple pl (by simp only [List.size_toArray] <;> omega) ⟨.int ys.length, H, I.tok _, ⟨s.toks + 1, by rw [List.size_toArray, hlen]⟩, q⟩
theorem Uf : CallR X (.type "list") (fun xs H Q => ∃ p ys, xs = [.ref p] ∧ (SqL X.K H p ys ∨ SqT X.K H p ys) ∧ ∀ l, H l = none → Q (.ref l) (upd H l (.lst ys))) := by
 intro pins s σ H xs us Q I r h
 obtain ⟨p, ys, rfl, hq, q⟩ := h
 obtain ⟨u, rfl, rx⟩ := vals1 r
 cases rx
 have fin : ∀ (its : List Value), Vals ys its → ys.length ≤ sizeLine → ∀ (h' : Heap) (c' : Nat), (∀ b o', s.heap.get? b = some o' → h'.get? b = some o') →
   h'.get? s.heap.objs.size = some { cls := .type "list", dict := none, data := .seq its.toArray c', slots := #[] } → EP X pins σ Q (.ref s.heap.objs.size) { s with heap := h' } := fun its r' hz h' c' kp e =>
  ⟨.ref s.heap.objs.size, _, I.laid (t' := s.toks) kp (Nat.le_refl _) (show ObjOk X.prog X.w _ h' _ (.lst ys) from ⟨hz, its, c', r', e⟩), rfl, q _ (I.hok.fresh (Nat.le_refl _))⟩
 rcases hq with hq | hq
 ·obtain ⟨its, r', pl, hz⟩ := I.list hq
  have hlen := r'.length
  obtain ⟨o, ho, hc, n, hd⟩ := pl.isList
  exact call_list_seq p (.inl rfl) ho hc hd (fun h' c' kp e => fin its r' hz h' c' kp e) (by simp only [List.size_toArray] <;> omega)
 ·obtain ⟨its, r', pl, hz⟩ := I.tuple hq
  have hlen := r'.length
  obtain ⟨o, ho, hc, n, hd⟩ := pl
  exact call_list_seq p (.inr rfl) ho hc hd (fun h' c' kp e => fin its r' hz h' c' kp e) (by simp only [List.size_toArray] <;> omega)
theorem Wz : CallR X (.type "tuple") (fun xs H Q => ∃ p ys, xs = [.ref p] ∧ ((SqL X.K H p ys ∧ ∀ l, H l = none → Q (.ref l) (upd H l (.tup ys))) ∨ (SqT X.K H p ys ∧ Q (.ref p) H))) := by
 intro pins s σ H xs us Q I r h
 obtain ⟨p, ys, rfl, h⟩ := h
 obtain ⟨u, rfl, rx⟩ := vals1 r
 cases rx
 rcases h with ⟨hq, q⟩ | ⟨hq, q⟩
 ·obtain ⟨its, r', pl, hz⟩ := I.list hq
  have hlen := r'.length
  refine call_tuple_list pl.isList (fun h' kp => ?_) (by simp only [List.size_toArray] <;> omega)
  have I1 : Inv X pins σ H { s with heap := h' } := I.kept (t' := s.toks) kp
  have I2 : Inv X pins σ (upd H h'.objs.size (.tup ys)) { s with heap := h'.push { cls := .type "tuple", data := .seq its.toArray } } :=
   I1.laid (t' := s.toks) (fun b o e => Heap.get?_push_of_some _ e) (Nat.le_refl _) (show ObjOk X.prog X.w _ _ _ (.tup ys) from ⟨hz, its, r', IsTup.new _ _, _, Heap.get?_push_size _ rfl, rfl⟩)
  exact ⟨.ref h'.objs.size, _, I2, rfl, q _ (I1.hok.fresh (Nat.le_refl _))⟩
 ·obtain ⟨its, r', pl, hz⟩ := I.tuple hq
  exact call_tuple_same pl ⟨.ref p, H, I, rfl, q⟩
def tyV (K : PySem.W.Frag) (T : String) (x : V) (H : Hp) : Prop := match x with
 | .str _ => T = "str"
 | .int _ => T = "int"
 | .ref p => (T = "list" ∧ ∃ xs, SqL K H p xs) ∨ (T = "tuple" ∧ ((∃ o, K.lookup p = some o ∧ o.cls = .type "tuple" ∧ o.dict = none) ∨ ∃ xs, H p = some (.tup xs))) ∨
   (T = "dict" ∧ ((∃ kvs, H p = some (.dK kvs)) ∨ ∃ kvs, H p = some (.dT kvs))) ∨ (T = "set" ∧ ∃ S n, H p = some (.set S n))
 | _ => False
theorem Zdm {pins : List (Addr × Obj)} {σ : St} {H : Hp} {s : Shared} {T : String} {x : V} {v : Value} (I : Inv X pins σ H s) (r : RelV x v) (ty : tyV X.K T x H) :
  s.TypeIs v T ∧ ∀ a, v = .ref a → ∃ ob, s.heap.get? a = some ob ∧ ob.dict = none := by
 cases x with
 | str z =>
  obtain ⟨t, rfl⟩ := r
  cases (show T = "str" from ty)
  exact ⟨typeIs_str s z t, fun _ e => nomatch e⟩
 | int i =>
  obtain ⟨t, rfl⟩ := r
  cases (show T = "int" from ty)
  exact ⟨typeIs_int s i t, fun _ e => nomatch e⟩
 | ref p =>
  cases r
  rcases ty with ⟨rfl, xs, hq⟩ | ⟨rfl, ⟨o, hk, hc, hd⟩ | ⟨xs, hx⟩⟩ | ⟨rfl, hk⟩ | ⟨rfl, S, n, hk⟩
  ·obtain ⟨its, _, pl, _⟩ := I.list hq
   refine ⟨pl.isList.typeIs, fun a e => ?_⟩
   cases e
   obtain ⟨o, n, e, c, hd, _⟩ := pl
   exact ⟨o, e, hd⟩
  ·refine ⟨⟨o, I.kIn p o hk, hc⟩, fun a e => ?_⟩
   cases e
   exact ⟨o, I.kIn _ o hk, hd⟩
  ·obtain ⟨_, _, _, ⟨o, e, c, _⟩, o2, e2, hd⟩ := (show ObjOk X.prog X.w H s.heap p (.tup xs) from I.hok p _ hx)
   refine ⟨⟨o, e, c⟩, fun a e3 => ?_⟩
   cases e3
   exact ⟨o2, e2, hd⟩
  ·have z : ∃ o, s.heap.get? p = some o ∧ o.ExactDict := by
    rcases hk with ⟨kvs, hk⟩ | ⟨kvs, hk⟩
    ·obtain ⟨_, _, _, _, o, _, _, e, ex, _⟩ := I.hok p _ hk
     exact ⟨o, e, ex⟩
    ·obtain ⟨_, _, _, _, o, _, _, e, ex, _⟩ := I.hok p _ hk
     exact ⟨o, e, ex⟩
   obtain ⟨o, e, ex⟩ := z
   refine ⟨⟨o, e, ex.1⟩, fun a e2 => ?_⟩
   cases e2
   exact ⟨o, e, ex.2.1⟩
  ·obtain ⟨o, _, _, _, e, ex, _⟩ := I.hok p _ hk
   refine ⟨⟨o, e, ex.1⟩, fun a e2 => ?_⟩
   cases e2
   exact ⟨o, e, ex.2.1⟩
 | _ => exact False.elim ty
def tBM (K : PySem.W.Frag) (T : String) (r : V → List V → Hp → VK → Prop) (to : TE) (t : TA) : TE := fun σ H Q => to σ H fun x H1 => tyV K T x H1 ∧ t σ H1 fun xs H2 => r x xs H2 Q
variable {o e : Expr} {es : List Expr} {to : TE} {t : TA} {name : Str} {apos cpos : Pos} {T id : String} {r : V → List V → Hp → VK → Prop}
theorem Wa (pa : PlainAttrs T) (slot : Slot T name id) (hty : typeOf (.builtin id) = pure (.type "method_descriptor")) (hm : MtR X id r) (ho : PE X o to) (ha : PA X (e :: es) t)
    (hbase : attributeBase o name X.env (eval o X.env) = eval o X.env := by rfl)
    (hfew : ((backTo cpos (starEach (e :: es) X.env)).all (fun x => !x.1) && (backToKw cpos (keywordEach [] X.env)).all (fun x => x.1.isSome)
      && decide ((e :: es).length + ([] : List Keyword).length + (if ([] : List Keyword).isEmpty then 0 else 1) < 30)) = true := by rfl)
    (hline : (apos.endLine == cpos.line) = true := by rfl) (hs : starEach (e :: es) X.env = (false, eval e X.env) :: starEach es X.env := by rfl) (hplain : (backTo cpos (starEach es X.env)).any (·.1) = false := by rfl) :
    PE X (.Call (.Attribute o name apos) (e :: es) [] cpos) (tBM X.K T r to t) := by
  intro pins s σ H Q I h
  refine wpAny_Call_method_late hbase hfew hline rfl (thn (ho pins s σ H _ I h) fun v s1 ⟨x, H1, I1, r1, ty, q1⟩ => ?_)
  obtain ⟨h1, h2⟩ := Zdm I1 r1 ty
  refine ⟨T, id, pa, slot, hty, h1, h2, ?_⟩
  have hA := ha cpos pins s1 σ H1 _ I1 q1
  rw [hs] at hA ⊢
  refine Calls.callWith_builtin (by show (false || (backTo cpos (starEach es X.env)).any (·.1)) = false; rw [hplain] <;> rfl) (Calls.evalArgs_plain ?_)
  exact thn hA fun us s2 ⟨vs, H2, I2, r2, q2⟩ => hm pins s2 σ H2 x vs v us Q I2 r1 r2 q2
end
end L2
namespace L2
open PySem PySem.Spec PyProof.Rows
def MtM (X : Cx) (id : String) (r : V → List V → Hp → VK → Prop) : Prop :=
 ∀ (pins : List (Addr × Obj)) (s : Shared) (σ : St) (H : Hp) (x : V) (xs : List V) (v : Value) (us : List Value) (Q : VK), Inv X pins σ H s → RelV x v → Vals xs us → r x xs H Q →
  wpAny (model X.prog X.w) X.A (call (.builtin id) (v :: us)) (EP X pins σ Q) X.xe s
theorem Vals.one : ∀ {x : V} {us : List Value}, Vals [x] us → ∃ u, us = [u] ∧ RelV x u
 | _, _, .cons r .nil => ⟨_, rfl, r⟩
theorem Vals.eraseIdx : ∀ {xs : List V} {us : List Value} (i : Nat), Vals xs us → Vals (xs.eraseIdx i) (us.eraseIdx i)
 | _, _, _, .nil => .nil
 | _, _, 0, .cons _ t => t
 | _, _, i + 1, .cons r t => .cons r (Vals.eraseIdx i t)
theorem WM {α : Type} : ∀ (l : List α) (i : Nat), (l.eraseIdx i).length ≤ l.length
 | [], _ => Nat.le_refl _
 | _ :: _, 0 => Nat.le_succ _
 | _ :: r, i + 1 => Nat.succ_le_succ (WM r i)
section
variable {X : Cx} {pins : List (Addr × Obj)} {σ : St} {H : Hp} {s : Shared} {l b : Addr} {xs ys zs : List V}
theorem Inv.lset {its its' : List Value} {n : Nat} {f : Array Value → Array Value} {t' : Nat} (I : Inv X pins σ H s) (hH : H l = some (.lst xs))
  (e : s.heap.get? l = some { cls := .type "list", data := .seq its.toArray n }) (hf : f its.toArray = its'.toArray) (hv : Vals ys its') (hz : ys.length ≤ sizeLine) :
  Inv X pins σ (upd H l (.lst ys)) { s with heap := s.heap.update l (Obj.mapSeq f), toks := t' } := by
 have q := PySem.IsL.update e f
 rw [hf] at q
 refine I.write (x := l) (e := l) (by rw [hH]; exact trivial) (.inl rfl) (fun b' u hb hu => (Heap.get?_update_other s.heap (Obj.mapSeq f) (Ne.symm hb)).trans hu) ⟨_, q⟩ ?_
 exact ⟨hz, its', _, hv, q⟩
theorem Inv.lnew {its : List Value} {t' : Nat} (I : Inv X pins σ H s) (hv : Vals ys its) (hz : ys.length ≤ sizeLine) :
  Inv X pins σ (upd H s.heap.objs.size (.lst ys)) { s with heap := s.heap.push { cls := .type "list", data := .seq its.toArray }, toks := t' } :=
 I.laid (fun _ _ q => Heap.get?_push_of_some _ q) (Nat.le_refl _) ⟨hz, its, 0, hv, Heap.get?_push_size _ rfl⟩
theorem Inv.fresh (I : Inv X pins σ H s) : H s.heap.objs.size = none := I.hok.fresh (Nat.le_refl _)
theorem Inv.lstM (I : Inv X pins σ H s) (hH : H l = some (.lst xs)) : xs.length ≤ sizeLine ∧ ∃ (its : List Value) (n : Nat), Vals xs its ∧ xs.length = its.length ∧ s.heap.get? l = some { cls := .type "list", data := .seq its.toArray n } := by
 obtain ⟨z, its, n, r, e⟩ := I.hok l _ hH
 exact ⟨z, its, n, r, r.length, e⟩
end
section
variable {X : Cx}
def rAppend : V → List V → Hp → VK → Prop := fun x vs H Q => ∃ l xs y, x = .ref l ∧ vs = [y] ∧ H l = some (.lst xs) ∧ xs.length < sizeLine ∧ Q .non (upd H l (.lst (xs ++ [y])))
theorem YA : MtM X "list.append" rAppend := by
 intro pins s σ H x vs v us Q I rx rv h
 obtain ⟨l, xs, y, rfl, rfl, hH, hz, q⟩ := h
 cases rx
 obtain ⟨u, rfl, ru⟩ := rv.one
 obtain ⟨z, its, n, r, hl, e⟩ := I.lstM hH
 refine call_meets F.slot_list_append ⟨_, e, rfl⟩ F.entry_list_append (F.args_list_append_2 _ _) (PySem.list_append l its.toArray n u (by rw [List.size_toArray]; omega)) ⟨e, ?_⟩
 refine ⟨.non, _, I.lset (its' := its ++ [u]) hH e (by simp) (r.append (.cons ru .nil)) ?_, rfl, q⟩
 rw [List.length_append, List.length_singleton]
 omega
def rPopAt : V → List V → Hp → VK → Prop := fun x vs H Q => ∃ l xs i k y, x = .ref l ∧ vs = [.int i] ∧ H l = some (.lst xs) ∧ -(2 ^ 63) ≤ i ∧ i < 2 ^ 63 ∧ seqIndex? i xs.length = some k ∧ xs[k]? = some y ∧ Q y (upd H l (.lst (xs.eraseIdx k)))
theorem Zb0 : MtM X "list.pop" rPopAt := by
 intro pins s σ H x vs v us Q I rx rv h
 obtain ⟨l, xs, i, k, y, rfl, rfl, hH, h1, h2, hk, hy, q⟩ := h
 cases rx
 obtain ⟨u, rfl, ru⟩ := rv.one
 obtain ⟨t, rfl⟩ := ru
 obtain ⟨z, its, n, r, hl, e⟩ := I.lstM hH
 obtain ⟨w, hw, rw'⟩ := r.get hy
 refine call_meets F.slot_list_pop ⟨_, e, rfl⟩ F.entry_list_pop (F.args_list_pop_2 _ _)
  (MeetsSeq.list_pop_at l its.toArray n i t k w (fitsIndex_both h1 h2) (by rw [List.size_toArray, ← hl]; exact hk) (by rw [← Array.getElem?_toList]; exact hw) (by rw [List.size_toArray]; omega)) ⟨e, ?_⟩
 refine ⟨y, _, I.lset (its' := its.eraseIdx k) hH e ?_ (r.eraseIdx k) ?_, rw', q⟩
 ·show its.toArray.eraseIdxIfInBounds k = (its.eraseIdx k).toArray
  rw [List.eraseIdxIfInBounds_toArray]
 ·have := WM xs k
  omega
def rCat : R2 := fun x y H Q => ∃ l b xs zs, x = .ref l ∧ y = .ref b ∧ H l = some (.lst xs) ∧ H b = some (.lst zs) ∧ xs.length + zs.length ≤ sizeLine ∧ ∀ p, H p = none → Q (.ref p) (upd H p (.lst (xs ++ zs)))
theorem Y7 : OpR X (binaryOp .Add) rCat := by
 intro pins s σ H x y v u Q I rx ry h
 obtain ⟨l, b, xs, zs, rfl, rfl, hH, hB, hz, q⟩ := h
 cases rx
 cases ry
 obtain ⟨z, its, n, r, hl, e⟩ := I.lstM hH
 obtain ⟨z2, its2, n2, r2, hl2, e2⟩ := I.lstM hB
 refine PySem.P.add_list e e2 ?_ (by rw [List.size_toArray, List.size_toArray]; omega)
 have ea : its.toArray ++ its2.toArray = (its ++ its2).toArray := by simp
 rw [ea]
 exact ⟨.ref _, _, I.lnew (t' := s.toks) (r.append r2) (by rw [List.length_append]; omega), rfl, q _ I.fresh⟩
end
end L2
namespace Att
open PySem PySem.W PySem.Calls PyProof.Rows
theorem JG {P : Params} {h : Heap} : ∀ (ns : List Int) (vs : List Value), WellAll P h vs (ns.map WData.int) → IntsAre vs ns := by
 intro ns
 induction ns with
 | nil =>
  intro vs w
  rw [List.map_nil] at w
  cases w
  exact .nil
 | cons n ns ih =>
  intro vs w
  rw [List.map_cons] at w
  cases w with
  | cons a b =>
   cases a
   exact .cons _ _ (ih _ b)
theorem ZaS {l : OpenLaw} {n : Nat} (hn : l.most = some n) {P : Params} {h : Heap} {args : List WData} {vals : List Value}
  (hpre : l.row.toRowW.claim.pre args = true) (hwl : WellAll P h vals args) :
  ∃ a vs ns, vals = [Value.ref a] ∧ args = [WData.list (ns.map WData.int)] ∧ h.get? a = some { cls := .type "list", data := .seq vs.toArray } ∧ IntsAre vs ns ∧ ns.length ≤ n := by
 have hsh : WShape.hasAll [] args [.list .int] = true := (pre_splitW hpre).1
 have hc : l.pre.holds [] { args := args } = true := (pre_splitW hpre).2
 obtain ⟨d, r, rfl, h1, h2⟩ := hasAllW_cons hsh
 obtain rfl := hasAllW_nil h2
 obtain ⟨xs, rfl, h3⟩ := hasW_list h1
 obtain ⟨ns, rfl⟩ := items_int h3
 have hlen : ns.length ≤ n := by
  unfold OpenLaw.pre at hc
  have h4 : (WTm.not (.lt (.lit (.int (n : Int))) (.len (.arg 0)))).holds [] { args := [.list (ns.map .int)] } = true := by
   have h4 := (holds_andW hc).1
   rw [hn] at h4
   exact h4
  have h5 := condW_of h4 (w_not (w_lt w_lit (w_len_list (w_arg rfl))))
  rw [List.length_map] at h5
  refine Nat.le_of_not_lt fun q => ?_
  have q' : (n : Int) < ((ns.length : Nat) : Int) := by omega
  first
   | (rw [decide_eq_true q'] at h5; exact absurd h5 (by decide))
   | (simp at h5; omega)
 cases hwl with
 | cons w1 w2 =>
  cases w2
  cases w1 with
  | list ho hall => exact ⟨_, _, ns, rfl, rfl, ho, JG ns _ hall, hlen⟩
theorem ZaV (l : OpenLaw) (args : List WData) : l.row.toRowW.claim.post args (.bool true) args = true :=
 postW_of (r := l.row.toRowW) (X := (true == true))
  (show WShape.has [] (.bool true) .bool = true by first | rfl | decide | simp [WShape.has, WShape.arms, WShape.armsAll])
  (show (WTm.eq .res (.lit (.bool true))).value [] { args := args, res := some (.bool true), after := args } = some (.bool (true == true)) from w_eq_bool (w_res rfl) w_lit) rfl
theorem attach_call {l : OpenLaw} {n : Nat} {q : Program} {loose : List Str} {XP : (Str → Option Value) → Heap → Prop} {YP : World → Heap → Prop} {d : DefRec}
    (hn : l.most = some n) (hdf : d.params.defaults = [])
    (call : ∀ (w : World) (s₀ s₁ : Shared) (mg mb : Str → Option Value) (fa : Addr) (o : Obj) (pm cd doc : Value) (a : Addr) (vs : List Value) (ns : List Int),
      Ground q loose [] XP w s₀ mg mb s₁.heap → YP w s₁.heap →
      s₁.heap.get? fa = some o → o.data = .func (docDef d.name d.params d.body d.scope pm cd doc) → s₁.heap.CodeRec cd d.name → mg d.name = some (.ref fa) →
      s₁.heap.get? a = some { cls := .type "list", data := .seq vs.toArray } → IntsAre vs ns → ns.length ≤ n → s₁.gens = #[] →
      codeAny (model l.prog w) callerA (.call (.ref fa) ⟨[.ref a], []⟩) (fun r s' => r = .ok (.ret (.bool true)) ∧ OldK s₁.heap s'.heap ∧ s'.os = s₁.os ∧ AllBare s'.gens) s₁) :
    WalkO q loose XP YP l.row.toRowW d [] (fun f vs => PySem.call f vs) := by
  intro w s₀ s₁ mg mb G Y fa o pm cd doc dV kV ho hd hcd hD hmg hg args vals as hpre hlay hrd hwl hlo
  obtain rfl : dV = .none := Dflts.none hD hdf
  obtain rfl : kV = .none := Dflts.noKw hD
  obtain ⟨a, vs, ns, rfl, rfl, hobj, hints, hlen⟩ := ZaS hn hpre hwl
  refine enter_call (codeAny_mono (call w s₀ s₁ mg mb fa o pm cd doc a vs ns G Y ho (fd_plain hd) hcd hmg hobj hints hlen hg) fun r s' hq => ?_)
  obtain ⟨rfl, h2, h3, h4⟩ := hq
  exact ⟨.inl ⟨.bool true, .bool true, [], rfl, fun _ => rfl, .bool true, ZaV l _, fun _ => ⟨List.Pairwise.nil, fun _ hm => (nomatch hm)⟩⟩, h2, h3, h4⟩
end Att
namespace L2
open PySem PySem.Spec PyProof.Rows
theorem WE : ∀ {vs : List Value} {ns : List Int}, IntsAre vs ns → Vals (ns.map V.int) vs
 | _, _, .nil => .nil
 | _, _, .cons n t h => .cons ⟨t, rfl⟩ (WE h)
end L2
namespace L2
open PySem PySem.Spec PyProof.Rows
end L2
namespace L2
open PySem PySem.Spec PyProof.Rows
def defArgs (s : Stmt) : Arguments := match s with
 | .FunctionDef _ a _ _ _ _ _ _ _ _ => a
 | _ => { posonlyargs := [], args := [], vararg := none, kwonlyargs := [], kw_defaults := [], kwarg := none, defaults := [] }
def defBody (s : Stmt) : List Stmt := match s with
 | .FunctionDef _ _ b _ _ _ _ _ _ _ => b
 | _ => []
def defScope (s : Stmt) : Scope := match s with
 | .FunctionDef _ _ _ _ _ _ sc _ _ _ => sc
 | _ => { kind := .function, names := [], isGenerator := false, isCoroutine := false }
abbrev CX0 : CXT := fun _ _ _ _ _ _ => False
abbrev E0 : XK := fun _ _ _ => False
theorem pass0 {X : Cx} : Passes CX0 X E0 := fun _ _ _ _ _ _ _ h => h.elim
structure Fun (K : PySem.W.Frag) (x qual : Str) (st : Stmt) (f : Addr) (fd : FuncData) : Prop where
 ex : ∃ (oc : Value) (od : Option Addr) (kV doc pm : Value) (an : Option Addr) (cdv ct : Value) (osl : Array (Option Value)),
  fd = PySem.W.fnOf x qual (defArgs st) (defBody st) (defScope st) .none kV doc pm an cdv ct ∧ K.lookup f = some ⟨oc, od, .func fd, osl⟩ ∧ PySem.W.codeIn K cdv qual = true
 kp : PySem.W.keepIn K (.ref f) = true
section
variable {P : Program} {w : World} {K : PySem.W.Frag} {mg : Str → Option Value} {base : Heap}
theorem Fun.ok {x qual : Str} {st : Stmt} {f : Addr} {fd : FuncData} {N ps : List Str} {k : Nat} {sp : Sp} (F : Fun K x qual st f fd) (S : FnScope N ps (defScope st)) (len : ∀ vs H Q E, sp vs H Q E → vs.length = ps.length)
    (hbody : ∀ (cdv : Value) (A : Around) (outer : List Env) (s : Shared) (H : Hp) (vs : List V) (Q : VK) (E : XK), Room k (A.deeper (envOfC qual (defScope st) s.heap.objs.size f cdv)) → sp vs H Q E →
      ∃ t, PSs (cxOf CX0 P w K mg base N qual (defScope st) f cdv A outer s H E).nox (defBody st) t ∧ t { nx := fun _ H' => Q .non H', rt := Q } (start N vs) H) : FnOk P w K mg base CX0 (k + 1) f fd ps sp := by
  obtain ⟨oc, od, kV, doc, pm, an, cdv, ct, osl, rfl, lk, hcd⟩ := F.ex
  refine Zce lk hcd S len fun A outer s H vs Q E hr hsp => ?_
  obtain ⟨t, h, q⟩ := hbody cdv A outer s H vs Q E hr hsp
  exact ⟨t, h.nox, q⟩
theorem Fun.binds {x qual : Str} {st : Stmt} {f : Addr} {fd : FuncData} {ps : List Str} (F : Fun K x qual st f fd)
  (h : ∀ (kV doc pm : Value) (an : Option Addr) (cdv ct : Value) (us : List Value), us.length = ps.length → bindArgs (PySem.W.fnOf x qual (defArgs st) (defBody st) (defScope st) .none kV doc pm an cdv ct) ⟨us, []⟩ = pure (ps.zip us)) : Binds K fd ps [] := by
 obtain ⟨oc, od, kV, doc, pm, an, cdv, ct, osl, rfl, lk, hcd⟩ := F.ex
 exact .all (h kV doc pm an cdv ct)
theorem ZdH {x qual : Str} {st : Stmt} {f : Addr} {oc : Value} {od an : Option Addr} {osl : Array (Option Value)} {kV doc pm cdv ct : Value} (l : K.lookup f = some ⟨oc, od, .func (PySem.W.fnOf x qual (defArgs st) (defBody st) (defScope st) .none kV doc pm an cdv ct), osl⟩)
  (c : PySem.W.codeIn K cdv qual = true) (k : PySem.W.keepIn K (.ref f) = true) : Fun K x qual st f (PySem.W.fnOf x qual (defArgs st) (defBody st) (defScope st) .none kV doc pm an cdv ct) := ⟨⟨oc, od, kV, doc, pm, an, cdv, ct, osl, rfl, l, c⟩, k⟩
end
theorem Zcc {A : Around} {k : Nat} (hr : Room k A) : A.units + 1 < cLine := Nat.lt_of_le_of_lt (Nat.add_le_add_left (by decide : 1 ≤ 64) _) hr.units
theorem small1000 {n : Nat} (h : n ≤ 1000) : n < sizeLine := Nat.lt_of_le_of_lt h (by decide)
section
variable {X : Cx}
theorem pv (i : Nat) {x : Str} {pos : Pos} (hN : X.N[i]? = some x := by rfl) (hv : Vis X.env.scope x := by first | exact Or.inl rfl | exact Or.inr (Or.inl rfl) | exact Or.inr (Or.inr rfl)) (hd : (x == ("__debug__" : Str)) = false := by decide)
  (hcd : (x == ("__classdict__" : Str)) = false := by decide) : PE X (.Name x pos) (tVar i) := J9 hN hv hd hcd
end
theorem iteF {A B : Prop} (h : B) : if false = true then A else B := by
 rw [if_neg Bool.false_ne_true]
 exact h
theorem iteT {A B : Prop} (h : A) : if true = true then A else B := by
 rw [if_pos rfl]
 exact h
theorem ite2 {c A B : Prop} [Decidable c] (h1 : c → A) (h2 : ¬ c → B) : if c then A else B := by
 by_cases h : c
 ·rw [if_pos h]
  exact h1 h
 ·rw [if_neg h]
  exact h2 h
def Same (H H' : Hp) : Prop := ∀ b o, H b = some o → H' b = some o
theorem Same.refl (H : Hp) : Same H H := fun _ _ h => h
theorem Same.trans {H H1 H2 : Hp} (a : Same H H1) (b : Same H1 H2) : Same H H2 := fun c o h => b c o (a c o h)
theorem Same.free {H H' : Hp} (e : Same H H') {l : Addr} (h : H' l = Option.none) : H l = Option.none := by
 cases q : H l with
 | none => rfl
 | some o =>
  rw [e l o q] at h
  cases h
end L2
set_option Elab.async false
set_option linter.all false
set_option maxRecDepth 100000
namespace L2
open PySem PySem.Spec PyProof.Rows
section
variable {κ : Type} [DecidableEq κ]
def valV (kvs : List (κ × V)) (k : κ) : Option V := (kvs.find? fun kv => decide (kv.1 = k)).map (·.2)
def putK (kvs : List (κ × V)) (k : κ) (v : V) : List (κ × V) :=
 if (kvs.any fun kv => decide (kv.1 = k)) = true then kvs.map (fun kv => if kv.1 = k then (kv.1, v) else kv) else kvs ++ [(k, v)]
theorem JQ {p : κ × V} {r : List (κ × V)} {k : κ} (e : p.1 = k) : valV (p :: r) k = some p.2 := by simp [valV, List.find?_cons, e]
theorem JR {p : κ × V} {r : List (κ × V)} {k : κ} (e : ¬ p.1 = k) : valV (p :: r) k = valV r k := by simp [valV, List.find?_cons, e]
theorem YL (k : κ) : ∀ kvs : List (κ × V), (kvs.any fun kv => decide (kv.1 = k)) = (valV kvs k).isSome
 | [] => rfl
 | p :: r => by
  rw [List.any_cons]
  by_cases e : p.1 = k
  ·simp only [JQ e, decide_eq_true e, Bool.true_or, Option.isSome_some]
  ·rw [JR e, decide_eq_false e, Bool.false_or]; exact YL k r
theorem JB (kvs : List (κ × V)) (k : κ) (v : V) : (putK kvs k v).length ≤ kvs.length + 1 := by
 unfold putK
 split
 ·rw [List.length_map]; omega
 ·rw [List.length_append, List.length_cons, List.length_nil]; omega
theorem Zbz {kvs : List (κ × V)} {k : κ} (v : V) (h : valV kvs k = none) : putK kvs k v = kvs ++ [(k, v)] := by
 unfold putK
 rw [YL, h]
 exact if_neg (by decide)
theorem RelO.isSome_eq {o : Option V} {u : Option Value} (r : RelO o u) : o.isSome = u.isSome := by
 cases o with
 | none => cases u with
  | none => rfl
  | some _ => exact (show False from r).elim
 | some _ => cases u with
  | none => exact (show False from r).elim
  | some _ => rfl
theorem KV.val {kvs : List (κ × V)} {vs : List (κ × Value)} (r : KV kvs vs) (k : κ) : RelO (valV kvs k) (valueAt vs k) := by
 unfold KV at r
 induction r with
 | nil => exact True.intro
 | @cons p q ps qs h t ih =>
  obtain ⟨h1, h2⟩ := h
  by_cases e : p.1 = k
  ·have e' : q.1 = k := h1.symm.trans e
   have b : valueAt (q :: qs) k = some q.2 := by simp [valueAt, List.find?_cons, e']
   rw [JQ e, b]; exact h2
  ·have e' : ¬ q.1 = k := fun z => e (h1.trans z)
   have b : valueAt (q :: qs) k = valueAt qs k := by simp [valueAt, List.find?_cons, e']
   rw [JR e, b]; exact ih
theorem KV.any {kvs : List (κ × V)} {vs : List (κ × Value)} (r : KV kvs vs) (k : κ) : (kvs.any fun kv => decide (kv.1 = k)) = vs.any fun kv => decide (kv.1 = k) := by
 unfold KV at r
 induction r with
 | nil => rfl
 | cons h t ih => rw [List.any_cons, List.any_cons, ih, h.1]
theorem KV.repl {kvs : List (κ × V)} {vs : List (κ × Value)} (r : KV kvs vs) (k : κ) {y : V} {u : Value} (ry : RelV y u) :
  KV (kvs.map fun kv => if kv.1 = k then (kv.1, y) else kv) (vs.map fun kv => if kv.1 = k then (kv.1, u) else kv) := by
 unfold KV at r ⊢
 induction r with
 | nil => exact .nil
 | @cons p q ps qs h t ih =>
  rw [List.map_cons, List.map_cons]
  refine .cons ?_ ih
  obtain ⟨h1, h2⟩ := h
  by_cases e : p.1 = k
  ·rw [if_pos e, if_pos (h1.symm.trans e)]; exact ⟨h1, ry⟩
  ·rw [if_neg e, if_neg (fun z => e (h1.trans z))]; exact ⟨h1, h2⟩
theorem KV.put {kvs : List (κ × V)} {vs : List (κ × Value)} (r : KV kvs vs) (k : κ) {y : V} {u : Value} (ry : RelV y u) : KV (putK kvs k y) (stored vs k u) := by
 unfold putK stored
 rw [r.any k]
 by_cases e : (vs.any fun kv => decide (kv.1 = k)) = true
 ·rw [if_pos e, if_pos e]; exact r.repl k ry
 ·rw [if_neg e, if_neg e]; exact Paired.snoc r ⟨rfl, ry⟩
theorem KV.length {kvs : List (κ × V)} {vs : List (κ × Value)} (r : KV kvs vs) : kvs.length = vs.length := Paired.length r
end
theorem Zca {P : Program} {w : World} {k : Key} {u : Value} (r : RelV (kV k) u) : (mixKind P w).is k u = true := by
 cases k with
 | inl i => obtain ⟨t, e⟩ := (show ∃ t, u = Value.int i t from r); subst e; exact UA P w i t
 | inr x => obtain ⟨t, e⟩ := (show ∃ t, u = Value.str x t from r); subst e; exact Uz P w x t
theorem WN {P : Program} {w : World} : ∀ {ks : List Key} {us : List Value}, Vals (ks.map kV) us → ItemsAre (mixKind P w) ks us
 | [], _, r => by rw [List.map_nil] at r; cases r; exact .nil
 | k :: ks, _, r => by
  rw [List.map_cons] at r
  cases r with
  | cons h t => exact .cons (Zca h) (WN t)
abbrev KT (H : Hp) : List (List Key × V) → List (List Key × Addr × Value) → Prop := Paired fun p q => p.1 = q.1 ∧ H q.2.1 = some (.tup (p.1.map kV)) ∧ RelV p.2 q.2.2
theorem KT.val {H : Hp} {kvs : List (List Key × V)} {xs : List (List Key × Addr × Value)} (r : KT H kvs xs) (k : List Key) : RelO (valV kvs k) ((atKey xs k).map (·.2)) := by
 induction r with
 | nil => exact True.intro
 | @cons p q ps qs h t ih =>
  obtain ⟨h1, _, h2⟩ := h
  by_cases e : p.1 = k
  ·have e' : q.1 = k := h1.symm.trans e
   have b : atKey (q :: qs) k = some q.2 := by simp [atKey, List.find?_cons, e']
   rw [JQ e, b]; exact h2
  ·have e' : ¬ q.1 = k := fun z => e (h1.trans z)
   have b : atKey (q :: qs) k = atKey qs k := by simp [atKey, List.find?_cons, e']
   rw [JR e, b]; exact ih
theorem KT.repl {H : Hp} {kvs : List (List Key × V)} {xs : List (List Key × Addr × Value)} (r : KT H kvs xs) (k : List Key) {y : V} {u : Value} (ry : RelV y u) :
  KT H (kvs.map fun kv => if kv.1 = k then (kv.1, y) else kv) (xs.map (putAt k u)) := by
 induction r with
 | nil => exact .nil
 | @cons p q ps qs h t ih =>
  rw [List.map_cons, List.map_cons]
  refine .cons ?_ ih
  obtain ⟨h1, h2, h3⟩ := h
  unfold putAt
  by_cases e : p.1 = k
  ·rw [if_pos e, if_pos (h1.symm.trans e)]; exact ⟨h1, h2, ry⟩
  ·rw [if_neg e, if_neg (fun z => e (h1.trans z))]; exact ⟨h1, h2, h3⟩
theorem KT.put {H : Hp} {kvs : List (List Key × V)} {xs : List (List Key × Addr × Value)} (r : KT H kvs xs) (k : List Key) {b : Addr} {y : V} {u : Value} (hb : H b = some (.tup (k.map kV))) (ry : RelV y u) :
  KT H (putK kvs k y) (storedH xs k b u) := by
 have e : (kvs.any fun kv => decide (kv.1 = k)) = (atKey xs k).isSome := by
  rw [YL, (r.val k).isSome_eq, Option.isSome_map]
 unfold putK storedH
 rw [e]
 by_cases q : (atKey xs k).isSome = true
 ·rw [if_pos q, if_pos q]; exact r.repl k ry
 ·rw [if_neg q, if_neg q]; exact Paired.snoc r ⟨rfl, hb, ry⟩
theorem KT.keeps {H H' : Hp} {kvs : List (List Key × V)} {xs : List (List Key × Addr × Value)} (r : KT H kvs xs) (ht : ∀ b ys, H b = some (.tup ys) → H' b = some (.tup ys)) : KT H' kvs xs :=
 Paired.mapP r fun _ _ z => ⟨z.1, ht _ _ z.2.1, z.2.2⟩
section
variable {P : Program} {w : World} {H : Hp} {h : Heap} {a : Addr}
theorem Zda {u : HO} (ok : HOk P w H h) (e : Rd H a u) : ObjOk P w H h a u := e.ok ok
theorem Zdj {kvs : List (Key × V)} (ok : HOk P w H h) (e : Rd H a (.dK kvs)) : kvs.length ≤ sizeLine ∧ (a == sysModules) = false ∧ ∃ vs, KV kvs vs ∧ h.DictOf (mixKind P w) a vs :=
 show ObjOk P w H h a (.dK kvs) from Zda ok e
theorem ZdS {kvs : List (Key × V)} (ok : HOk P w H h) (e : H a = some (.dK kvs)) : kvs.length ≤ sizeLine ∧ (a == sysModules) = false ∧ ∃ vs, KV kvs vs ∧ h.DictOf (mixKind P w) a vs := Zdj ok (.inl e)
theorem Zah {ks : List Key} (ok : HOk P w H h) (e : H a = some (.tup (ks.map kV))) : (tupleKind (mixKind P w)).is h ks a := by
 obtain ⟨_, its, r, ⟨o, h1, h2, n, h3⟩, _⟩ := (show ObjOk P w H h a (.tup (ks.map kV)) from ok a _ e)
 exact ⟨o, its.toArray, n, h1, h2, h3, by simpa using WN r⟩
theorem Zdi {kvs : List (List Key × V)} (ok : HOk P w H h) (e : Rd H a (.dT kvs)) : kvs.length ≤ sizeLine ∧ (a == sysModules) = false ∧
  ∃ xs, KT H kvs xs ∧ h.DictOfH (tupleKind (mixKind P w)) a xs := by
 obtain ⟨z, y, xs, r, o, es, ep, h1, h2, h3, h4, h5⟩ := (show ObjOk P w H h a (.dT kvs) from Zda ok e)
 refine ⟨z, y, xs, r, o, es, ep, h1, h2, h3, h4, fun x hx => ?_, h5⟩
 have all : ∀ {l : List (List Key × V)} {m : List (List Key × Addr × Value)}, KT H l m → ∀ x ∈ m, (tupleKind (mixKind P w)).is h x.1 x.2.1 := by
  intro l m q
  induction q with
  | nil => intro x hx; exact nomatch hx
  | @cons p q ps qs hq t ih =>
   intro x hx
   rcases List.mem_cons.mp hx with e | hx
   ·subst e
    exact Zah ok (by rw [← hq.1]; exact hq.2.1)
   ·exact ih x hx
 exact all r x hx
theorem ZdR {kvs : List (List Key × V)} (ok : HOk P w H h) (e : H a = some (.dT kvs)) : kvs.length ≤ sizeLine ∧ (a == sysModules) = false ∧
  ∃ xs, KT H kvs xs ∧ h.DictOfH (tupleKind (mixKind P w)) a xs := Zdi ok (.inl e)
end
def DGet (H : Hp) (a : Addr) (y : V) (r : Option V) : Prop :=
 (∃ kvs k, Rd H a (.dK kvs) ∧ y = kV k ∧ r = valV kvs k) ∨ ∃ kvs k b, Rd H a (.dT kvs) ∧ y = .ref b ∧ H b = some (.tup (k.map kV)) ∧ r = valV kvs k
def DPut (H : Hp) (a : Addr) (y v : V) (H' : Hp) : Prop :=
 (∃ kvs k, H a = some (.dK kvs) ∧ y = kV k ∧ kvs.length < sizeLine ∧ H' = upd H a (.dK (putK kvs k v))) ∨
 ∃ kvs k b, H a = some (.dT kvs) ∧ y = .ref b ∧ H b = some (.tup (k.map kV)) ∧ kvs.length < sizeLine ∧ H' = upd H a (.dT (putK kvs k v))
theorem DGet.t {H : Hp} {a b : Addr} {kvs : List (List Key × V)} {k : List Key} (e : H a = some (.dT kvs)) (eb : H b = some (.tup (k.map kV))) : DGet H a (.ref b) (valV kvs k) := .inr ⟨kvs, k, b, .inl e, rfl, eb, rfl⟩
theorem DPut.t {H : Hp} {a b : Addr} {kvs : List (List Key × V)} {k : List Key} {v : V} (e : H a = some (.dT kvs)) (eb : H b = some (.tup (k.map kV))) (hl : kvs.length < sizeLine) :
  DPut H a (.ref b) v (upd H a (.dT (putK kvs k v))) := .inr ⟨kvs, k, b, e, rfl, eb, hl, rfl⟩
section
variable {X : Cx} {pins : List (Addr × Obj)} {σ : St} {H : Hp} {s : Shared} {a : Addr} {y v : V} {u r : Value} {o : Option V} {A : Around} {E : Value → Shared → Prop}
theorem Inv.big (I : Inv X pins σ H s) : sysModules < s.heap.objs.size := by
 have h : mainGlobals < s.heap.objs.size := (I.mod.glob.keeps I.bk).lt
 exact Nat.lt_trans (by decide) h
theorem d_in {Q : Value → Shared → Prop} (hu : A.units + 1 < cLine) (I : Inv X pins σ H s) (g : DGet H a y o) (ry : RelV y u) (h : ∀ s', Inv X pins σ H s' → Q (.bool o.isSome) s') :
  wpAny (model X.prog X.w) A (compareOp .In u (.ref a)) Q E s := by
 rcases g with ⟨kvs, k, e, ey, l⟩ | ⟨kvs, k, b, e, ey, eb, l⟩
 ·subst ey
  obtain ⟨z, hd, vs, rel, dd⟩ := Zdj I.hok e
  refine wpAny_in_of (Zca ry) hd dd.mapOf ?_
  rw [← (rel.val k).isSome_eq, ← l]
  exact h _ (I.tok _)
 ·subst ey
  cases (show u = Value.ref b from ry)
  obtain ⟨z, hd, xs, rel, dd⟩ := Zdi I.hok e
  refine wpAny_in_heap (tupleKind_room_in1 hu) (Zah I.hok eb) hd dd ?_
  have q := (rel.val k).isSome_eq
  rw [Option.isSome_map] at q
  rw [← q, ← l]
  exact h _ (I.tok _)
theorem ZaH {h' : Heap} {t' : Nat} {ob : HO} (I : Inv X pins σ H s) (mu : Mut (H a)) (hs : Heap.SameBut a s.heap h') (he : ∃ q, h'.get? a = some q) (new : ObjOk X.prog X.w (upd H a ob) h' a ob) :
  Inv X pins σ (upd H a ob) { s with heap := h', toks := t' } :=
 I.write (x := a) (e := a) mu (.inl rfl) (fun b q hb z => (hs.2 b hb).trans z) he new
theorem ZdJ {P : Program} {w : World} {H' : Hp} {h' : Heap} {kvs : List (Key × V)} {vs : List (Key × Value)} (z : kvs.length ≤ sizeLine) (hd : (a == sysModules) = false) (rel : KV kvs vs) (dd : h'.DictOf (mixKind P w) a vs) :
  ObjOk P w H' h' a (.dK kvs) := ⟨z, hd, vs, rel, dd⟩
theorem Zbk {H' : Hp} {Q : Unit → Shared → Prop} (hu : A.units + 1 < cLine) (I : Inv X pins σ H s) (g : DPut H a y v H') (ry : RelV y u) (rv : RelV v r) (h : ∀ s', Inv X pins σ H' s' → Q () s') :
  wpAny (model X.prog X.w) A (setItem (.ref a) u r) Q E s := by
 rcases g with ⟨kvs, k, e, ey, l, eH⟩ | ⟨kvs, k, b, e, ey, eb, l, eH⟩
 ·subst ey eH
  obtain ⟨z, hd, vs, rel, dd⟩ := ZdS I.hok e
  have hz : vs.length ≤ sizeLine := by rw [← rel.length]; exact z
  have hl : (putK kvs k v).length ≤ sizeLine := by have := JB kvs k v; omega
  refine wpAny_setItem_pairs (hsz := hz) (Zca ry) dd fun h' dd' hs => h _ ?_
  have he : ∃ q, h'.get? a = some q := let ⟨q, _, _, hq, _⟩ := dd'; ⟨q, hq⟩
  exact ZaH I (by rw [e]; exact True.intro) hs he (ZdJ hl hd (rel.put k rv) dd')
 ·subst ey eH
  cases (show u = Value.ref b from ry)
  obtain ⟨z, hd, xs, rel, dd⟩ := ZdR I.hok e
  have hz : xs.length ≤ sizeLine := by rw [← Paired.length rel]; exact z
  have hl : (putK kvs k v).length ≤ sizeLine := by have := JB kvs k v; omega
  refine wpAny_setItem_heap (hsz := hz) (tupleKind_room_in1 hu) (Zah I.hok eb) dd fun h' dd' hs => h _ ?_
  obtain ⟨q, es, ep, hq, h2, h3, h4, _, h5⟩ := dd'
  refine ZaH I (by rw [e]; exact True.intro) hs ⟨q, hq⟩ ⟨hl, hd, _, (rel.put k eb rv).keeps fun c ys ec => ?_, q, es, ep, hq, h2, h3, h4, h5⟩
  rw [Zf (Yl ec e (fun z => nomatch z))]
  exact ec
end
def tDIn (ty td : TE) : TE := fun σ H Q => ty σ H fun y H1 => td σ H1 fun x H2 => ∃ a o, x = .ref a ∧ DGet H2 a y o ∧ Q (.bl o.isSome) H2
def sDPut (td ty tv : TE) : TS := fun D σ H => tv σ H fun v H1 => td σ H1 fun x H2 => ty σ H2 fun y H3 => ∃ a H4, x = .ref a ∧ DPut H3 a y v H4 ∧ D.nx σ H4
section
variable {X : Cx} {o i e value : Expr} {pos pos' tpos : Pos} {td ty tv : TE}
theorem Zdt (hu : X.A.units + 1 < cLine) (hi : PE X i ty) (ho : PE X o td) : PC X .In i o (tDIn ty td) := by
 intro pins s σ H Q I h
 refine thn (hi pins s σ H _ I h) fun iv s1 ⟨y, H1, I1, ry, q1⟩ => thn (ho pins s1 σ H1 _ I1 q1) fun u s2 ⟨x, H2, I2, rx, a, ov, ex, g, q2⟩ => ?_
 subst ex
 obtain rfl : u = Value.ref a := rx
 exact d_in hu I2 g ry fun s3 I3 => ⟨.bl ov.isSome, H2, I3, rfl, q2⟩
theorem ZcB (hu : X.A.units + 1 < cLine) (ho : PE X o td) (hi : PE X i ty) (hv : PE X value tv) (hs : swapsWith value (some (.Subscript o i pos')) pos.line X.env = pure false) :
  PS X (.Assign [.Subscript o i pos'] value pos) (sDPut td ty tv) := by
 intro pins s σ H D I h
 refine wpAny_Assign_Subscript (thn (hv pins s σ H _ I h) fun r s1 ⟨v, H1, I1, rv, q1⟩ => thn (ho pins s1 σ H1 _ I1 q1) fun u s2 ⟨x, H2, I2, rx, q2⟩ => thn (hi pins s2 σ H2 _ I2 q2) fun iv s3 ⟨y, H3, I3, ry, a, H4, ex, g, q3⟩ => ?_) hs
 subst ex
 obtain rfl : u = Value.ref a := rx
 exact Zbk hu I3 g ry rv fun s4 I4 => ⟨σ, H4, I4, q3⟩
end
theorem Zcp {P : Program} {w : World} {H : Hp} (h : Heap) (hb : sysModules < h.objs.size) : ObjOk P w H (h.push { cls := .type "dict", data := .dict #[] }) h.objs.size (.dK []) :=
 ⟨Nat.zero_le _, beq_eq_false_iff_ne.mpr (Ne.symm (Nat.ne_of_lt hb)), [], .nil, Heap.DictOf.new h⟩
theorem Zco {P : Program} {w : World} {H : Hp} (h : Heap) (hb : sysModules < h.objs.size) : ObjOk P w H (h.push { cls := .type "dict", data := .dict #[] }) h.objs.size (.dT []) :=
 ⟨Nat.zero_le _, beq_eq_false_iff_ne.mpr (Ne.symm (Nat.ne_of_lt hb)), [], .nil, _, #[], 0, Heap.get?_push_size _ rfl, ⟨rfl, rfl, rfl⟩, rfl, rfl, List.nodup_nil⟩
def tDNewK : TE := fun _ H Q => ∀ p, H p = none → Q (.ref p) (upd H p (.dK []))
def tDNewT : TE := fun _ H Q => ∀ p, H p = none → Q (.ref p) (upd H p (.dT []))
section
variable {X : Cx} {pos : Pos}
theorem Uv : PE X (.Dict [] [] pos) tDNewK := fun pins s σ H Q I h =>
 wpAny_Dict_empty ⟨.ref s.heap.objs.size, _, I.laid (a := s.heap.objs.size) (o := .dK []) (t' := s.toks) (fun _ _ q => Heap.get?_push_of_some _ q) (Nat.le_refl _) (Zcp s.heap I.big), rfl, h _ (I.hok.fresh (Nat.le_refl _))⟩
theorem ZbH : PE X (.Dict [] [] pos) tDNewT := fun pins s σ H Q I h =>
 wpAny_Dict_empty ⟨.ref s.heap.objs.size, _, I.laid (a := s.heap.objs.size) (o := .dT []) (t' := s.toks) (fun _ _ q => Heap.get?_push_of_some _ q) (Nat.le_refl _) (Zco s.heap I.big), rfl, h _ (I.hok.fresh (Nat.le_refl _))⟩
end
structure M1 (X : Cx) (o : Expr) (m : Str) (apos : Pos) (e : Expr) (cpos : Pos) : Prop where
 base : attributeBase o m X.env (eval o X.env) = eval o X.env
 few : ((backTo cpos (starEach [e] X.env)).all (fun x => !x.1) && (backToKw cpos (keywordEach [] X.env)).all (fun x => x.1.isSome)
  && decide (([e] : List Expr).length + ([] : List Keyword).length + (if ([] : List Keyword).isEmpty then 0 else 1) < 30)) = true
 line : (apos.endLine == cpos.line) = true
 trees : backTo cpos (starEach [e] X.env) = [(false, eval e X.env)]
structure M2 (X : Cx) (o : Expr) (m : Str) (apos : Pos) (e f : Expr) (cpos : Pos) : Prop where
 base : attributeBase o m X.env (eval o X.env) = eval o X.env
 few : ((backTo cpos (starEach [e, f] X.env)).all (fun x => !x.1) && (backToKw cpos (keywordEach [] X.env)).all (fun x => x.1.isSome)
  && decide (([e, f] : List Expr).length + ([] : List Keyword).length + (if ([] : List Keyword).isEmpty then 0 else 1) < 30)) = true
 line : (apos.endLine == cpos.line) = true
 trees : backTo cpos (starEach [e, f] X.env) = [(false, eval e X.env), (false, eval f X.env)]
end L2
namespace L2
open PySem PySem.Spec PyProof.Rows
section
variable {κ : Type} [DecidableEq κ]
theorem Zbo {kvs : List (κ × V)} {k : κ} (h : valV kvs k = none) : ¬ k ∈ kvs.map (·.1) := by
 intro m
 obtain ⟨p, hp, e⟩ := List.mem_map.mp m
 have q : (kvs.any fun kv => decide (kv.1 = k)) = true := List.any_eq_true.mpr ⟨p, hp, decide_eq_true e⟩
 rw [YL, h] at q
 exact absurd q (by simp)
theorem Zcx {kvs : List (κ × V)} {k : κ} {v : V} (h : valV kvs k = some v) : k ∈ kvs.map (·.1) := by
 have q : (kvs.any fun kv => decide (kv.1 = k)) = true := by
  rw [YL, h]
  all_goals rfl
 obtain ⟨p, hp, e⟩ := List.any_eq_true.mp q
 exact List.mem_map.mpr ⟨p, hp, of_decide_eq_true e⟩
theorem Ua : ∀ {l : List κ} {k : κ}, l.Nodup → ¬ k ∈ l → (l ++ [k]).Nodup
 | [], k, _, _ => by simp
 | a :: r, k, h, hk => by
  obtain ⟨h1, h2⟩ := List.nodup_cons.mp h
  show (a :: (r ++ [k])).Nodup
  refine List.nodup_cons.mpr ⟨fun m => ?_, Ua h2 fun m => hk (List.mem_cons.mpr (Or.inr m))⟩
  rcases List.mem_append.mp m with q | q
  ·exact h1 q
  ·exact hk (List.mem_cons.mpr (Or.inl (List.mem_singleton.mp q).symm))
end
end L2
set_option Elab.async false
set_option linter.all false
set_option maxRecDepth 100000
namespace L2
open PySem PySem.Spec PyProof.Rows
def clOf (scope : Scope) (env : Env) : List (Str × Addr) := scope.names.foldl (fun cs y => if y.2 == .free then (y.1, (env.cells.lookup y.1).getD 0) :: cs else cs) []
theorem Yv {scope : Scope} {env : Env} (h : ∀ y ∈ scope.names, y.2 = .free → ∃ c, env.cells.lookup y.1 = some c) : closureFor scope env = pure (clOf scope env) := by
 unfold closureFor clOf
 have key : ∀ (l : List (Str × NameKind)) (cs : List (Str × Addr)), (∀ y ∈ l, y.2 = .free → ∃ c, env.cells.lookup y.1 = some c) →
   (forIn l cs (fun x r => match x with | (name, kind) => if (kind == NameKind.free) = true then do let c ← cellOf env name; pure (ForInStep.yield ((name, c) :: r)) else pure (ForInStep.yield r)) : Sem (List (Str × Addr)))
    = pure (l.foldl (fun cs y => if y.2 == .free then (y.1, (env.cells.lookup y.1).getD 0) :: cs else cs) cs) := by
  intro l
  induction l with
  | nil => intro cs _; rfl
  | cons y l ih =>
   intro cs hl
   obtain ⟨n, k⟩ := y
   rw [List.forIn_cons, List.foldl_cons]
   by_cases hk : k = .free
   ·subst hk
    obtain ⟨c, hc⟩ := hl (n, .free) List.mem_cons_self rfl
    have hc' : env.cells.lookup n = some c := hc
    have e1 : cellOf env n = pure c := by unfold cellOf; rw [hc']
    simp only [beq_self_eq_true, if_true, e1, hc', Option.getD_some, pure_bind]
    exact ih _ fun y hy => hl y (List.mem_cons_of_mem _ hy)
   ·have hb : (k == NameKind.free) = false := by simpa using hk
    simp only [hb, Bool.false_eq_true, if_false, pure_bind]
    exact ih _ fun y hy => hl y (List.mem_cons_of_mem _ hy)
 simp only [key scope.names [] h, pure_bind]
 all_goals rfl
theorem YC {scope : Scope} {env : Env} {x : Str} {c : Addr} (h : (clOf scope env).lookup x = some c) : c = (env.cells.lookup x).getD 0 ∧ (x, NameKind.free) ∈ scope.names := by
 unfold clOf at h
 have key : ∀ (l : List (Str × NameKind)) (cs : List (Str × Addr)), (l.foldl (fun cs y => if y.2 == .free then (y.1, (env.cells.lookup y.1).getD 0) :: cs else cs) cs).lookup x = some c →
   (c = (env.cells.lookup x).getD 0 ∧ (x, NameKind.free) ∈ l) ∨ cs.lookup x = some c := by
  intro l
  induction l with
  | nil => intro cs h; exact .inr h
  | cons y l ih =>
   intro cs h
   obtain ⟨n, k⟩ := y
   rw [List.foldl_cons] at h
   rcases ih _ h with ⟨h1, h2⟩ | h'
   ·exact .inl ⟨h1, List.mem_cons_of_mem _ h2⟩
   ·by_cases hk : k = .free
    ·subst hk
     simp only [beq_self_eq_true, if_true] at h'
     rw [List.lookup_cons] at h'
     cases hx : x == n with
     | true =>
      rw [hx] at h'
      have e : x = n := by simpa using hx
      subst e
      have e' : (env.cells.lookup x).getD 0 = c := Option.some.inj h'
      exact .inl ⟨e'.symm, List.mem_cons_self⟩
     | false => rw [hx] at h'; exact .inr h'
    ·have hb : (k == NameKind.free) = false := by simpa using hk
     simp only [hb, Bool.false_eq_true, if_false] at h'
     exact .inr h'
 rcases key _ _ h with h | h
 ·exact h
 ·simp at h
theorem Wp {scope : Scope} {env : Env} {x : Str} (h : (x, NameKind.free) ∈ scope.names) : ∃ c, (clOf scope env).lookup x = some c := by
 unfold clOf
 have key : ∀ (l : List (Str × NameKind)) (cs : List (Str × Addr)), ((x, NameKind.free) ∈ l ∨ ∃ c, cs.lookup x = some c) → ∃ c, (l.foldl (fun cs y => if y.2 == .free then (y.1, (env.cells.lookup y.1).getD 0) :: cs else cs) cs).lookup x = some c := by
  intro l
  induction l with
  | nil =>
   intro cs h
   rcases h with h | h
   ·simp at h
   ·exact h
  | cons y l ih =>
   intro cs h
   obtain ⟨n, k⟩ := y
   rw [List.foldl_cons]
   refine ih _ ?_
   by_cases hk : k = .free
   ·subst hk
    simp only [beq_self_eq_true, if_true]
    rw [List.lookup_cons]
    cases hx : x == n with
    | true => exact .inr ⟨_, rfl⟩
    | false =>
     rcases h with h | h
     ·rcases List.mem_cons.mp h with e | h
      ·have e1 : x = n := congrArg Prod.fst e
       simp [e1] at hx
      ·exact .inl h
     ·exact .inr h
   ·have hb : (k == NameKind.free) = false := by simpa using hk
    simp only [hb, Bool.false_eq_true, if_false]
    rcases h with h | h
    ·rcases List.mem_cons.mp h with e | h
     ·exact absurd (congrArg Prod.snd e).symm hk
     ·exact .inl h
    ·exact .inr h
 exact key _ _ (.inl h)
def rl (env : Env) (y : Str × NameKind) : Str × NameKind := if (y.2 == NameKind.free && env.scope.kind == .function && env.kindOf y.1 == some .cell) then (y.1, NameKind.cell) else y
theorem Zbu (env : Env) (y : Str × NameKind) : (rl env y).1 = y.1 := by unfold rl; split <;> rfl
theorem Zcz {env : Env} {y : Str × NameKind} (h : y.2 = .free) : (rl env y).2 = .cell ∨ (rl env y).2 = .free := by
 unfold rl; split
 ·exact .inl rfl
 ·exact .inr h
theorem Zdo {env : Env} {y : Str × NameKind} (h : y.2 ≠ .free) : rl env y = y := by
 have hb : (y.2 == NameKind.free) = false := by simpa using h
 unfold rl; rw [hb]; simp
theorem Y1 (scope : Scope) (env : Env) : (relabel scope env).names = scope.names.map (rl env) := rfl
theorem WZ {scope : Scope} {env : Env} {x : Str} (hc : ∀ y ∈ scope.names, y.2 ≠ .cell) (h : (relabel scope env).names.lookup x = some .cell ∨ (relabel scope env).names.lookup x = some .free) : (x, NameKind.free) ∈ scope.names := by
 rw [Y1] at h
 have key : ∀ (l : List (Str × NameKind)), (∀ y ∈ l, y.2 ≠ .cell) → (∃ k, (k = NameKind.cell ∨ k = .free) ∧ (l.map (rl env)).lookup x = some k) → (x, NameKind.free) ∈ l := by
  intro l
  induction l with
  | nil => rintro _ ⟨k, _, h⟩; simp at h
  | cons y l ih =>
   rintro hl ⟨k', hk', h⟩
   obtain ⟨n, k⟩ := y
   have e1 : (rl env (n, k)) = (n, (rl env (n, k)).2) := Prod.ext (Zbu env _) rfl
   rw [List.map_cons, e1, List.lookup_cons] at h
   cases hx : x == n with
   | true =>
    have e : x = n := by simpa using hx
    subst e
    by_cases hk : k = .free
    ·subst hk; exact List.mem_cons_self
    ·rw [hx] at h
     rw [Zdo (env := env) (y := (x, k)) hk] at h
     have e : k = k' := Option.some.inj h
     subst e
     rcases hk' with z | z
     ·exact absurd z (hl _ List.mem_cons_self)
     ·exact absurd z hk
   | false =>
    rw [hx] at h
    exact List.mem_cons_of_mem _ (ih (fun y hy => hl y (List.mem_cons_of_mem _ hy)) ⟨k', hk', h⟩)
 refine key _ hc ?_
 rcases h with h | h
 ·exact ⟨_, .inl rfl, h⟩
 ·exact ⟨_, .inr rfl, h⟩
theorem Y0 {scope : Scope} {env : Env} {x : Str} (h : scope.names.lookup x = some .free) : (relabel scope env).names.lookup x = some .cell ∨ (relabel scope env).names.lookup x = some .free := by
 rw [Y1]
 have key : ∀ (l : List (Str × NameKind)), l.lookup x = some .free → (l.map (rl env)).lookup x = some .cell ∨ (l.map (rl env)).lookup x = some .free := by
  intro l
  induction l with
  | nil => intro h; simp at h
  | cons y l ih =>
   intro h
   obtain ⟨n, k⟩ := y
   have e1 : (rl env (n, k)) = (n, (rl env (n, k)).2) := Prod.ext (Zbu env _) rfl
   rw [List.map_cons, e1, List.lookup_cons]
   rw [List.lookup_cons] at h
   cases hx : x == n with
   | true =>
    rw [hx] at h
    have e : k = .free := Option.some.inj h
    rcases Zcz (env := env) (y := (n, k)) e with z | z
    ·exact .inl (congrArg some z)
    ·exact .inr (congrArg some z)
   | false => rw [hx] at h; exact ih h
 exact key _ h
def blk (X : Cx) (N' : List Str) (scope : Scope) (C : Addr) (s2 : Shared) (H2 : Hp) (fp : List Addr) : Cx :=
 { X with N := N', s₀ := s2, H₀ := H2, env := compEnvC scope (clOf scope X.env) C X.env, outer := X.stack, stack := X.stack, ex := fp, fn := fun _ => false, pn := [], xe := fun _ _ => False }
def compOk (so si : Scope) (N N' : List Str) (ts : Nat) (cap : List Nat) : Bool :=
 decide (si.kind = .function) && si.names.all (fun y => y.2 != .cell) && si.names.all (fun y => y.2 != .local || si.names.lookup y.1 == some .local)
 && si.names.all (fun y => y.2 != .free || so.names.lookup y.1 == some .cell || so.names.lookup y.1 == some .free)
 && decide N'.Nodup && decide (N'.length = ts + cap.length)
 && (List.range cap.length).all (fun k => (N'[ts + k]? == (cap[k]?.bind fun j => N[j]?)) && (N'[ts + k]?.isSome) && (N'[ts + k]?.all fun x => so.names.lookup x != some .local && si.names.lookup x == some .free))
def capSt (ts : Nat) (cap : List Nat) (σ : St) : St := List.replicate ts none ++ cap.map fun j => (σ[j]?).join
structure CompS (X : Cx) (N' : List Str) (ts : Nat) (cap : List Nat) (scope : Scope) : Prop where
 kind : scope.kind = .function
 nocell : ∀ y ∈ scope.names, y.2 ≠ .cell
 names : ∀ y ∈ scope.names, y.2 = .local → scope.names.lookup y.1 = some .local
 free : ∀ y ∈ scope.names, y.2 = .free → X.env.kindOf y.1 = some .cell ∨ X.env.kindOf y.1 = some .free
 nd : N'.Nodup
 len : N'.length = ts + cap.length
 capd : ∀ k j, cap[k]? = some j → ∃ x, N'[ts + k]? = some x ∧ X.N[j]? = some x ∧ X.env.kindOf x ≠ some .local ∧ scope.names.lookup x = some .free
theorem Y8 {x : Str} {k : NameKind} : ∀ {l : List (Str × NameKind)}, l.lookup x = some k → (x, k) ∈ l
 | [], h => by simp at h
 | (n, j) :: l, h => by
  rw [List.lookup_cons] at h
  cases hx : x == n with
  | true =>
   rw [hx] at h
   have e : x = n := by simpa using hx
   have e' : j = k := Option.some.inj h
   subst e e'
   exact List.mem_cons_self
  | false => rw [hx] at h; exact List.mem_cons_of_mem _ (Y8 h)
theorem UR {X : Cx} {N' : List Str} {ts : Nat} {cap : List Nat} {scope : Scope} (h : compOk X.env.scope scope X.N N' ts cap = true) : CompS X N' ts cap scope := by
 unfold compOk at h
 simp only [Bool.and_eq_true] at h
 obtain ⟨⟨⟨⟨⟨⟨h1, h2⟩, h3⟩, h4⟩, h5⟩, h6⟩, h7⟩ := h
 refine ⟨of_decide_eq_true h1, fun y hy z => ?_, fun y hy z => ?_, fun y hy z => ?_, of_decide_eq_true h5, of_decide_eq_true h6, fun k j hk => ?_⟩
 ·have q := List.all_eq_true.mp h2 y hy
  rw [z] at q; exact absurd q (by decide)
 ·have q := List.all_eq_true.mp h3 y hy
  rw [z] at q
  simpa using q
 ·have q := List.all_eq_true.mp h4 y hy
  rw [z] at q
  simpa [Env.kindOf] using q
 ·have hlt : k < cap.length := (List.getElem?_eq_some_iff.mp hk).1
  have q := List.all_eq_true.mp h7 k (List.mem_range.mpr hlt)
  simp only [Bool.and_eq_true] at q
  obtain ⟨⟨q1, q2⟩, q3⟩ := q
  obtain ⟨x, hx⟩ := Option.isSome_iff_exists.mp q2
  rw [hx] at q1 q3
  rw [hk] at q1
  have e1 : some x = X.N[j]? := by simpa using q1
  have q3' : (X.env.scope.names.lookup x != some .local && scope.names.lookup x == some .free) = true := q3
  simp only [Bool.and_eq_true] at q3'
  refine ⟨x, hx, e1.symm, ?_, by simpa using q3'.2⟩
  have z := q3'.1
  intro e
  have e' : X.env.scope.names.lookup x = some .local := e
  rw [e'] at z
  exact absurd z (by decide)
section
variable {X : Cx} {pins : List (Addr × Obj)} {σ : St} {H : Hp} {s : Shared}
theorem Zc3 {N' : List Str} {ts : Nat} {cap : List Nat} {scope : Scope} {fp : List Addr} {h' : Heap} {t' : Nat} {m : Str → Option Value} {C : Addr} (S : CompS X N' ts cap scope) (I : Inv X pins σ H s) (hf : ∀ b ∈ fp, FpOk X pins H b)
  (ho : ∀ b ∈ fp, ∃ o, s.heap.get? b = some o) (hC : s.heap.objs.size ≤ C) (hn : h'.Ns C m) (k : ∀ b o, s.heap.get? b = some o → h'.get? b = some o) :
  Inv (blk X N' scope C s H fp) [] (capSt ts cap σ) H { s with heap := h', toks := t' } := by
 have sub : ∀ x c, (clOf scope X.env).lookup x = some c → X.env.cells.lookup x = some c := fun x c e => by
  obtain ⟨e1, e2⟩ := YC e
  obtain ⟨c', hc'⟩ := I.ok.has x (S.free _ e2 rfl)
  rw [hc'] at e1
  rw [hc', e1]; rfl
 have neC : ∀ b o, s.heap.get? b = some o → b ≠ C := fun b o e => Nat.ne_of_lt (Nat.lt_of_lt_of_le (Heap.lt_size e) hC)
 refine ⟨⟨I.ok.mod, ?_, I.ok.glob, I.ok.blt, hC, fun x y c e1 e2 => I.ok.inj x y c (sub x c e1) (sub y c e2), fun x hx => ?_, fun x c z _ => absurd z Bool.false_ne_true, I.ok.hd, I.ok.frames, .inl rfl, fun b hb => ?_, fun b o e => I.bs b o e, Nat.le_trans I.ok.bsz I.sz, fun b o e hb => ?_, fun b hb => ?_, I.stack, I.stkFree⟩,
  rfl, I.bare, Un.kept k, ⟨m, hn, fun i x v e1 e2 e3 => ?_⟩, fun x c e => ?_, I.hok.fresh hC, fun x c e => I.freeC x c (sub x c e), fun p hp => absurd (show p ∈ ([] : List (Addr × Obj)) from hp) (by simp), I.hok.kept k, ?_⟩
 ·show (relabel scope X.env).kind = .function
  exact S.kind
 ·exact Wp (WZ S.nocell hx)
 ·obtain ⟨o, e⟩ := ho b hb
  refine ⟨neC b o e, fun x c ec => ?_⟩
  exact (hf b hb).2.2.2.2.1 x c (sub x c ec)
 ·obtain ⟨e1, e2⟩ := I.bs b o e
  obtain ⟨f0, f1, f2, f3, f4, f5⟩ := hf b hb
  rcases f3 with z | z
  ·exact I.ok.noex b o e z
  ·exact absurd (Nat.lt_of_lt_of_le (Heap.lt_size (I.ok.bs b o e).1) z) (Nat.lt_irrefl _)
 ·intro z
  obtain ⟨f0, f1, f2, f3, f4, f5⟩ := hf b hb
  rcases List.mem_cons.mp (I.stkSub b z) with q | q
  ·exact f1 q
  ·exact f2 q
 ·-- the names' values
  have hlen : ¬ i < ts := fun hlt => by
   unfold capSt at e2
   rw [List.getElem?_append_left (by simpa using hlt), List.getElem?_replicate] at e2
   split at e2 <;> cases e2
  have e2' : (cap.map fun j => (σ[j]?).join)[i - ts]? = some (some v) := by
   unfold capSt at e2
   rw [List.getElem?_append_right (by simpa using hlen), List.length_replicate] at e2
   exact e2
  rw [List.getElem?_map] at e2'
  cases hc : cap[i - ts]? with
  | none => rw [hc] at e2'; cases e2'
  | some j =>
   rw [hc] at e2'
   have e3' : (σ[j]?).join = some v := Option.some.inj e2'
   have e4 : σ[j]? = some (some v) := by
    cases q : σ[j]? with
    | none => rw [q] at e3'; cases e3'
    | some o => rw [q] at e3'; exact congrArg some e3'
   obtain ⟨x', n1, n2, n3, n4⟩ := S.capd _ _ hc
   have ei : ts + (i - ts) = i := by omega
   rw [ei] at n1
   have ex : x = x' := by
    have e1' : N'[i]? = some x := e1
    rw [n1] at e1'; exact (Option.some.inj e1').symm
   subst ex
   obtain ⟨mX, hnX, hl⟩ := I.loc
   have vis : Vis X.env.scope x := by
    rcases S.free _ (Y8 n4) rfl with z | z
    ·exact .inr (.inl z)
    ·exact .inr (.inr z)
   obtain ⟨u, ru, lk⟩ := hl j x v n2 e4 vis
   refine ⟨u, ru, ?_⟩
   rcases lk with ⟨z, _⟩ | ⟨z, c, ec, hcell⟩
   ·exact absurd z n3
   ·obtain ⟨c', hc'⟩ := Wp (env := X.env) (Y8 n4)
    have := sub x c' hc'
    rw [ec] at this
    cases this
    refine .inr ⟨?_, c, hc', hcell.keeps k⟩
    exact Y0 n4
 ·obtain ⟨v, z⟩ := I.cell x c (sub x c e)
  exact ⟨v, z.keeps k⟩
 ·show (capSt ts cap σ).length = N'.length
  unfold capSt
  rw [List.length_append, List.length_replicate, List.length_map, S.len]
end
def AccAt (h : Heap) (D : Addr) (ys : List V) : Prop := ys.length ≤ sizeLine ∧ ∃ (its : List Value) (n : Nat), Vals ys its ∧ h.get? D = some { cls := .type "list", data := .seq its.toArray n }
theorem AccAt.keep {h h' : Heap} {D : Addr} {ys : List V} (a : AccAt h D ys) (k : ∀ o, h.get? D = some o → h'.get? D = some o) : AccAt h' D ys := by
 obtain ⟨z, its, n, r, e⟩ := a
 exact ⟨z, its, n, r, k _ e⟩
abbrev TC := List V → St → Hp → (List V → St → Hp → Prop) → Prop
def PIn (Y : Cx) (D : Addr) (m : Sem PySem.Fin → Sem PySem.Fin) (t : TC) : Prop :=
 ∀ (pins : List (Addr × Obj)) (s : Shared) (σ : St) (H : Hp) (ys : List V) (Q : List V → St → Hp → Prop) (k : Sem PySem.Fin) (R : PySem.Fin → Shared → Prop), Inv Y pins σ H s → FpOk Y pins H D → AccAt s.heap D ys → t ys σ H Q →
  (∀ s' ys' σ' H', Inv Y pins σ' H' s' → FpOk Y pins H' D → AccAt s'.heap D ys' → Q ys' σ' H' → wpAny (model Y.prog Y.w) Y.A k R (fun _ _ => False) s') → wpAny (model Y.prog Y.w) Y.A (m k) R (fun _ _ => False) s
def testsOf (ifs : List Expr) (env : Env) : Sem Bool := forIn ifs true fun c r => if r = true then do let ok ← isTrue c env (eval c env); pure (ForInStep.yield ok) else pure (ForInStep.yield r)
def PTs (Y : Cx) (ifs : List Expr) (t : TT) : Prop :=
 ∀ (pins : List (Addr × Obj)) (s : Shared) (σ : St) (H : Hp) (Q : Bool → Hp → Prop), Inv Y pins σ H s → t σ H Q → wpAny (model Y.prog Y.w) Y.A (testsOf ifs Y.env) (TP Y pins σ Q) Y.xe s
def tTrue : TT := fun _ H Q => Q true H
section
variable {Y : Cx} {D : Addr}
theorem Yp : PTs Y [] tTrue := fun pins s σ H Q I h => wpAny_tests_nil ⟨H, I, h⟩
theorem Yo {c : Expr} {t : TT} (hc : PT Y c t) : PTs Y [c] t := fun pins s σ H Q I h => wpAny_tests_one (hc pins s σ H Q I h)
def tEmit (te : TE) : TC := fun ys σ H Q => te σ H fun v H1 => ys.length < sizeLine ∧ Q (ys ++ [v]) σ H1
theorem AccAt.nocell {h : Heap} {ys : List V} (a : AccAt h D ys) : ∀ b ∈ [D], ∃ o, h.get? b = some o ∧ ∀ v, o.data ≠ .cell v := fun b hb => by
 have e : b = D := by simpa using hb
 subst e
 obtain ⟨z, its, n, r, e⟩ := a
 exact ⟨_, e, fun v z => by
  have z' : Data.seq its.toArray n = Data.cell v := z
  cases z'⟩
theorem AccAt.through {h : Heap} {pins : List (Addr × Obj)} {σ' : St} {H' : Hp} {s' : Shared} {ys : List V} (a : AccAt h D ys) (I : Inv Y (pins ++ pinsAt [D] h) σ' H' s') : AccAt s'.heap D ys ∧ H' D = none := by
 obtain ⟨z, its, n, r, e⟩ := a
 have q := I.pin (D, _) (List.mem_append_right _ (List.mem_append_right _ (ZQ (List.mem_singleton.mpr rfl) e)))
 exact ⟨⟨z, its, n, r, q.1⟩, q.2.1⟩
theorem ZJ {elt : Expr} {te : TE} (hx : Y.xe = fun _ _ => False) (he : PE Y elt te) :
    PIn Y D (fun k => (do let _ ← call (.builtin "list.append") [.ref D, ← eval elt Y.env]) >>= fun _ => k) (tEmit te) := by
  intro pins s σ H ys Q k R I f a h hk
  refine wpAny_bind (wpAny_mono (Q := fun _ s' => ∃ ys' σ' H', Inv Y pins σ' H' s' ∧ FpOk Y pins H' D ∧ AccAt s'.heap D ys' ∧ Q ys' σ' H') ?_ (fun _ s' ⟨ys', σ', H', q1, q2, q3, q4⟩ => hk s' ys' σ' H' q1 q2 q3 q4) fun _ _ z => z)
  have I' := I.pinned (fp := [D]) (fun b hb => by have e : b = D := by simpa using hb
                                                  subst e; exact f) a.nocell
  refine wpAny_bind (wpAny_mono (he _ s σ H _ I' h) (fun u s1 ⟨v, H1, I1, ru, hz, q⟩ => ?_) fun e s1 z => by rw [hx] at z; exact z)
  obtain ⟨a1, n1⟩ := a.through I1
  have f1 : FpOk Y pins H1 D := ⟨n1, f.2⟩
  obtain ⟨z, its, n, r, e⟩ := a1
  have hl := r.length
  refine wpAny_bind (call_meets F.slot_list_append ⟨_, e, rfl⟩ F.entry_list_append (F.args_list_append_2 _ _) (PySem.list_append D its.toArray n u (by rw [List.size_toArray]; omega)) ⟨e, wpAny_pure ?_⟩)
  have q2 := PySem.IsL.update e (·.push u)
  obtain ⟨f0, g1, g2, g3, g4, g5⟩ := f1
  have I2 : Inv Y pins σ H1 { s1 with heap := s1.heap.update D (Obj.mapSeq (·.push u)) } := I1.unpinned.turned (t' := s1.toks) (it := D) (fun b o hb eb => (Heap.get?_update_other s1.heap _ (Ne.symm hb)).trans eb) f0 g1 g3 g4 g5
  refine ⟨ys ++ [v], σ, H1, I2, ⟨f0, g1, g2, g3, g4, g5⟩, ⟨by rw [List.length_append, List.length_singleton]; omega, its ++ [u], (if ((its.toArray.push u).size == its.toArray.size) = true then n else n + 1), r.append (.cons ru .nil), ?_⟩, q⟩
  have e3 : its.toArray.push u = (its ++ [u]).toArray := by simp
  rw [← e3]
  exact q2
def inner (elt : Expr) (gens : List Comprehension) (scope : Scope) (pos : Pos) (d : Nat) (acc : Value) (env : Env) (k : Sem PySem.Fin) : Sem PySem.Fin :=
 match gens[d + 1]? with
 | some g' => eval g'.iter env >>= fun x => standAt g'.iter.pos >>= fun _ => foldedSetIterable g'.iter env x >>= fun x => holding [x] (pyIter x) >>= fun itv =>
   runOwn (.compStart (.ListComp elt gens scope pos) (d + 1) itv acc env) env >>= fun _ => k
 | none => (do let _ ← call (.builtin "list.append") [acc, ← eval elt env]) >>= fun _ => k
set_option maxHeartbeats 400000 in
theorem UQ (elt tg iter : Expr) (ifs : List Expr) (gens : List Comprehension) (scope : Scope) (pos : Pos) (d : Nat) (it acc : Value) (env : Env) (hg : gens[d]? = some ⟨tg, iter, ifs, 0⟩) (h2 : ∀ g', gens[d + 1]? = some g' → g'.is_async = 0) :
  compTurn (.ListComp elt gens scope pos) d it acc env = (standAt iter.pos >>= fun _ => pyNext it >>= fun r => match r with
   | none => pure (.done .next)
   | some v => letOwnedTupleGo tg it v >>= fun _ => assign tg env v >>= fun _ => testsOf ifs env >>= fun ok =>
    if ok = true then inner elt gens scope pos d acc env (again (.compLoop (.ListComp elt gens scope pos) d it acc env)) else again (.compLoop (.ListComp elt gens scope pos) d it acc env)) := by
 unfold compTurn inner
 dsimp only
 rw [hg]
 generalize hn : gens[d + 1]? = o
 cases o with
 | none => rfl
 | some g' =>
  have e := h2 g' hn
  obtain ⟨t', i', f', a'⟩ := g'
  have e' : a' = 0 := e
  subst e'
  rfl
def tNestW (g : TG) (tt : TT) (ti : TC) (J : It) : TC := fun ys σ H Q => ∃ W : Nat → Nat → List V → St → Hp → Prop, (∃ m, W 0 m ys σ H) ∧ ∀ i m ys σ H, W i m ys σ H →
 (J.stop i H ∧ Q ys σ H) ∨ (J.go i H ∧ ∃ N : List V → St → Hp → Prop, (∀ ys' σ' H', N ys' σ' H' → ∃ m', m' < m ∧ W (i + 1) m' ys' σ' H') ∧
  ∀ x H', J.yld i H x H' → g x σ H' fun σ2 H2 => tt σ2 H2 fun b H3 => if b = true then ti ys σ2 H3 N else N ys σ2 H3)
theorem WQ {elt tg iter : Expr} {ifs : List Expr} {gens : List Comprehension} {scope : Scope} {pos : Pos} {d : Nat} {it : Addr} {fp : List Addr} {tn : Nat → Heap → Prop} {J : It} {g : TG} {tt : TT} {ti : TC} {pins : List (Addr × Obj)} {s : Shared} {σ : St} {H : Hp} {ys : List V} {Q : List V → St → Hp → Prop}
    (hx : Y.xe = fun _ _ => False) (hc : Y.calm = true) (hg : gens[d]? = some ⟨tg, iter, ifs, 0⟩) (T : Turn Y.prog Y.w Y.K tg J fp it tn) (hf : ∀ b ∈ fp, FpOk Y pins H b) (st : tn 0 s.heap) (hD : D ∉ fp)
    (h2 : ∀ g', gens[d + 1]? = some g' → g'.is_async = 0) (pg : PG Y tg g) (pt : PTs Y ifs tt) (pi : PIn Y D (inner elt gens scope pos d (.ref D) Y.env) ti)
    (I : Inv Y pins σ H s) (f : FpOk Y pins H D) (a : AccAt s.heap D ys) (h : tNestW g tt ti J ys σ H Q) :
    codeAny (model Y.prog Y.w) Y.A (.compLoop (.ListComp elt gens scope pos) d (.ref it) (.ref D) Y.env) (fun r s' => match r with
      | .ok _ => ∃ ys' σ' H', Inv Y pins σ' H' s' ∧ FpOk Y pins H' D ∧ AccAt s'.heap D ys' ∧ Q ys' σ' H'
      | .error _ => False) s := by
  obtain ⟨W, ⟨m0, w0⟩, turn⟩ := h
  have stat : ∀ {H' : Hp}, (∀ b ∈ fp, H' b = none) → ∀ b ∈ fp, FpOk Y pins H' b := fun hn b hb => ⟨hn b hb, (hf b hb).2⟩
  refine codeAny_loop rfl (fun n s' => ∃ i ys' σ' H', Inv Y pins σ' H' s' ∧ FpOk Y pins H' D ∧ AccAt s'.heap D ys' ∧ tn i s'.heap ∧ (∀ b ∈ fp, H' b = none) ∧ W i n ys' σ' H') (fun n s3 hI => ?_) m0 ⟨0, ys, σ, H, I, f, a, st, fun b hb => (hf b hb).1, w0⟩
  obtain ⟨i, ys3, σ3, H3, I3, f3, a3, st3, fr3, w3⟩ := hI
  show wpAny _ Y.A ((compTurn (.ListComp elt gens scope pos) d (.ref it) (.ref D) Y.env).onRaise (fun x => do noteFrame x Y.env; theTreesLotGoes x)) _ _ s3
  refine wpAny_noted (wpAny_mono (E := fun _ _ => False) ?_ (fun _ _ q => q) fun _ _ z => z.elim)
  rw [UQ elt tg iter ifs gens scope pos d (.ref it) (.ref D) Y.env hg h2]
  refine wpAny_bind (wpAny_standAt (wpAny_bind ?_))
  have aD : ∀ {h h' : Heap}, (∀ b o, b ∉ fp → h.get? b = some o → h'.get? b = some o) → ∀ {zs}, AccAt h D zs → AccAt h' D zs := fun k _ q => q.keep fun o e => k D o hD e
  have I3' := I3.pinned (fp := [D]) (fun b hb => by have e : b = D := by simpa using hb
                                                    subst e; exact f3) a3.nocell
  have stat' : ∀ b ∈ fp, FpOk Y (pins ++ pinsAt [D] s3.heap) H3 b := fun b hb => by
    obtain ⟨g0, g1, g2, g3, g4, g5⟩ := stat fr3 b hb
    refine ⟨g0, g1, g2, g3, g4, fun p hp => ?_⟩
    rcases List.mem_append.mp hp with z | z
    · exact g5 p (List.mem_append_left _ z)
    · rcases List.mem_append.mp z with z | z
      · exact g5 p (List.mem_append_right _ z)
      · intro q
        have e : p.1 = D := by simpa using (Jt z).1
        exact hD (by rw [← e, q]; exact hb)
  rcases turn i n ys3 σ3 H3 w3 with ⟨stop, qn⟩ | ⟨go, N, hN, step⟩
  · refine wpAny_mono (T.done Y rfl rfl rfl hc i _ s3 σ3 H3 (fun _ _ => False) I3' stat' st3 stop) (fun r s4 ⟨hr, I4⟩ => ?_) fun _ _ z => z
    subst hr
    obtain ⟨a4, n4⟩ := a3.through I4
    exact wpAny_pure ⟨ys3, σ3, H3, I4.unpinned, f3, a4, qn⟩
  · refine wpAny_mono (T.item Y rfl rfl rfl hc i _ s3 σ3 H3 (fun _ _ => False) I3' stat' st3 go) (fun r s4 ⟨u, hr, h4⟩ => ?_) fun _ _ z => z
    subst hr
    refine wpAny_bind (wpAny_mono h4 (fun _ s5 ⟨x, H5, I5, r5, y5, st5, fr5⟩ => ?_) fun _ _ z => z)
    obtain ⟨a5, n5⟩ := a3.through I5
    have f5 : FpOk Y pins H5 D := ⟨n5, f3.2⟩
    have ho5 : ∀ b ∈ D :: fp, ∃ o, s5.heap.get? b = some o ∧ ∀ v, o.data ≠ .cell v := fun b hb => by
      rcases List.mem_cons.mp hb with e | hb
      · exact a5.nocell b (by simp [e])
      · exact T.obj _ _ st5 b hb
    have I5' := I5.unpinned.pinned (fp := D :: fp) (fun b hb => by
      rcases List.mem_cons.mp hb with e | hb
      · rw [e]; exact f5
      · exact stat fr5 b hb) ho5
    refine wpAny_bind (wpAny_mono (pg _ s5 σ3 H5 x u _ I5' r5 (step x H5 y5)) (fun _ s6 ⟨σ6, H6, I6, q6⟩ => ?_) fun _ _ z => by rw [hx] at z; exact z)
    refine wpAny_bind (wpAny_mono (pt _ s6 σ6 H6 _ I6 q6) (fun b s7 ⟨H7, I7, q7⟩ => ?_) fun _ _ z => by rw [hx] at z; exact z)
    have pinD : ∀ {σ7 : St} {H7 : Hp} {s7 : Shared}, Inv Y (pins ++ pinsAt (D :: fp) s5.heap) σ7 H7 s7 → AccAt s7.heap D ys3 ∧ H7 D = none := fun {σ7 H7 s7} J => by
      obtain ⟨z, its, n, r, e⟩ := id a5
      have q := J.pin (D, _) (List.mem_append_right _ (List.mem_append_right _ (ZQ List.mem_cons_self e)))
      exact ⟨⟨z, its, n, r, q.1⟩, q.2.1⟩
    have pinF : ∀ {σ7 : St} {H7 : Hp} {s7 : Shared}, Inv Y (pins ++ pinsAt (D :: fp) s5.heap) σ7 H7 s7 → tn (i + 1) s7.heap ∧ ∀ b ∈ fp, H7 b = none := fun {σ7 H7 s7} J => by
      refine ⟨T.keep _ _ _ st5 fun b hb o e => (J.pin (b, o) (List.mem_append_right _ (List.mem_append_right _ (ZQ (List.mem_cons_of_mem _ hb) e)))).1, fun b hb => ?_⟩
      obtain ⟨o, e, dd⟩ := T.obj _ _ st5 b hb
      exact (J.pin (b, o) (List.mem_append_right _ (List.mem_append_right _ (ZQ (List.mem_cons_of_mem _ hb) e)))).2.1
    cases b with
    | false =>
      simp only [Bool.false_eq_true, if_false] at q7 ⊢
      obtain ⟨m', hm, w7⟩ := hN _ _ _ q7
      obtain ⟨a7, n7⟩ := pinD I7
      obtain ⟨t7, r7⟩ := pinF I7
      exact wpAny_pure ⟨rfl, m', hm, i + 1, ys3, σ6, H7, I7.unpinned, ⟨n7, f3.2⟩, a7, t7, r7, w7⟩
    | true =>
      simp only [if_true] at q7 ⊢
      obtain ⟨a7, n7⟩ := pinD I7
      obtain ⟨t7, r7⟩ := pinF I7
      have I7' := I7.unpinned.pinned (fp := fp) (stat r7) (T.obj _ _ t7)
      have f7 : FpOk Y (pins ++ pinsAt fp s7.heap) H7 D := by
        obtain ⟨g0, g1, g2, g3, g4, g5⟩ := f3
        refine ⟨n7, g1, g2, g3, g4, fun p hp => ?_⟩
        rcases List.mem_append.mp hp with z | z
        · exact g5 p (List.mem_append_left _ z)
        · rcases List.mem_append.mp z with z | z
          · exact g5 p (List.mem_append_right _ z)
          · intro q
            exact hD (by rw [← q]; exact (Jt z).1)
      refine pi _ s7 σ6 H7 ys3 N _ _ I7' f7 a7 q7 fun s8 ys8 σ8 H8 I8 f8 a8 q8 => ?_
      obtain ⟨m', hm, w8⟩ := hN _ _ _ q8
      refine wpAny_pure ⟨rfl, m', hm, i + 1, ys8, σ8, H8, I8.unpinned, ⟨f8.1, f3.2⟩, a8, T.keep _ _ _ t7 fun b hb o e => (I8.pin (b, o) (List.mem_append_right _ (List.mem_append_right _ (ZQ hb e)))).1, fun b hb => ?_, w8⟩
      obtain ⟨o, e, dd⟩ := T.obj _ _ t7 b hb
      exact (I8.pin (b, o) (List.mem_append_right _ (List.mem_append_right _ (ZQ hb e)))).2.1
theorem Wn {elt tg iter : Expr} {ifs : List Expr} {gens : List Comprehension} {scope : Scope} {pos : Pos} {d : Nat} {it : Addr} {R : Result → Shared → Prop} {s : Shared} {A : Around} {prog : Program} {w : World} {env : Env} {acc : Value} {fp : List Addr} {tn : Nat → Heap → Prop} {J : It} {K : PySem.W.Frag}
  (hg : gens[d]? = some ⟨tg, iter, ifs, 0⟩) (T : Turn prog w K tg J fp it tn) {i : Nat} (st : tn i s.heap) (h : codeAny (model prog w) A (.compLoop (.ListComp elt gens scope pos) d (.ref it) acc env) R s) :
  codeAny (model prog w) A (.compStart (.ListComp elt gens scope pos) d (.ref it) acc env) R s := by
 refine codeAny_of_tree ?_
 show wpAny _ _ ((compStart (.ListComp elt gens scope pos) d (.ref it) acc env).onRaise (fun x => do noteFrame x env; standAt theWindowsPlace)) _ _ s
 refine wpAny_notedAt ?_
 have hg' : (clausesOf (.ListComp elt gens scope pos))[d]? = some ⟨tg, iter, ifs, 0⟩ := hg
 unfold compStart
 rw [hg']
 show wpAny _ _ (ask >>= _) _ _ s
 refine wpAny_bind (wpAny_askSetting (wpAny_ite ?_))
 split
 ·first
   | exact wpAny_bind (wpAny_pure (wpAny_pure (And.intro rfl h)))
   | exact wpAny_pure (And.intro rfl h)
 ·refine wpAny_bind (wpAny_rule ?_)
  show wpAny _ _ (standAt iter.pos >>= _) _ _ s
  exact wpAny_bind (wpAny_standAt (wpAny_bind (T.self A i s _ _ st (wpAny_pure (And.intro rfl h)))))
def tNest (wi : TI) (g : TG) (tt : TT) (ti : TC) : TC := fun ys σ H Q => wi σ H fun J H1 => tNestW g tt ti J ys σ H1 Q
theorem ZbC {elt tg iter : Expr} {ifs : List Expr} {gens : List Comprehension} {scope : Scope} {pos : Pos} {d : Nat} {wi : TI} {g : TG} {tt : TT} {ti : TC}
    (hx : Y.xe = fun _ _ => False) (hc : Y.calm = true) (hg : gens[d + 1]? = some ⟨tg, iter, ifs, 0⟩) (hi : PI Y tg iter wi) (pg : PG Y tg g) (pt : PTs Y ifs tt) (pi : PIn Y D (inner elt gens scope pos (d + 1) (.ref D) Y.env) ti)
    (hs : ∀ x, foldedSetIterable iter Y.env x = pure x) (h2 : ∀ g', gens[d + 1 + 1]? = some g' → g'.is_async = 0) : PIn Y D (inner elt gens scope pos d (.ref D) Y.env) (tNest wi g tt ti) := by
  intro pins s σ H ys Q k R I f a h hk
  unfold inner
  rw [hg]
  have I' := I.pinned (fp := [D]) (fun b hb => by have e : b = D := by simpa using hb
                                                  subst e; exact f) a.nocell
  refine wpAny_bind (wpAny_mono (hi _ s σ H _ I' h) (fun v s1 h1 => ?_) fun _ _ z => by rw [hx] at z; exact z)
  refine wpAny_bind (wpAny_standAt (wpAny_bind (wpAny_of_eq (hs v) (wpAny_bind (wpAny_holding (wpAny_mono h1 (fun itv s2 h2 => ?_) fun _ _ z => by rw [hx] at z; exact z))))))
  obtain ⟨it, fp, tn, J, H2, e, I2, T, st2, f2, q2⟩ := h2
  subst e
  obtain ⟨a2, n2⟩ := a.through I2
  have fD : FpOk Y pins H2 D := ⟨n2, f.2⟩
  have hD : D ∉ fp := fun z => by
    obtain ⟨z1, its, n, r, e⟩ := a
    exact (f2 D z).2.2.2.2.2 (D, _) (List.mem_append_right _ (List.mem_append_right _ (ZQ (List.mem_singleton.mpr rfl) e))) rfl
  have f2' : ∀ b ∈ fp, FpOk Y pins H2 b := fun b hb => by
    obtain ⟨g0, g1, g2, g3, g4, g5⟩ := f2 b hb
    exact ⟨g0, g1, g2, g3, g4, fun p hp => g5 p (by
      rcases List.mem_append.mp hp with z | z
      · exact List.mem_append_left _ z
      · exact List.mem_append_right _ (List.mem_append_left _ z))⟩
  refine wpAny_bind (wpAny_runOwn (codeAny_mono (Wn hg T st2 (WQ (Q := Q) hx hc hg T f2' st2 hD h2 pg pt pi I2.unpinned fD a2 q2)) fun r s' hr => ?_))
  cases r with
  | ok fl =>
    obtain ⟨ys', σ', H', q1, q2, q3, q4⟩ := hr
    exact hk s' ys' σ' H' q1 q2 q3 q4
  | error e => exact hr.elim
end
section
variable {X : Cx} {pins : List (Addr × Obj)} {σ : St} {H H' : Hp} {s s' : Shared}
theorem UU {N' : List Str} {scope : Scope} {C D : Addr} {fp : List Addr} {σ' : St} {ys : List V} {pl : List (Addr × Obj)} {h' : Heap} (I : Inv X pins σ H s) (hf : ∀ b ∈ fp, FpOk X pins H b) (hC : s.heap.objs.size ≤ C) (hD : s.heap.objs.size ≤ D) (hDC : D ≠ C)
  (J : Inv (blk X N' scope C s H fp) pl σ' H' s') (n : H' D = none) (a : AccAt s'.heap D ys) (sb : Heap.SameBut C s'.heap h') : Inv X pins σ (upd H' D (.lst ys)) { s' with heap := h' } := by
 have neC : ∀ b o, s.heap.get? b = some o → b ≠ C := fun b o e => Nat.ne_of_lt (Nat.lt_of_lt_of_le (Heap.lt_size e) hC)
 have neD : ∀ b o, s.heap.get? b = some o → b ≠ D := fun b o e => Nat.ne_of_lt (Nat.lt_of_lt_of_le (Heap.lt_size e) hD)
 have neD' : ∀ b o, H b = some o → b ≠ D := fun b o e => Nat.ne_of_lt (Nat.lt_of_lt_of_le (I.hok.lt e) hD)
 have fC : H' C = none := J.free
 have u : Un (frs X.stack) fp H H' s.heap s'.heap := J.base
 refine I.call' (s' := { s' with heap := h' }) (ch := fp) J.os ⟨fun b o e nb hb hx => (sb.2 b (neC b o e)).trans (u.keep b o e nb hb hx), fun b o e nb hb hx => ?_, fun b o e nb hx => by rw [Zf (neD b o e)]; exact u.free b o e nb hx, fun b o e hx => ?_,
  fun b xs e => by rw [Zf (neD' b _ e)]; exact u.tups b xs e, fun b o xs e => by rw [Zf (neD' b _ e)]; exact u.frzs b o xs e, fun b ps e => by rw [Zf (neD' b _ e)]; exact u.tbls b ps e⟩ (fun b v e => ?_) J.bare fun b hb => ?_
 ·obtain ⟨sl, q⟩ := u.slot b o e nb hb hx
  exact ⟨sl, (sb.2 b (neC b o e)).trans q⟩
 ·obtain ⟨o', q⟩ := u.there b o e hx
  exact ⟨o', (sb.2 b (neC b o e)).trans q⟩
 ·by_cases hb : b = D
  ·subst hb
   rw [Zb] at e
   cases e
   obtain ⟨z, its, k, r, q⟩ := a
   exact ⟨z, its, k, r, (sb.2 b hDC).trans q⟩
  ·rw [Zf hb] at e
   refine (J.hok b v e).stay (fun c w hc q => (sb.2 c ?_).trans q) (fun c q => by rw [Zf (Zd q n)]; exact q) fun c xs q => by rw [Zf (Zd q n)]; exact q
   rcases hc with z | z
   ·rw [z]; exact Zd e fC
   ·exact Zd z fC
 ·obtain ⟨f0, f1, f2, f3, f4, f5⟩ := hf b hb
  exact ⟨f3, f1, f4, f5⟩
theorem Wo {elt tg iter : Expr} {ifs : List Expr} {rest : List Comprehension} {scope : Scope} {pos : Pos} {N' : List Str} {ts : Nat} {cap : List Nat} {it : Addr} {fp : List Addr} {tn : Nat → Heap → Prop} {J : It} {g : TG} {tt : TT} {ti : TC} {Q : List V → Hp → Prop} {E : Value → Shared → Prop} {RR : Value → Addr → Result → Shared → Prop}
  (S : CompS X N' ts cap scope) (hc : X.calm = true) (I : Inv X pins σ H s) (T : Turn X.prog X.w X.K tg J fp it tn) (st : tn 0 s.heap) (hf : ∀ b ∈ fp, FpOk X pins H b)
  (h2 : ∀ g', (Comprehension.mk tg iter ifs 0 :: rest)[0 + 1]? = some g' → g'.is_async = 0)
  (pg : ∀ C, PG (blk X N' scope C s H fp) tg g) (pt : ∀ C, PTs (blk X N' scope C s H fp) ifs tt)
  (pi : ∀ C D, PIn (blk X N' scope C s H fp) D (inner elt (⟨tg, iter, ifs, 0⟩ :: rest) scope pos 0 (.ref D) (blk X N' scope C s H fp).env) ti)
  (h : tNestW g tt ti J [] (capSt ts cap σ) H fun ys _ H2 => Q ys H2)
  (hRR : ∀ C D s' σ' H' ys fl, s.heap.objs.size ≤ C → s.heap.objs.size ≤ D → D ≠ C → Inv (blk X N' scope C s H fp) [] σ' H' s' → H' D = none → AccAt s'.heap D ys → Q ys H' → RR (.ref D) C (.ok fl) s') :
  wpAny (model X.prog X.w) X.A (newList []) (fun acc s₃ => wpAny (model X.prog X.w) X.A (newFunctionEnv scope X.env.globals (clOf scope X.env) [] X.env.qual none .none (some X.env)) (fun cenv s₄ =>
   codeAny (model X.prog X.w) X.A (.compStart (.ListComp elt (⟨tg, iter, ifs, 0⟩ :: rest) scope pos) 0 (.ref it) acc { cenv with scope := relabel scope X.env }) (RR acc cenv.locals) s₄) E s₃) E s := by
 refine wpAny_newObj_type (wpAny_newFunctionEnv S.nocell (by intro y hy; simp at hy) (fun h₁ hns₁ hsb₁ => ?_) S.kind)
 dsimp only at hns₁ hsb₁ ⊢
 generalize hH2 : s.heap.push { cls := .type "list", dict := none, data := .seq ([] : List Value).toArray } = h0 at hns₁ hsb₁ ⊢
 have hC : h0.objs.size = s.heap.objs.size + 1 := by rw [← hH2, Heap.size_push]
 have hDC : s.heap.objs.size ≠ h0.objs.size := by rw [hC]; exact Nat.ne_of_lt (Nat.lt_succ_self _)
 have hCle : s.heap.objs.size ≤ h0.objs.size := by rw [hC]; exact Nat.le_succ _
 have neC : ∀ b o, s.heap.get? b = some o → b ≠ h0.objs.size := fun b o e => Nat.ne_of_lt (Nat.lt_of_lt_of_le (Heap.lt_size e) hCle)
 have old : ∀ b o, s.heap.get? b = some o → h₁.get? b = some o := fun b o e => hsb₁.extBut b o (neC b o e) (Heap.get?_push_of_some _ (hH2 ▸ Heap.get?_push_of_some _ e))
 have hacc : h₁.get? s.heap.objs.size = some { cls := .type "list", data := .seq ([] : List Value).toArray 0 } := hsb₁.extBut _ _ hDC (Heap.get?_push_of_some _ (hH2 ▸ Heap.get?_push_size _ rfl))
 have ho : ∀ b ∈ fp, ∃ o, s.heap.get? b = some o := fun b hb => let ⟨o, e, _⟩ := T.obj _ _ st b hb; ⟨o, e⟩
 have I1 : Inv (blk X N' scope h0.objs.size s H fp) [] (capSt ts cap σ) H { s with heap := h₁, toks := s.toks + ([] : List (Str × Value)).length } := Zc3 S I hf ho hCle hns₁ old
 have fresh := I.hok.fresh (a := s.heap.objs.size) (Nat.le_refl _)
 have fpY : ∀ b ∈ fp, FpOk (blk X N' scope h0.objs.size s H fp) [] H b := fun b hb => by
  obtain ⟨f0, f1, f2, f3, f4, f5⟩ := hf b hb
  refine ⟨f0, (I1.ok.exf b hb).1, I1.ok.exfs b hb, .inl hb, (I1.ok.exf b hb).2, fun p hp => absurd (show p ∈ ([] : List (Addr × Obj)) from hp) (by simp)⟩
 have fD : FpOk (blk X N' scope h0.objs.size s H fp) [] H s.heap.objs.size := by
  refine ⟨fresh, hDC, fun z => ?_, .inr (Nat.le_refl _), fun x c e z => ?_, fun p hp => absurd (show p ∈ ([] : List (Addr × Obj)) from hp) (by simp)⟩
  ·obtain ⟨_, o, ho', _⟩ := I.stack.mem z
   exact absurd (Heap.lt_size ho') (Nat.lt_irrefl _)
  ·obtain ⟨e1, e2⟩ := YC e
   obtain ⟨c', hc'⟩ := I.ok.has x (S.free _ e2 rfl)
   obtain ⟨v, q⟩ := I.cell x c' hc'
   rw [hc'] at e1
   have e3 : c = c' := e1
   have l := q.lt
   rw [← e3, z] at l
   exact absurd l (Nat.lt_irrefl _)
 have aD : AccAt h₁ s.heap.objs.size [] := ⟨Nat.zero_le _, [], 0, .nil, hacc⟩
 have hDf : s.heap.objs.size ∉ fp := fun z => by obtain ⟨o, e⟩ := ho _ z; exact absurd (Heap.lt_size e) (Nat.lt_irrefl _)
 have st1 : tn 0 h₁ := T.keep _ _ _ st fun b _ o e => old b o e
 have run := Wn (elt := elt) (gens := ⟨tg, iter, ifs, 0⟩ :: rest) (scope := scope) (pos := pos) (d := 0) rfl T st1
  (WQ (Y := blk X N' scope h0.objs.size s H fp) (D := s.heap.objs.size) (Q := fun ys _ H2 => Q ys H2) (elt := elt) (gens := ⟨tg, iter, ifs, 0⟩ :: rest) (scope := scope) (pos := pos) (d := 0) rfl hc rfl T fpY st1 hDf h2 (pg _) (pt _) (pi _ _) I1 fD aD h)
 refine codeAny_mono run fun r s' hr => ?_
 cases r with
 | error e => exact hr.elim
 | ok fl =>
  obtain ⟨ys', σ', H', q1, q2, q3, q4⟩ := hr
  exact hRR _ _ s' σ' H' ys' fl hCle (Nat.le_refl _) hDC q1 q2.1 q3 q4
end
def tComp (wi : TI) (ts : Nat) (cap : List Nat) (g : TG) (tt : TT) (ti : TC) : TE := fun σ H Q => wi σ H fun J H1 => tNestW g tt ti J [] (capSt ts cap σ) H1 fun ys _ H2 => ∀ p, H2 p = none → Q (.ref p) (upd H2 p (.lst ys))
section
variable {X : Cx} {elt tg iter : Expr} {ifs : List Expr} {rest : List Comprehension} {scope : Scope} {pos : Pos} {wi : TI} {g : TG} {tt : TT} {ti : TC}
theorem Yb (N' : List Str) (ts : Nat) (cap : List Nat) (hi : PI X tg iter wi) (pg : ∀ C s H fp, PG (blk X N' scope C s H fp) tg g) (pt : ∀ C s H fp, PTs (blk X N' scope C s H fp) ifs tt)
  (pi : ∀ C s H fp D, PIn (blk X N' scope C s H fp) D (inner elt (⟨tg, iter, ifs, 0⟩ :: rest) scope pos 0 (.ref D) (blk X N' scope C s H fp).env) ti)
  (ok : compOk X.env.scope scope X.N N' ts cap = true := by rfl) (hc : X.calm = true := by rfl) (h2 : ∀ g', (Comprehension.mk tg iter ifs 0 :: rest)[0 + 1]? = some g' → g'.is_async = 0 := by (intro g' h; cases h <;> rfl))
  (hs : ∀ x, foldedSetIterable iter X.env x = pure x := by intro _; rfl) :
  PE X (.ListComp elt (⟨tg, iter, ifs, 0⟩ :: rest) scope pos) (tComp wi ts cap g tt ti) := by
 intro pins s σ H Q I h
 have S := UR ok
 rw [eval_ListComp]
 refine wpAny_comprehension_free (use := none) rfl hs (Yv fun y hy e => I.ok.has _ (S.free y hy e)) S.kind S.names (thn (hi pins s σ H _ I h) fun v s1 h1 => thn h1 fun itv s2 h2' => ?_)
 obtain ⟨it, fp, tn, J, H2, e, I2, T, st2, f2, q2⟩ := h2'
 subst e
 refine Wo (RR := fun acc C => compPost (model X.prog X.w) X.A X.xe none _ acc C) S hc I2 T st2 f2 h2 (fun C => pg C _ _ _) (fun C => pt C _ _ _) (fun C D => pi C _ _ _ D) q2 ?_
 intro C D s' σ' H' ys fl hC hD hDC J' n a q
 obtain ⟨m, hn, _⟩ := J'.loc
 exact ⟨m, hn, fun h' sb => ⟨.ref D, _, UU I2 f2 hC hD hDC J' n a sb, rfl, q D n⟩⟩
theorem YV (N' : List Str) (ts : Nat) (cap : List Nat) {i : Nat} {x : Str} {px spos : Pos} (hN : X.N.Nodup) (hix : X.N[i]? = some x) (hx : Loc X.env.scope x) (hi : PI X tg iter wi) (pg : ∀ C s H fp, PG (blk X N' scope C s H fp) tg g) (pt : ∀ C s H fp, PTs (blk X N' scope C s H fp) ifs tt)
  (pi : ∀ C s H fp D, PIn (blk X N' scope C s H fp) D (inner elt (⟨tg, iter, ifs, 0⟩ :: rest) scope pos 0 (.ref D) (blk X N' scope C s H fp).env) ti)
  (hsw : swapsWith (.ListComp elt (⟨tg, iter, ifs, 0⟩ :: rest) scope pos) (some (.Name x px)) spos.line X.env = pure true := by rfl)
  (ok : compOk X.env.scope scope X.N N' ts cap = true := by rfl) (hc : X.calm = true := by rfl) (h2 : ∀ g', (Comprehension.mk tg iter ifs 0 :: rest)[0 + 1]? = some g' → g'.is_async = 0 := by (intro g' h; cases h <;> rfl))
  (hs : ∀ x, foldedSetIterable iter X.env x = pure x := by intro _; rfl) (hfn : X.fn x = true ∨ X.env.scope.names.lookup x = some .local := by first | exact .inl rfl | exact .inr rfl | assumption) :
  PS X (.Assign [.Name x px] (.ListComp elt (⟨tg, iter, ifs, 0⟩ :: rest) scope pos) spos) (tAsg (tComp wi ts cap g tt ti) (gName i)) := by
 intro pins s σ H D I h
 have S := UR ok
 rw [exec_Assign_Name_used _ _ _ _ hsw]
 refine wpAny_bind (wpAny_standAt (wpAny_bind ?_))
 show wpAny _ X.A (do let _ ← comprehension (.ListComp elt (⟨tg, iter, ifs, 0⟩ :: rest) scope pos) scope X.env _ (newList []) false (eval iter X.env) (some (assign (.Name x px) X.env))) _ _ s
 refine wpAny_bind (wpAny_mono (wpAny_comprehension_free (use := some (assign (.Name x px) X.env)) (Q := fun _ s' => ∃ σ' H', Inv X pins σ' H' s' ∧ D.nx σ' H') rfl hs (Yv fun y hy e => I.ok.has _ (S.free y hy e)) S.kind S.names
  (thn (hi pins s σ H _ I h) fun v s1 h1 => thn h1 fun itv s2 h2' => ?_)) (fun _ s' hq => wpAny_pure (wpAny_pure hq)) fun _ _ e => e)
 obtain ⟨it, fp, tn, J, H2, e, I2, T, st2, f2, q2⟩ := h2'
 subst e
 refine Wo (RR := fun acc C => compPost (model X.prog X.w) X.A X.xe (some (assign (.Name x px) X.env)) _ acc C) S hc I2 T st2 f2 h2 (fun C => pg C _ _ _) (fun C => pt C _ _ _) (fun C D => pi C _ _ _ D) q2 ?_
 intro C B s' σ' H' ys fl hC hB hBC J' n a q
 obtain ⟨m, hn, _⟩ := J'.loc
 have IX : Inv X pins σ (upd H' B (.lst ys)) s' := UU I2 f2 hC hB hBC J' n a (Heap.SameBut.refl C s'.heap)
 have fC := I2.fpOk (H' := upd H' B (.lst ys)) (b := C) hC (by rw [Zf (Ne.symm hBC)]; exact J'.free)
 obtain ⟨f0, f1, f2', f3, f4, f5⟩ := fC
 show wpAny _ X.A (assign (.Name x px) X.env (.ref B)) _ _ s'
 refine wpAny_assign_Name (WG (v := .ref B) (u := .ref B) IX hN hix hx rfl (fun s'' I'' ⟨c, sb, hcc⟩ => ?_) hfn)
 have hCc : C ≠ c := by
  rcases hcc with z | z
  ·rw [z]; exact f1
  ·exact (f4 x c z).symm
 refine ⟨m, Heap.Ns.sameBut hn sb hCc, fun h' sb' => ?_⟩
 refine ⟨σ.set i (some (.ref B)), _, I''.turned (t' := s''.toks) (it := C) (fun b o hb e => (sb'.2 b hb).trans e) f0 f1 f3 f4 f5, q B n⟩
end
end L2
set_option Elab.async false
set_option linter.all false
set_option maxRecDepth 100000
namespace L2
open PySem PySem.Spec PyProof.Rows
section
variable {X : Cx}
theorem Zy {c : String} : CallR X (.builtin "isinstance") (fun xs H Q => ∃ x t b, xs = [x, .ty c] ∧ TyOf X.K H x t ∧ PySem.W.kitOne X.K t (.type c) = some b ∧ Q (.bl b) H) := by
 intro pins s σ H xs us Q I r h
 obtain ⟨x, t, b, rfl, ty, e, q⟩ := h
 obtain ⟨u, v, rfl, ru, rv⟩ := vals2 r
 cases rv
 exact Zbg I ru ty e fun tk => ⟨.bl b, H, I.tok tk, rfl, q⟩
theorem Jo (hc : X.calm = true := by rfl) : CallR X (.builtin "all") (fun xs H Q => ∃ (p : Addr) (bs : List Bool), xs = [.ref p] ∧ SqL X.K H p (bs.map V.bl) ∧ Q (.bl (bs.all id)) H) := by
 intro pins s σ H xs us Q I r h
 obtain ⟨p, bs, rfl, hp, q⟩ := h
 obtain ⟨u, rfl, ru⟩ := vals1 r
 cases ru
 obtain ⟨its, rv, pl, hz⟩ := I.list hp
 have hb : ∀ (i : Nat) (v : Value), its.toArray[i]? = some v → v = .bool (bs.getD i false) := fun i v e => by
  have e' : its[i]? = some v := by simpa using e
  have hl := rv.length
  have hi : i < its.length := (List.getElem?_eq_some_iff.mp e').1
  have hi' : i < (bs.map V.bl).length := by omega
  obtain ⟨u, hu, ru⟩ := rv.get (i := i) (x := (bs.map V.bl)[i]) (by simp)
  rw [e'] at hu
  cases hu
  rw [List.getElem_map] at ru
  have hi2 : i < bs.length := by simpa using hi'
  have e2 : bs.getD i false = bs[i] := by simp [List.getD_eq_getElem?_getD, hi2]
  rw [e2]
  exact ru
 refine call_all_walk (wpAny_pyIter_list pl.isList ?_)
 have hne : p ≠ s.heap.objs.size := Nat.ne_of_lt (by obtain ⟨o, n, e, _⟩ := pl; exact Heap.lt_size e)
 refine ⟨s.heap.objs.size, _, _, _, _, _, fun i => bs.getD i false, rfl, Walks.list (A := X.A.in1) (show X.A.in1.handled = none from I.ok.hd hc) s.heap.objs.size p hne its.toArray, ⟨⟨_, Heap.get?_push_size _ rfl, rfl, rfl⟩, pl.isList.at fun o e => Heap.get?_push_of_some _ e⟩, fun i v s' Q' E' hP hQ => ?_, fun h' tk hk => ?_⟩
 ·rw [hb i v hP]
  exact wpAny_truthy_bool hQ
 ·have e : (List.range its.toArray.size).all (fun i => bs.getD i false) = bs.all id := by
   have hl : its.toArray.size = bs.length := by have := rv.length; rw [List.length_map] at this; simpa using this.symm
   rw [hl, Bool.eq_iff_iff, List.all_eq_true, List.all_eq_true]
   constructor
   ·intro h b hb
    obtain ⟨i, hi, e⟩ := List.mem_iff_getElem.mp hb
    have := h i (List.mem_range.mpr hi)
    rw [List.getD_eq_getElem?_getD, List.getElem?_eq_getElem hi, Option.getD_some, e] at this
    exact this
   ·intro h i hi
    have hi' := List.mem_range.mp hi
    rw [List.getD_eq_getElem?_getD, List.getElem?_eq_getElem hi', Option.getD_some]
    exact h _ (List.getElem_mem hi')
  rw [e]
  refine ⟨.bl (bs.all id), H, I.kept fun b o eb => hk b o ?_ (Heap.get?_push_of_some _ eb), rfl, q⟩
  intro z
  have e1 : b = s.heap.objs.size := by simpa using z
  exact absurd (Heap.lt_size eb) (by rw [e1]; exact Nat.lt_irrefl _)
def setN (ns : List Int) : Nat := (PyProof.Rows.firstMet (fun i => ns.getD i 0) ns.length).length
theorem WA (hc : X.calm = true := by rfl) : CallR X (.type "set") (fun xs H Q => ∃ (p : Addr) (ns : List Int), xs = [.ref p] ∧ SqL X.K H p (ns.map V.int) ∧ ns.length ≤ 1000 ∧ ∀ q S, H q = none → Q (.ref q) (upd H q (.set S (setN ns)))) := by
 intro pins s σ H xs us Q I r h
 obtain ⟨p, ns, rfl, hp, hn, q⟩ := h
 obtain ⟨u, rfl, ru⟩ := vals1 r
 cases ru
 obtain ⟨its, rv, pl, hz⟩ := I.list hp
 have hl := rv.length
 rw [List.length_map] at hl
 refine call_set_list (I.ok.hd hc) pl.isList (Yn rv) (by rw [List.size_toArray, ← hl]; unfold scanBound; omega) fun h' tk hs hk => ?_
 have e : its.toArray.size = ns.length := by simp [hl]
 rw [e] at hs
 exact ⟨.ref s.heap.objs.size, _, I.laid (a := s.heap.objs.size) (o := .set _ (setN ns)) (fun b o eb => hk b o (Heap.lt_size eb) eb) (Nat.le_refl _) hs, rfl, q _ _ I.fresh⟩
theorem WC : CallR X (.builtin "len") (fun xs H Q => ∃ p S n, xs = [.ref p] ∧ H p = some (.set S n) ∧ Q (.int n) H) := by
 intro pins s σ H xs us Q I r h
 obtain ⟨p, S, n, rfl, hp, q⟩ := h
 obtain ⟨u, rfl, ru⟩ := vals1 r
 cases ru
 obtain ⟨o, es, ep, t, h1, h2, h3, h4, h5, h6, h7, h8⟩ := (show ObjOk X.prog X.w H s.heap p (.set S n) from I.hok p _ hp)
 refine call_len_set h1 h2 h3 h7 (by have : scanBound = 4096 := rfl; omega) ⟨.int n, H, I.tok _, ⟨_, by rw [h8]⟩, q⟩
theorem UT : CallR X (.type "range") (fun xs H Q => ∃ j : Int, xs = [.int j] ∧ ∀ q, H q = none → Q (.ref q) (upd H q (.rng 0 j))) := by
 intro pins s σ H xs us Q I r h
 obtain ⟨j, rfl, q⟩ := h
 obtain ⟨u, rfl, ru⟩ := vals1 r
 obtain ⟨t, rfl⟩ := ru
 refine call_range_1 ?_
 exact ⟨.ref s.heap.objs.size, _, I.laid (a := s.heap.objs.size) (o := .rng 0 j) (fun b o eb => Heap.get?_push_of_some _ eb) (Nat.le_refl _) ⟨_, _, _, Heap.get?_push_size _ rfl⟩, rfl, q _ I.fresh⟩
def upTo (n : Nat) : List V := (List.range n).map fun (i : Nat) => V.int (i : Int)
theorem Ue {acc : Array Value} {n : Nat} (h : ItemsOf (fun i v => ∃ t, v = .int (0 + i * 1) t) acc n) : Vals (upTo n) acc.toList := by
 obtain ⟨h1, h2⟩ := h
 obtain ⟨l⟩ := acc
 have h1 : l.length = n := h1
 have h2 : ∀ (j : Nat) (v : Value), l[j]? = some v → ∃ t, v = .int (j : Int) t := fun j v e => by
  obtain ⟨t, q⟩ := h2 j v (by simpa using e)
  exact ⟨t, by rw [q]; congr 1; omega⟩
 have key : ∀ (l : List Value) (k : Nat), (∀ (j : Nat) (v : Value), l[j]? = some v → ∃ t, v = .int ((k + j : Nat) : Int) t) → Vals ((List.range' k l.length).map fun (i : Nat) => V.int (i : Int)) l := by
  intro l
  induction l with
  | nil => intro k _; exact .nil
  | cons v l ih =>
   intro k h
   rw [List.length_cons, List.range'_succ, List.map_cons]
   obtain ⟨t, e⟩ := h 0 v rfl
   refine .cons ⟨t, by rw [e]; simp⟩ (ih (k + 1) fun j w q => ?_)
   obtain ⟨t', e'⟩ := h (j + 1) w (by simpa using q)
   exact ⟨t', by rw [e']; congr 1; omega⟩
 have := key l 0 (fun j v e => by simpa using h2 j v e)
 unfold upTo
 rw [← h1, List.range_eq_range']
 exact this
theorem WB (hc : X.calm = true := by rfl) : CallR X (.type "list") (fun xs H Q => ∃ (p : Addr) (j : Int), xs = [.ref p] ∧ H p = some (.rng 0 j) ∧ 0 ≤ j ∧ j ≤ 1000 ∧ ∀ q, H q = none → Q (.ref q) (upd H q (.lst (upTo j.toNat)))) := by
 intro pins s σ H xs us Q I r h
 obtain ⟨p, j, rfl, hp, h0, h1, q⟩ := h
 obtain ⟨u, rfl, ru⟩ := vals1 r
 cases ru
 obtain ⟨t, u, v, e⟩ := (show ObjOk X.prog X.w H s.heap p (.rng 0 j) from I.hok p _ hp)
 refine call_list_range (n := j.toNat) (I.ok.hd hc) e (small_one (by omega) (by omega) (by omega) (by omega)) (by rw [rangeSize_one]; split <;> omega) (by omega) fun h' tk acc c' hk hS hacc => ?_
 have r2 := Ue hacc
 have hlen : (upTo j.toNat).length ≤ sizeLine := by unfold upTo; rw [List.length_map, List.length_range, sizeLine_eq]; omega
 exact ⟨.ref s.heap.objs.size, _, I.laid (a := s.heap.objs.size) (o := .lst (upTo j.toNat)) hk (Nat.le_refl _) ⟨hlen, acc.toList, c', r2, by simpa using hS⟩, rfl, q _ I.fresh⟩
theorem ZbN : OpR X (binaryOp .Add) (fun x y H Q => ∃ a b ys, x = .ref a ∧ y = .ref b ∧ SqT X.K H a [] ∧ SqT X.K H b ys ∧ Q (.ref b) H) := by
 intro pins s σ H x y u v Q I rx ry h
 obtain ⟨a, b, ys, rfl, rfl, ha, hb, q⟩ := h
 cases rx
 cases ry
 obtain ⟨its, rv, pl, hz⟩ := I.tuple ha
 obtain ⟨its2, rv2, pl2, hz2⟩ := I.tuple hb
 cases rv
 obtain ⟨⟨cls, dd, data, sl⟩, ho, hcl, n, hd⟩ := id pl
 obtain ⟨⟨cls2, dd2, data2, sl2⟩, ho2, hc2, n2, hd2⟩ := id pl2
 simp only at hcl hd hc2 hd2
 subst hcl hd hc2 hd2
 exact concat_meets ⟨_, ho, rfl⟩ ⟨_, ho2, rfl⟩ noFill_tuple_add seq_tuple_add PySem.F.slot_tuple_add PySem.F.entry_tuple_add (PySem.F.args_tuple_add_2 _ _)
   (tuple_addW0 a b #[] its2.toArray n n2 dd dd2 sl sl2 rfl) ⟨ho, ho2, ⟨.ref b, H, I, rfl, q⟩⟩
end
end L2
set_option Elab.async false
set_option linter.all false
set_option maxRecDepth 100000
namespace L2
open PySem PySem.Spec PyProof.Rows
theorem We {K : PySem.W.Frag} {a : Addr} {xs : List V} {g : TG} {tt : TT} {ti : TC} {ys : List V} {σ : St} {H : Hp} {Q : List V → St → Hp → Prop} (Pv : Nat → List V → St → Hp → Prop) (h0 : Pv 0 ys σ H)
  (hl : ∀ i ys σ H, i ≤ xs.length → Pv i ys σ H → SqT K H a xs)
  (hs : ∀ i x ys σ H, xs[i]? = some x → Pv i ys σ H → g x σ H fun σ2 H2 => tt σ2 H2 fun b H3 => if b = true then ti ys σ2 H3 (Pv (i + 1)) else Pv (i + 1) ys σ2 H3)
  (hd : ∀ ys σ H, Pv xs.length ys σ H → Q ys σ H) : tNestW g tt ti (Itt K a) ys σ H Q := by
 refine ⟨fun i m ys σ H => m = xs.length - i ∧ i ≤ xs.length ∧ Pv i ys σ H, ⟨xs.length, by simp, Nat.zero_le _, h0⟩, ?_⟩
 rintro i m ys σ H ⟨rfl, hi, p⟩
 have q := hl i ys σ H hi p
 by_cases hlt : i < xs.length
 ·refine .inr ⟨⟨xs, xs[i], q, by simp [hlt]⟩, Pv (i + 1), fun ys' σ' H' p' => ⟨xs.length - (i + 1), by omega, rfl, hlt, p'⟩, fun x H' y => ?_⟩
  obtain ⟨e, y⟩ := y
  subst e
  exact hs i x ys σ _ (y xs q) p
 ·have e : i = xs.length := by omega
  subst e
  exact .inl ⟨⟨xs, q, Nat.le_refl _⟩, hd ys σ H p⟩
theorem Yf {K : PySem.W.Frag} {a : Addr} {xs : List V} {g : TG} {tt : TT} {ti : TC} {ys : List V} {σ : St} {H : Hp} {Q : List V → St → Hp → Prop} (Pv : Nat → List V → St → Hp → Prop) (h0 : Pv 0 ys σ H)
  (hl : ∀ i ys σ H, i ≤ xs.length → Pv i ys σ H → SqL K H a xs)
  (hs : ∀ i x ys σ H, xs[i]? = some x → Pv i ys σ H → g x σ H fun σ2 H2 => tt σ2 H2 fun b H3 => if b = true then ti ys σ2 H3 (Pv (i + 1)) else Pv (i + 1) ys σ2 H3)
  (hd : ∀ ys σ H, Pv xs.length ys σ H → Q ys σ H) : tNestW g tt ti (Itl K a) ys σ H Q := by
 refine ⟨fun i m ys σ H => m = xs.length - i ∧ i ≤ xs.length ∧ Pv i ys σ H, ⟨xs.length, by simp, Nat.zero_le _, h0⟩, ?_⟩
 rintro i m ys σ H ⟨rfl, hi, p⟩
 have q := hl i ys σ H hi p
 by_cases hlt : i < xs.length
 ·refine .inr ⟨⟨xs, xs[i], q, by simp [hlt]⟩, Pv (i + 1), fun ys' σ' H' p' => ⟨xs.length - (i + 1), by omega, rfl, hlt, p'⟩, fun x H' y => ?_⟩
  obtain ⟨e, y⟩ := y
  subst e
  exact hs i x ys σ _ (y xs q) p
 ·have e : i = xs.length := by omega
  subst e
  exact .inl ⟨⟨xs, q, Nat.le_refl _⟩, hd ys σ H p⟩
theorem Wf {lo : Int} {n : Nat} {g : TG} {tt : TT} {ti : TC} {ys : List V} {σ : St} {H : Hp} {Q : List V → St → Hp → Prop} (Pv : Nat → List V → St → Hp → Prop) (h0 : Pv 0 ys σ H)
  (hs : ∀ i ys σ H, i < n → Pv i ys σ H → g (.int (lo + i)) σ H fun σ2 H2 => tt σ2 H2 fun b H3 => if b = true then ti ys σ2 H3 (Pv (i + 1)) else Pv (i + 1) ys σ2 H3)
  (hd : ∀ ys σ H, Pv n ys σ H → Q ys σ H) : tNestW g tt ti (Itr lo n) ys σ H Q := by
 refine ⟨fun i m ys σ H => m = n - i ∧ i ≤ n ∧ Pv i ys σ H, ⟨n, by simp, Nat.zero_le _, h0⟩, ?_⟩
 rintro i m ys σ H ⟨rfl, hi, p⟩
 by_cases hlt : i < n
 ·refine .inr ⟨hlt, Pv (i + 1), fun ys' σ' H' p' => ⟨n - (i + 1), by omega, rfl, hlt, p'⟩, fun x H' y => ?_⟩
  obtain ⟨e, y⟩ := y
  subst e y
  exact hs i ys σ _ hlt p
 ·have e : i = n := by omega
  subst e
  exact .inl ⟨Nat.le_refl _, hd ys σ H p⟩
theorem pb {X : Cx} {N' : List Str} {scope : Scope} {C : Addr} {s : Shared} {H : Hp} {fp : List Addr} (i : Nat) {x : Str} {pos : Pos} (hN : N'.Nodup := by decide +kernel) (hi : N'[i]? = some x := by rfl) (hx : (relabel scope X.env).names.lookup x = some .local := by rfl) :
  PG (blk X N' scope C s H fp) (.Name x pos) (gName i) := Zz (X := blk X N' scope C s H fp) hN hi (.inl hx) (.inr hx)
def Def (P : Program) (w : World) (K : PySem.W.Frag) (mg : Str → Option Value) (base : Heap) (k : Nat) (x : Str) (ps : List Str) (sp : Sp) : Prop :=
 ∃ f fd, FnOk P w K mg base CX0 k f fd ps sp ∧ mg x = some (.ref f) ∧ PySem.W.keepIn K (.ref f) = true ∧ Binds K fd ps []
section
variable {X : Cx} {k : Nat} {x : Str} {ps : List Str} {sp : Sp} {e : Expr} {es : List Expr} {t : TA} {p pos : Pos}
theorem Zk (d : Def X.prog X.w X.K X.mg X.base k x ps sp) (hr : Room k X.A) (ha : PA X (e :: es) t) (hg : Gl X x := by rfl) (hdb : (x == ("__debug__" : Str)) = false := by decide)
  (he : starEach (e :: es) X.env = (false, eval e X.env) :: starEach es X.env := by rfl) (hpl : (backTo pos (starEach es X.env)).any (·.1) = false := by rfl) :
  PE X (.Call (.Name x p) (e :: es) [] pos) (tCall sp [] E0 t) := by
 obtain ⟨f, fd, F, hm, hk, hb⟩ := d
 exact Zaw F hr hg hm hk hb .nil pass0 ha hdb he hpl
end
def PlT (K : PySem.W.Frag) (H : Hp) (x : V) : Prop := ∃ T, TyOf K H x (.type T)
def whole : V → Bool
 | .int _ => true
 | _ => false
def wholeIn : V → Int → Int → Bool
 | .int i, a, b => decide (a ≤ i) && decide (i ≤ b)
 | _, _, _ => false
def tupH : Option HO → Option (List V)
 | some (.tup xs) => some xs
 | _ => none
def tupOf (H : Hp) : V → Option (List V)
 | .ref a => tupH (H a)
 | _ => none
theorem Zw {H : Hp} {a : Addr} : tupOf H (.ref a) = tupH (H a) := rfl
theorem Zu {H : Hp} {a : Addr} {xs : List V} (h : H a = some (.tup xs)) : tupOf H (.ref a) = some xs := by rw [Zw, h]; rfl
theorem ZaR {o : Option HO} {xs : List V} (h : tupH o = some xs) : o = some (.tup xs) := by
 cases o with
 | none => cases h
 | some o => cases o <;> first | (cases h; rfl) | cases h
theorem ZF {H : Hp} {x : V} {xs : List V} (h : tupOf H x = some xs) : ∃ a, x = .ref a ∧ H a = some (.tup xs) := by
 cases x with
 | ref a => exact ⟨a, rfl, ZaR h⟩
 | _ => cases h
theorem Same.tupOf {H H' : Hp} (s : Same H H') {x : V} {xs : List V} (h : L2.tupOf H x = some xs) : L2.tupOf H' x = some xs := by
 obtain ⟨a, rfl, q⟩ := ZF h
 exact Zu (s _ _ q)
theorem Same.plT {K : PySem.W.Frag} {H H' : Hp} (s : Same H H') {x : V} (h : PlT K H x) : PlT K H' x := by
 obtain ⟨T, t⟩ := h
 cases t with
 | non => exact ⟨_, .non⟩
 | bl y => exact ⟨_, .bl y⟩
 | int i => exact ⟨_, .int i⟩
 | str y => exact ⟨_, .str y⟩
 | flt y => exact ⟨_, .flt y⟩
 | lst e => exact ⟨_, .lst (s _ _ e)⟩
 | frz e => exact ⟨_, .frz (s _ _ e)⟩
 | tup e => exact ⟨_, .tup (s _ _ e)⟩
 | dK e => exact ⟨_, .dK (s _ _ e)⟩
 | dT e => exact ⟨_, .dT (s _ _ e)⟩
def isIntV : V → Bool
 | .int _ => true
 | .bl _ => true
 | _ => false
def isBlV : V → Bool
 | .bl _ => true
 | _ => false
theorem Zc2 {K : PySem.W.Frag} {H : Hp} {x : V} {T : String} (t : TyOf K H x (.type T)) : PySem.W.kitOne K (.type T) (.type "int") = some (isIntV x) := by cases t <;> rfl
theorem Zb8 {K : PySem.W.Frag} {H : Hp} {x : V} {T : String} (t : TyOf K H x (.type T)) : PySem.W.kitOne K (.type T) (.type "bool") = some (isBlV x) := by cases t <;> rfl
theorem Zbd {K : PySem.W.Frag} {H : Hp} {x : V} {T : String} (t : TyOf K H x (.type T)) : PySem.W.kitOne K (.type T) (.type "tuple") = some (tupOf H x).isSome := by
 cases t with
 | tup e => rw [Zu e]; rfl
 | lst e => rw [Zw, e]; rfl
 | frz e => rw [Zw, e]; rfl
 | dK e => rw [Zw, e]; rfl
 | dT e => rw [Zw, e]; rfl
 | _ => rfl
theorem UG (x : V) : whole x = (isIntV x && !isBlV x) := by cases x <;> rfl
end L2
set_option Elab.async false
set_option linter.all false
set_option maxRecDepth 100000
namespace L2
open PySem PySem.Spec PyProof.Rows
def tPar3 (i j k : Nat) (ta : TA) : TS := fun D σ H => ta σ H fun vs H1 => ∃ v w z, vs = [v, w, z] ∧ D.nx (((σ.set k (some z)).set j (some w)).set i (some v)) H1
theorem W1 {X : Cx} {pos : Pos} {i j k : Nat} {x y z : Str} {a b c : Expr} {ta : TA} {px py pz pt : Pos} {kt k2 pt2} (hc : X.calm = true) (hN : X.N.Nodup) (hi : X.N[i]? = some x) (hj : X.N[j]? = some y) (hk : X.N[k]? = some z)
  (hx : X.env.scope.names.lookup x = some .local) (hy : X.env.scope.names.lookup y = some .local) (hz : X.env.scope.names.lookup z = some .local) (ha : PA X [a, b, c] ta)
  (hw : swappedStores [.Tuple [.Name x px, .Name y py, .Name z pz] kt pt] (.Tuple [a, b, c] k2 pt2) X.env = pure (some [x, y, z]) := by rfl)
  (hs : swapsWithSole [.Tuple [.Name x px, .Name y py, .Name z pz] kt pt] (.Tuple [a, b, c] k2 pt2) pos.line X.env = pure false := by rfl) :
  PS X (.Assign [.Tuple [.Name x px, .Name y py, .Name z pz] kt pt] (.Tuple [a, b, c] k2 pt2) pos) (tPar3 i j k ta) := by
 intro pins s σ H D I h
 rw [exec_Assign_arm]
 refine wpAny_bind (wpAny_standAt ?_)
 rw [hs]
 refine wpAny_bind (wpAny_pure ?_)
 rw [if_neg (by decide)]
 refine wpAny_bind (Tuple_ (thn (ha _ pins s σ H _ I h) fun us s1 ⟨vs, H1, I1, r1, q1⟩ => ?_))
 obtain ⟨v, w, t, e1, q1⟩ := q1
 subst e1
 obtain ⟨u1, u2, u3, rfl, rv, rw', rt⟩ : ∃ u1 u2 u3, us = [u1, u2, u3] ∧ RelV v u1 ∧ RelV w u2 ∧ RelV t u3 := by
  cases r1 with
  | cons p q =>
   cases q with
   | cons p' q' =>
    cases q' with
    | cons p'' q'' =>
     cases q''
     exact ⟨_, _, _, rfl, p, p', p''⟩
 refine wpAny_newObj_type ?_ (by show 3 ≤ sizeLine; decide)
 have I2 : Inv X pins σ H1 { s1 with heap := s1.heap.push { cls := .type "tuple", data := .seq [u1, u2, u3].toArray } } := I1.kept (t' := s1.toks) fun b o e => Heap.get?_push_of_some _ e
 rw [hw]
 refine wpAny_bind (wpAny_pure ?_)
 show wpAny (model X.prog X.w) X.A (do rule "assign.swapped-stores"; let items ← unpackItems (.ref s1.heap.objs.size) 3 none; assignInOrder [fun v => bindName X.env z v, fun v => bindName X.env y v, fun v => bindName X.env x v] items.reverse; pure Flow.next) _ _ _
 refine wpAny_bind (wpAny_rule (wpAny_bind (unpackItems_tuple (items := #[u1, u2, u3]) (I.ok.hd hc) (IsTup.new s1.heap _) fun h' hx' => ?_)))
 have I3 := I2.kept (h' := h') (t' := s1.toks) fun b o e => hx' b o (Nat.ne_of_lt (Heap.lt_size e)) e
 show wpAny _ _ (assignInOrder [fun v => bindName X.env z v, fun v => bindName X.env y v, fun v => bindName X.env x v] [u3, u2, u1] >>= fun _ => pure Flow.next) _ _ _
 refine wpAny_bind (assignInOrder_cons (wpAny_bindName (Z3 I3 hN hk (.inl hz) rt (fun s2 I4 => ?_) (.inr hz))))
 refine assignInOrder_cons (wpAny_bindName (Z3 I4 hN hj (.inl hy) rw' (fun s3 I5 => ?_) (.inr hy)))
 refine assignInOrder_cons (wpAny_bindName (Z3 I5 hN hi (.inl hx) rv (fun s4 I6 => assignInOrder_nil (wpAny_pure ?_)) (.inr hx)))
 exact ⟨_, H1, I6, q1⟩
def SameX (p : Addr) (H H' : Hp) : Prop := ∀ b o, H b = some o → b ≠ p → H' b = some o
theorem SameX.refl (p : Addr) (H : Hp) : SameX p H H := fun _ _ h _ => h
theorem SameX.trans {p : Addr} {H H1 H2 : Hp} (a : SameX p H H1) (b : SameX p H1 H2) : SameX p H H2 := fun c o h n => b c o (a c o h n) n
theorem Same.x {p : Addr} {H H1 : Hp} (a : Same H H1) : SameX p H H1 := fun c o h _ => a c o h
theorem SameX.upd {p : Addr} {H : Hp} {o : HO} : SameX p H (L2.upd H p o) := fun b u h n => by rw [Zf n]; exact h
theorem Zdv {X : Cx} (hu : X.A.units < cLine) : OpR X (compareOp .Eq) (fun x y H Q => ∃ (a b : Addr) (xs : List V), x = .ref a ∧ y = .ref b ∧ SqL X.K H a xs ∧ SqL X.K H b [] ∧ Q (.bl xs.isEmpty) H) := by
 intro pins s σ H x y u v Q I rx ry h
 obtain ⟨a, b, xs, rfl, rfl, ha, hb, q⟩ := h
 cases rx
 cases ry
 obtain ⟨its, rv, pl, hz⟩ := I.list ha
 obtain ⟨its2, rv2, pl2, hz2⟩ := I.list hb
 cases rv2
 cases rv with
 | nil => exact SeqAt.eq_listAt (e := fun _ => true) pl.isList pl2.isList rfl hu (fun j h1 h2 => absurd h2 (by simp)) ⟨.bl true, H, I, rfl, q⟩
 | cons r t => exact SeqAt.eq_list_lengthsAt pl.isList pl2.isList (by simp) hu ⟨.bl false, H, I, rfl, q⟩
theorem ZbL {X : Cx} (hu : X.A.units < cLine) : OpR X (compareOp .NotEq) (fun x y H Q => ∃ (a b : Addr) (xs : List V), x = .ref a ∧ y = .ref b ∧ SqL X.K H a xs ∧ SqL X.K H b [] ∧ Q (.bl (!xs.isEmpty)) H) := by
 intro pins s σ H x y u v Q I rx ry h
 obtain ⟨a, b, xs, rfl, rfl, ha, hb, q⟩ := h
 cases rx
 cases ry
 obtain ⟨its, rv, pl, hz⟩ := I.list ha
 obtain ⟨its2, rv2, pl2, hz2⟩ := I.list hb
 cases rv2
 cases rv with
 | nil => exact SeqAt.RcNeAt.lists (e := fun _ => true) pl.isList pl2.isList rfl hu (fun j h1 h2 => absurd h2 (by simp)) _ _ _ _ ⟨.bl false, H, I, rfl, q⟩
 | cons r t => exact SeqAt.RcNeAt.lists_lengths pl.isList pl2.isList (by simp) hu _ _ _ _ ⟨.bl true, H, I, rfl, q⟩
end L2
set_option Elab.async false
set_option linter.all false
set_option maxRecDepth 100000
namespace L2
open PySem PySem.Spec PyProof.Rows
section
variable {prog : Program} {w : World} {A : Around} {E : Value → Shared → Prop} {s : Shared}
theorem Zad {j t : Addr} {i : Nat} {its : Array Value} {x : Value} {Q : Value → Shared → Prop} (h1 : s.heap.IsTupleIter j t i) (h2 : s.heap.IsTuple t its) (hx : its[i]? = some x)
  (k : ∀ h', h'.IsTupleIter j t (i + 1) → Heap.SameBut j s.heap h' → Q x { s with heap := h' }) : wpAny (model prog w) A (Builtin.SmallTypes.nextOf (.ref j)) Q E s := by
 obtain ⟨o, eo, co, dO⟩ := id h1
 obtain ⟨ot, et, _, nt, dt⟩ := h2
 unfold Builtin.SmallTypes.nextOf
 refine wpAny_bind (wpAny_callSpecial?_slot (name := Str.ofString "__next__") h1.typeIs F.slot_tuple_iterator_next (wpAny_call_entry F.slot_tuple_iterator_next h1.typeIs F.entry_tuple_iterator_next ?_ (F.args_tuple_iterator_next_1 _)))
 show wpAny _ _ (field (.ref j) 0 >>= _) _ _ s
 refine wpAny_bind (wpAny_field eo dO (x := .ref t) rfl ?_)
 show wpAny _ _ (if (Value.ref t == Value.none) = true then _ else _) _ _ s
 rw [if_neg (show ¬ ((Value.ref t == Value.none) = true) from Bool.false_ne_true)]
 show wpAny _ _ (field (.ref j) 1 >>= _) _ _ s
 refine wpAny_bind (wpAny_field eo dO (x := .int i 0) rfl ?_)
 show wpAny _ _ (seqItems? (.ref t) >>= _) _ _ s
 refine wpAny_bind (wpAny_seqItems et dt ?_)
 simp only [Int.toNat_natCast, hx]
 refine wpAny_bind (wpAny_setField eo dO (by simp) (wpAny_pure ⟨x, rfl, wpAny_pure (k _ ⟨_, Heap.get?_update_self _ eo (Obj.isFreed_of_fields (Obj.data_mapFields dO _)), (Obj.cls_mapFields ..).trans co, ?_⟩ (Heap.SameBut.update ..))⟩))
 rw [Obj.data_mapFields dO]
 simp [rawInt]
theorem Za7 {j t : Addr} {i : Nat} {its : Array Value} {Q : Value → Shared → Prop} (hh : A.handled = none) (h1 : s.heap.IsTupleIter j t i) (h2 : s.heap.IsTuple t its) (hx : its[i]? = none)
  (k : ∀ h' e, Heap.ExtBut j s.heap h' → (∃ o, h'.get? e = some o ∧ o.cls = .type "StopIteration") → E (.ref e) { s with heap := h' }) : wpAny (model prog w) A (Builtin.SmallTypes.nextOf (.ref j)) Q E s := by
 obtain ⟨o, eo, co, dO⟩ := id h1
 obtain ⟨ot, et, _, nt, dt⟩ := h2
 unfold Builtin.SmallTypes.nextOf
 refine wpAny_bind (wpAny_callSpecial?_slot (name := Str.ofString "__next__") h1.typeIs F.slot_tuple_iterator_next (wpAny_call_entry F.slot_tuple_iterator_next h1.typeIs F.entry_tuple_iterator_next ?_ (F.args_tuple_iterator_next_1 _)))
 show wpAny _ _ (field (.ref j) 0 >>= _) _ _ s
 refine wpAny_bind (wpAny_field eo dO (x := .ref t) rfl ?_)
 show wpAny _ _ (if (Value.ref t == Value.none) = true then _ else _) _ _ s
 rw [if_neg (show ¬ ((Value.ref t == Value.none) = true) from Bool.false_ne_true)]
 show wpAny _ _ (field (.ref j) 1 >>= _) _ _ s
 refine wpAny_bind (wpAny_field eo dO (x := .int i 0) rfl ?_)
 show wpAny _ _ (seqItems? (.ref t) >>= _) _ _ s
 refine wpAny_bind (wpAny_seqItems et dt ?_)
 simp only [Int.toNat_natCast, hx]
 refine wpAny_bind (wpAny_rule (wpAny_bind (wpAny_setField eo dO (by simp) ?_)))
 show wpAny _ _ (newExc (.type "StopIteration") [] >>= _) _ _ _
 refine wpAny_bind ?_
 simp only [newExc, newTuple]
 refine wpAny_bind (wpAny_newObj_type ?_ (by size_fits))
 refine wpAny_bind (m := firstArgMember _ _) (wpAny_of_eq (a := Value.none) (by first | rfl | (simp only [firstArgMember]; rfl)) (wpAny_newObj_type ?_ (by size_fits)))
 simp only [raiseNew]
 refine wpAny_bind (wpAny_handled ?_)
 first | rw [show A.in1.handled = none from hh] | rw [hh]
 exact wpAny_bind (wpAny_pure (wpAny_throw (k _ _ (((Heap.SameBut.update ..).extBut.push _).push _) ⟨_, Heap.get?_push_size _ rfl, rfl⟩)))
end
theorem drawsT {prog : Program} {w : World} {A : Around} (hh : A.handled = none) (j t : Addr) (hne : t ≠ j) (its : Array Value) :
  Draws prog w A j [j, t] its.size (fun i v => its[i]? = some v) (fun i h => h.IsTupleIter j t i ∧ h.IsTuple t its) where
 live := fun _ _ st => let ⟨o, ho, _⟩ := st.1; ⟨o, ho⟩
 frame := fun _ _ _ st hk => ⟨st.1.at fun o e => hk j (by simp) o e, st.2.at fun o e => hk t (by simp) o e⟩
 item := fun i s Q E hi st hQ => Zad st.1 st.2 (x := its[i]) (by simp [hi]) fun h' a b => hQ _ h' s.toks (by simp [hi]) ⟨a, st.2.extBut b.extBut hne⟩ b
 done := fun s Q E st hE => Za7 hh st.1 st.2 (by simp) hE
section
variable {prog : Program} {w : World} {A : Around} {E : Value → Shared → Prop} {s : Shared}
theorem Zbj (l : Addr) (its : Array Value) (n : Nat) (dct : Option Addr) (sl : Array (Option Value)) :
  Meets (Builtin.«enumerate.__new__» ⟨[.type "enumerate", .ref l], []⟩) (fun _ R s => s.heap.get? l = some { cls := .type "tuple", dict := dct, data := .seq its n, slots := sl } ∧
   R (.ok (.ret (.ref (s.heap.push { cls := .type "tuple_iterator", data := .fields #[.ref l, .int 0 0] }).objs.size)))
    { s with heap := (s.heap.push { cls := .type "tuple_iterator", data := .fields #[.ref l, .int 0 0] }).push { cls := .type "enumerate", data := .fields #[.none, .bool false, .ref s.heap.objs.size, rawInt 0, .none, .none] } }) :=
 .of_wp fun prog w A R s h => by
  obtain ⟨hp, g, d, tk, os⟩ := s
  obtain ⟨hl, h⟩ := h
  have hsub := sub_enumerate
  have hL : Heap.IsTuple (Shared.heap ⟨hp, g, d, tk, os⟩) l its := ⟨_, hl, rfl, n, rfl⟩
  wp_walk using AutoSeq1.wpAny_loadPart' hl
  refine wpAny_stack_any fun st => wpAny_pure ?_
  split
  ·rename_i c _ _ _ _ _
   cases (c == Value.type "enumerate") <;> (wp_walk using AutoSeq1.wpAny_loadPart' hl, wpAny_pyIter_tuple hL; exact ⟨_, rfl, h⟩)
  ·wp_walk using AutoSeq1.wpAny_loadPart' hl, wpAny_pyIter_tuple hL
   exact ⟨_, rfl, h⟩
theorem Zam {l : Addr} {its : Array Value} {Q : Value → Shared → Prop} (hL : s.heap.IsTuple l its)
  (h : ∀ h', IsEnum h' (s.heap.objs.size + 1) s.heap.objs.size 0 .none → h'.IsTupleIter s.heap.objs.size l 0 → (∀ b o, s.heap.get? b = some o → h'.get? b = some o) → Q (.ref (s.heap.objs.size + 1)) { s with heap := h' }) :
  wpAny (model prog w) A (call (.type "enumerate") [.ref l]) Q E s := by
 obtain ⟨⟨c, dct, dt, sl⟩, hl, hc, n, hd⟩ := hL
 replace hc : c = .type "tuple" := hc
 replace hd : dt = .seq its n := hd
 subst hc hd
 refine callType_new F.called_enumerate (by decide) (F.typeCall_enumerate_1 _) (F.newCall_enumerate_1 _) (fun obj => F.args_object_init_2 obj _) F.entry_enumerate_new (Zbj l its n dct sl) ⟨hl, ?_⟩
 have hz : (s.heap.push { cls := .type "tuple_iterator", data := .fields #[.ref l, .int 0 0] }).objs.size = s.heap.objs.size + 1 := Heap.size_push ..
 show _ ∧ _
 rw [hz]
 have he : IsEnum ((s.heap.push { cls := .type "tuple_iterator", data := .fields #[.ref l, .int 0 0] }).push { cls := .type "enumerate", data := .fields #[.none, .bool false, .ref s.heap.objs.size, rawInt 0, .none, .none] }) (s.heap.objs.size + 1) s.heap.objs.size 0 .none := by
  have q := Heap.get?_push_size (s.heap.push { cls := .type "tuple_iterator", data := .fields #[.ref l, .int 0 0] }) (o := { cls := .type "enumerate", data := .fields #[.none, .bool false, .ref s.heap.objs.size, rawInt 0, .none, .none] }) rfl
  rw [hz] at q
  exact q
 exact ⟨⟨_, he, rfl⟩, h _ he ⟨_, Heap.get?_push_of_some _ (Heap.get?_push_size _ rfl), rfl, rfl⟩ fun b o x => Heap.get?_push_of_some _ (Heap.get?_push_of_some _ x)⟩
end
def Ite (K : PySem.W.Frag) (t : Addr) : It :=
 ⟨fun i H => ∃ xs x, SqT K H t xs ∧ xs[i]? = some x, fun i H x H' => ∃ (T : Addr) (y : V), x = .ref T ∧ H T = none ∧ H' = upd H T (.par [.int (i : Int), y]) ∧ ∀ xs, SqT K H t xs → xs[i]? = some y, fun i H => ∃ xs, SqT K H t xs ∧ xs.length = i⟩
theorem ZaQ {P : Program} {w : World} {K : PySem.W.Frag} {elts : List Expr} {kk : Nat} {pos : Pos} (t e j : Addr) (hej : e ≠ j) (hte : t ≠ e) (htj : t ≠ j) :
  Turn P w K (.Tuple elts kk pos) (Ite K t) [e, j] e (fun i h => (∃ old, IsEnum h e j i old) ∧ h.IsTupleIter j t i) where
 mem := by simp
 obj := fun i h st b hb => by
  obtain ⟨⟨old, he⟩, o, ho, hc, hd⟩ := st
  rcases List.mem_cons.mp hb with rfl | hb
  ·exact ⟨_, he, fun v z => by cases z⟩
  ·rw [List.mem_singleton.mp hb]
   exact ⟨o, ho, fun v z => by rw [hd] at z; cases z⟩
 keep := fun i h h' st k => ⟨let ⟨old, he⟩ := st.1; ⟨old, k e (by simp) _ he⟩, st.2.at fun o q => k j (by simp) o q⟩
 item := by
  intro X hP hw hK hc i pins s σ H E I hf st hg
  subst hP hw hK
  obtain ⟨xs, x, hq, hx⟩ := hg
  obtain ⟨its, rv, p, hz⟩ := I.tuple hq
  obtain ⟨u, hu, ru⟩ := rv.get hx
  have hl := rv.length
  have hil : i < its.toArray.size := by
   have := (List.getElem?_eq_some_iff.mp hu).1
   simpa using this
  have W := WalksT.enumerateD (prog := X.prog) (w := X.w) (A := X.A) (drawsT (A := X.A.in1) (show X.A.in1.handled = none from I.ok.hd hc) j t htj its.toArray) e hej (by simp [hej, hte.symm]) (by simp)
  have hT : s.heap.IsTuple t its.toArray := p
  refine W.item i s _ _ hil ⟨st.1, st.2, hT⟩ fun T vals h' tk hP hTs hTup hmid hk => ⟨_, rfl, W.go elts kk pos i T _ _ _ hmid fun h'' st'' hk'' => ?_⟩
  obtain ⟨tk2, x2, hx2, rfl⟩ := hP
  have hx2' : its[i]? = some x2 := by simpa using hx2
  rw [hu] at hx2'
  cases hx2'
  have hTn : H T = none := I.hok.fresh hTs
  have both : ∀ b o, b ∉ [e, j] → s.heap.get? b = some o → h''.get? b = some o := fun b o hb q => hk'' b o hb (hk b o hb q)
  have hTw : T ∉ [e, j] := W.apart _ _ _ hmid
  have hTT : h''.IsTuple T #[.int i tk2, u] := hTup.at fun o q => hk'' T o hTw q
  have neT : ∀ b o, s.heap.get? b = some o → b ≠ T := fun b o q => Nat.ne_of_lt (Nat.lt_of_lt_of_le (Heap.lt_size q) hTs)
  have neT' : ∀ b o, H b = some o → b ≠ T := fun b o q => Zd q hTn
  have trk : ∀ b o, H b = some o → b ∉ [e, j] := fun b o q z => by
   have := (hf b z).1
   rw [this] at q; cases q
  refine ⟨.ref T, upd H T (.par [.int (i : Int), x]), ?_, rfl, ⟨T, x, rfl, hTn, rfl, fun ys hy => by rw [I.tuple_inj hy hq]; exact hx⟩, ⟨st''.1, st''.2.1⟩, fun b hb => ?_⟩
  ·refine (show Inv X pins σ (upd H T (.par [.int (i : Int), x])) { s with heap := h'', toks := tk } from ?_)
   refine I.call (g' := s.gens) (d' := s.drawn) (t' := tk) (h' := h'') (ch := [e, j]) ⟨fun b o q _ _ hx => both b o hx q, fun b o q _ _ hx => ⟨o.slots, both b o hx q⟩, fun b o q n hx => by rw [Zf (neT b o q)]; exact n, fun b o q hx => ⟨o, both b o hx q⟩,
    fun b ys q => by rw [Zf (neT' b _ q)]; exact q, fun b o u q => by rw [Zf (neT' b _ q)]; exact q, fun b ps q => ⟨#[], by rw [Zf (neT' b _ q), q]; simp⟩⟩ (fun b v q => ?_) I.bare fun b hb => ?_
   ·by_cases hb : b = T
    ·subst hb
     rw [Zb] at q
     cases q
     exact ⟨by show 2 ≤ sizeLine; decide, [.int i tk2, u], .cons ⟨tk2, rfl⟩ (.cons ru .nil), hTT⟩
    ·rw [Zf hb] at q
     refine (I.hok b v q).stay (fun c z hc' q' => both c z ?_ q') (fun c q' => by rw [Zf (neT' c _ q')]; exact q') fun c ys q' => by rw [Zf (neT' c _ q')]; exact q'
     rcases hc' with z' | z'
     ·rw [z']; exact trk b v q
     ·exact trk c _ z'
   ·obtain ⟨f0, f1, f2, f3, f4, f5⟩ := hf b hb
    exact ⟨f3, f1, f4, f5⟩
  ·rw [Zf (fun z => hTw (by rw [← z]; exact hb))]
   exact (hf b hb).1
 done := by
  intro X hP hw hK hc i pins s σ H E I hf st hg
  subst hP hw hK
  obtain ⟨xs, hq, hx⟩ := hg
  obtain ⟨its, rv, p, hz⟩ := I.tuple hq
  have hl := rv.length
  have W := WalksT.enumerateD (prog := X.prog) (w := X.w) (A := X.A) (drawsT (A := X.A.in1) (show X.A.in1.handled = none from I.ok.hd hc) j t htj its.toArray) e hej (by simp [hej, hte.symm]) (by simp)
  have hn : i = its.toArray.size := by rw [List.size_toArray]; omega
  have hT : s.heap.IsTuple t its.toArray := p
  rw [hn] at st
  refine W.done s _ _ ⟨st.1, st.2, hT⟩ fun h' tk hk => ⟨rfl, ?_⟩
  have trk : ∀ b o, H b = some o → b ∉ [e, j] := fun b o q z => by
   have := (hf b z).1
   rw [this] at q; cases q
  refine I.call (g' := s.gens) (d' := s.drawn) (t' := tk) (h' := h') (ch := [e, j]) ⟨fun b o q _ _ hx => hk b o hx q, fun b o q _ _ hx => ⟨o.slots, hk b o hx q⟩, fun b o q n hx => n, fun b o q hx => ⟨o, hk b o hx q⟩, fun b ys q => q, fun b o u q => q, fun b ps q => ⟨#[], by rw [q]; simp⟩⟩ (fun b v q => ?_) I.bare fun b hb => ?_
  ·refine (I.hok b v q).stay (fun c z hc' q' => hk c z ?_ q') (fun _ q' => q') fun _ _ q' => q'
   rcases hc' with z' | z'
   ·rw [z']; exact trk b v q
   ·exact trk c _ z'
  ·obtain ⟨f0, f1, f2, f3, f4, f5⟩ := hf b hb
   exact ⟨f3, f1, f4, f5⟩
 self := fun A i s Q E st h => let ⟨old, he⟩ := st.1; wpAny_pyIter_enum he h
section
variable {X : Cx} {elts : List Expr} {kk : Nat} {tp : Pos}
def iEnum (K : PySem.W.Frag) (ta : TA) : TI := fun σ H R => ta σ H fun vs H1 => ∃ t, vs = [.ref t] ∧ (∃ xs, SqT K H1 t xs) ∧ R (Ite K t) H1
theorem ZcE {a : Expr} {ta : TA} {p pos : Pos} (hg : Gl X "enumerate") (hm : X.mg "enumerate" = none) (ha : PA X [a] ta) (hs : starEach [a] X.env = [(false, eval a X.env)] := by rfl) : PI X (.Tuple elts kk tp) (.Call (.Name "enumerate" p) [a] [] pos) (iEnum X.K ta) := by
 intro pins s σ H R I h
 refine Call_ (YN I hg hm boot_enumerate (PyProof.Rows.callWith_type1 (thn (ha pos pins s σ H _ I h) fun us s1 ⟨vs, H1, I1, r1, q1⟩ => ?_) hs rfl))
 obtain ⟨t, e, ⟨xs, hq⟩, q⟩ := q1
 subst e
 obtain ⟨u, rfl, ru⟩ := vals1 r1
 cases ru
 obtain ⟨its, rv, pl, hz⟩ := I1.tuple hq
 have hT : s1.heap.IsTuple t its.toArray := pl
 have ht : t < s1.heap.objs.size := by obtain ⟨o, ho, _⟩ := hT; exact Heap.lt_size ho
 refine Zam hT fun h' he hj hk => wpAny_pyIter_enum he ?_
 have I2 : Inv X pins σ H1 { s1 with heap := h' } := I1.kept (t' := s1.toks) hk
 refine ⟨s1.heap.objs.size + 1, [s1.heap.objs.size + 1, s1.heap.objs.size], _, _, H1, rfl, I2, ZaQ t _ _ (Nat.succ_ne_self _) (Nat.ne_of_lt (Nat.lt_succ_of_lt ht)) (Nat.ne_of_lt ht), ⟨⟨_, he⟩, hj⟩, fun b hb => ?_, q⟩
 have hbs : s1.heap.objs.size ≤ b := by
  rcases List.mem_cons.mp hb with z | z
  ·rw [z]; exact Nat.le_succ _
  ·rw [List.mem_singleton.mp z]; exact Nat.le_refl _
 exact I1.fpOk hbs (I1.hok.fresh hbs)
end
theorem Za9 {K : PySem.W.Frag} {a : Addr} {xs : List V} {g : TG} {tt : TT} {ti : TC} {ys : List V} {σ : St} {H : Hp} {Q : List V → St → Hp → Prop} (Pv : Nat → List V → St → Hp → Prop) (h0 : Pv 0 ys σ H)
  (hl : ∀ i ys σ H, i ≤ xs.length → Pv i ys σ H → SqT K H a xs)
  (hs : ∀ i x T ys σ H, xs[i]? = some x → H T = none → Pv i ys σ H → g (.ref T) σ (upd H T (.par [.int (i : Int), x])) fun σ2 H2 => tt σ2 H2 fun b H3 => if b = true then ti ys σ2 H3 (Pv (i + 1)) else Pv (i + 1) ys σ2 H3)
  (hd : ∀ ys σ H, Pv xs.length ys σ H → Q ys σ H) : tNestW g tt ti (Ite K a) ys σ H Q := by
 refine ⟨fun i m ys σ H => m = xs.length - i ∧ i ≤ xs.length ∧ Pv i ys σ H, ⟨xs.length, by simp, Nat.zero_le _, h0⟩, ?_⟩
 rintro i m ys σ H ⟨rfl, hi, p⟩
 have q := hl i ys σ H hi p
 by_cases hlt : i < xs.length
 ·refine .inr ⟨⟨xs, xs[i], q, by simp [hlt]⟩, Pv (i + 1), fun ys' σ' H' p' => ⟨xs.length - (i + 1), by omega, rfl, hlt, p'⟩, fun x H' y => ?_⟩
  obtain ⟨T, z, e1, e2, e3, e4⟩ := y
  subst e1 e3
  exact hs i z T ys σ H (e4 xs q) e2 p
 ·have e : i = xs.length := by omega
  subst e
  exact .inl ⟨⟨xs, q, rfl⟩, hd ys σ H p⟩
end L2
set_option Elab.async false
set_option linter.all false
set_option maxRecDepth 100000
namespace L2
open PySem PySem.Spec PyProof.Rows
structure Fl (P : Program) (w : World) (outer : List Env) (H : Hp) (s : Shared) (e C : Addr) (H' : Hp) (s' : Shared) : Prop where
 os : s'.os = s.os
 bare : AllBare s'.gens
 un : Un (frs outer) [] H H' s.heap s'.heap
 hok : HOk P w H' s'.heap
 fly : ∃ B a0, Heap.FlyingW B outer e (.ref C) a0 s'.heap ∧ (∀ b o, s.heap.get? b = some o → b ∉ frs outer → ∃ u, B.get? b = some u) ∧ ∀ b o, H' b = some o → ∃ u, B.get? b = some u
def CXR (P : Program) (w : World) : CXT := fun outer H s E ev s' => ∃ e C H', ev = .ref e ∧ Fl P w outer H s e C H' s' ∧ E (.ref e) (some C) H'
section
variable {P : Program} {w : World} {base : Heap} {env : Env} {outer : List Env} {s0 s1 s2 : Shared} {H0 H1 H2 : Hp} {e C L : Addr} {A : Around}
theorem YY {B h1 h2 : Heap} {H : Hp} (x : HOk P w H h1) (cov : ∀ b o, H b = some o → ∃ u, B.get? b = some u) (k1 : B.StaysIn h1) (k2 : B.StaysIn h2) : HOk P w H h2 := fun a o ha =>
  (x a o ha).stay (fun b u hb hq => by
    have : ∃ u', B.get? b = some u' := by
      rcases hb with rfl | hb
      · exact cov _ _ ha
      · exact cov _ _ hb
    obtain ⟨u', hu⟩ := this
    have e1 := k1 b u' hu
    rw [hq] at e1
    cases e1
    exact k2 b _ hu) (fun _ q => q) fun _ _ q => q
theorem JS {B h' : Heap} (u0 : Un (frs outer) [] H0 H1 s0.heap s1.heap) (u1 : Un (frs (env :: outer)) [] H1 H2 s1.heap s2.heap) (hf : env.frame = some L) (ab : s0.heap.objs.size ≤ L) (fu : s0.heap.FunFrames base outer) (fz : ∀ b ∈ frs outer, H0 b = none)
  (cov : ∀ b o, s1.heap.get? b = some o → b ∉ frs (env :: outer) → ∃ u, B.get? b = some u) (k1 : B.StaysIn s2.heap) (k2 : B.StaysIn h') (up : s2.heap.UpToSlots h') : Un (frs outer) [] H0 H2 s0.heap h' := by
 have hmem : ∀ b, b ∈ frs (env :: outer) ↔ b = L ∨ b ∈ frs outer := fun b => by
  show b ∈ (env :: outer).filterMap (·.frame) ↔ _
  rw [List.filterMap_cons_some (f := fun (x : Env) => x.frame) (a := env) (b := L) hf, List.mem_cons]
  exact Iff.rfl
 have out : ∀ b o, s0.heap.get? b = some o → b ∉ frs outer → b ∉ frs (env :: outer) := fun b o hb hn hm => by
  rcases (hmem b).mp hm with q | q
  ·rw [q] at hb
   exact absurd (Nat.lt_of_lt_of_le (Heap.lt_size hb) ab) (Nat.lt_irrefl _)
  ·exact hn q
 have keepB : ∀ b o u, s2.heap.get? b = some o → B.get? b = some u → h'.get? b = some o := fun b o u hb hu => by
  have e1 := k1 b u hu
  rw [hb] at e1
  cases e1
  exact k2 b _ hu
 have slotF : ∀ b o, s0.heap.get? b = some o → b ∈ frs outer → ∃ sl, h'.get? b = some { o with slots := sl } := fun b o hb hm => by
  obtain ⟨_, o', ho', nf⟩ := fu.mem hm
  rw [hb] at ho'
  cases ho'
  obtain ⟨sl1, e1⟩ := u0.slot b o hb (fz b hm) hm (by simp)
  have n1 := u0.free b o hb (fz b hm) (by simp)
  obtain ⟨sl2, e2⟩ := u1.slot b _ e1 n1 ((hmem b).mpr (.inr hm)) (by simp)
  obtain ⟨sl3, e3⟩ := up b _ e2 nf
  exact ⟨sl3, e3⟩
 refine ⟨fun b o hb hn hnf _ => ?_, fun b o hb hn hm _ => slotF b o hb hm, fun b o hb hn hx => ?_, fun b o hb _ => ?_, fun b xs hb => u1.tups b xs (u0.tups b xs hb), fun b o u hb => u1.frzs b o u (u0.frzs b o u hb), fun b ps hb => ?_⟩
 ·have e1 := u0.keep b o hb hn hnf (by simp)
  have n1 := u0.free b o hb hn (by simp)
  have hb' := out b o hb hnf
  have e2 := u1.keep b o e1 n1 hb' (by simp)
  obtain ⟨u, hu⟩ := cov b o e1 hb'
  exact keepB b o u e2 hu
 ·obtain ⟨o1, e1⟩ := u0.there b o hb (by simp)
  have n1 := u0.free b o hb hn (by simp)
  exact u1.free b o1 e1 n1 (by simp)
 ·by_cases hm : b ∈ frs outer
  ·obtain ⟨sl, q⟩ := slotF b o hb hm
   exact ⟨_, q⟩
  ·obtain ⟨o1, e1⟩ := u0.there b o hb (by simp)
   obtain ⟨u, hu⟩ := cov b o1 e1 (out b o hb hm)
   exact ⟨u, k2 b u hu⟩
 ·obtain ⟨m1, q1⟩ := u0.tbls b ps hb
  obtain ⟨m2, q2⟩ := u1.tbls b _ q1
  exact ⟨m1 ++ m2, by rw [q2, Array.append_assoc]⟩
end
theorem passR {P : Program} {w : World} {K : PySem.W.Frag} {mg : Str → Option Value} {base : Heap} {N : List Str} {qual : Str} {scope : Scope} {f : Addr} {cd : Value} {A : Around} {outer : List Env} {s : Shared} {H : Hp} {E : XK} :
  Passes (CXR P w) (cxOf (CXR P w) P w K mg base N qual scope f cd A outer s H E) E := by
 intro pins σ H1 s1 ev s2 I h
 obtain ⟨e, C, H', rfl, F, hE⟩ := h
 obtain ⟨B, a0, fl, cov, covT⟩ := F.fly
 refine wpAny_leaves_onW (L := s.heap.objs.size) I.ok.frames rfl fl fun h' fl' up => ?_
 refine ⟨e, C, H', rfl, ⟨F.os.trans I.os, F.bare, JS (base := base) (L := s.heap.objs.size) I.base F.un rfl (Nat.le_refl _) I.ok.funs I.ok.frf cov fl.1 fl'.1 up, YY F.hok covT fl.1 fl'.1, B, a0, fl', fun b o hb hn => ?_, covT⟩, hE⟩
 obtain ⟨o1, e1⟩ := I.base.there b o hb (by simp [cxOf])
 refine cov b o1 e1 fun hm => ?_
 have hm' : b ∈ (envOfC qual scope s.heap.objs.size f cd :: outer).filterMap (·.frame) := hm
 rw [List.filterMap_cons_some (f := fun (x : Env) => x.frame) (a := envOfC qual scope s.heap.objs.size f cd) (b := s.heap.objs.size) rfl] at hm'
 rcases List.mem_cons.mp hm' with q | q
 ·rw [q] at hb
  exact absurd (Heap.lt_size hb) (Nat.lt_irrefl _)
 ·exact hn q
theorem Zc6 {K : PySem.W.Frag} {h : Heap} {C : Addr} {bmB : List Value} {newId : String} (X : K.In h) (q : PySem.W.excIn K C bmB newId = true) :
  ∃ bm N nm qn bs hdct sn sub ab col dd k0 k1 k2 k3 k5 mN, h.get? C = some (excClassObj nm qn C N bs bm hdct sn sub ab col dd k0 k1 k2 k3 k5 newId) ∧ h.Ns N mN ∧ mN "__init__" = none ∧ OwnTail h bmB bm := by
 unfold PySem.W.excIn at q
 split at q
 ·rename_i dd cd sl lk
  split at q
  ·rename_i c2 bm j0 j1 j2 j3 nn j5 em es
   rw [Bool.and_eq_true, Bool.and_eq_true, Bool.and_eq_true, Bool.and_eq_true, Bool.and_eq_true] at q
   obtain ⟨⟨⟨⟨⟨q1, q2⟩, q3⟩, q4⟩, q5⟩, q6⟩ := q
   have z1 := beq_iff_eq.mp q1
   have z2 := beq_iff_eq.mp q2
   have z6 := beq_iff_eq.mp q6
   subst z1 z2
   have ob := X _ _ lk
   have z3 : cd.hasDel = false := by revert q3; cases cd.hasDel <;> simp
   have zs : sl = #[j0, j1, j2, j3, some (.builtin nn), j5] := by
    apply Array.toList_inj.mp
    rw [es]
   refine ⟨bm, cd.ns, cd.name, cd.qualname, cd.bases, cd.hasDict, cd.slotNames, cd.subclasses, cd.abstract, cd.collection, dd, j0, j1, j2, j3, j5, h.nsMap cd.ns, ?_, .of_isNs (PySem.W.isNs_of_in X q5), PySem.W.nsMap_none_of_in X q5 z6, PySem.W.tail_of_in X q4⟩
   rw [ob, zs]
   obtain ⟨a1, a2, a3, a4, a5, a6, a7, a8, a9, a10, a11⟩ := cd
   cases em
   cases z3
   rfl
  ·cases q
 ·cases q
def tRaise (C : Addr) (E : XK) (ta : TA) : TS := fun _ σ H => ta σ H fun vs H1 => vs.length ≤ sizeLine ∧ ∀ e, E (.ref e) (some C) H1
theorem UB {P : Program} {w : World} {K : PySem.W.Frag} {mg : Str → Option Value} {base : Heap} {N : List Str} {qual : Str} {scope : Scope} {f : Addr} {cd : Value} {A : Around} {outer : List Env} {s s1 : Shared} {H H1 : Hp} {E : XK}
  {pins : List (Addr × Obj)} {σ : St} {h' : Heap} {e C : Addr} {vs : List Value} (I : Inv (cxOf (CXR P w) P w K mg base N qual scope f cd A outer s H E) pins σ H1 s1) (mk : Heap.MadeExcOf s1.heap h' e (.ref C) vs) (hE : E (.ref e) (some C) H1) :
  (cxOf (CXR P w) P w K mg base N qual scope f cd A outer s H E).xe (.ref e) { s1 with heap := h' } := by
 have hin : ∀ env ∈ (envOfC qual scope s.heap.objs.size f cd :: outer), ∀ b, env.frame = some b → b ∈ frs (envOfC qual scope s.heap.objs.size f cd :: outer) := fun env he b hb => List.mem_filterMap.mpr ⟨env, he, hb⟩
 have st := I.stack
 refine wpAny_leaves_madeW (L := s.heap.objs.size) (base := PySem.W.hideAll s1.heap (frs (envOfC qual scope s.heap.objs.size f cd :: outer))) (h := s1.heap) I.ok.frames rfl (fun b o q => PySem.W.of_hideAll _ q) (PySem.W.funFrames_hide st hin) mk fun h2 t fl tp _ up => ?_
 have cov : ∀ b o, s1.heap.get? b = some o → b ∉ frs (envOfC qual scope s.heap.objs.size f cd :: outer) → ∃ u, (PySem.W.hideAll s1.heap (frs (envOfC qual scope s.heap.objs.size f cd :: outer))).get? b = some u := fun b o hb hn => ⟨o, PySem.W.hideAll_get _ hb hn⟩
 have covT : ∀ b o, H1 b = some o → ∃ u, (PySem.W.hideAll s1.heap (frs (envOfC qual scope s.heap.objs.size f cd :: outer))).get? b = some u := fun b o hb => by
  have hl := I.hok.lt hb
  have hx : ∃ u, s1.heap.get? b = some u := by
   have ok := I.hok b o hb
   cases o with
   | lst xs => obtain ⟨_, _, _, _, q⟩ := ok; exact ⟨_, q⟩
   | tup xs => obtain ⟨_, _, _, ⟨ob, q, _⟩, _⟩ := ok; exact ⟨_, q⟩
   | par xs => obtain ⟨_, _, _, ob, q, _⟩ := ok; exact ⟨_, q⟩
   | dK kvs => obtain ⟨_, _, _, _, ob, _, _, q, _⟩ := ok; exact ⟨_, q⟩
   | dT kvs => obtain ⟨_, _, _, _, ob, _, _, q, _⟩ := ok; exact ⟨_, q⟩
   | set S n => obtain ⟨ob, _, _, _, q, _⟩ := ok; exact ⟨_, q⟩
   | ins C dx fs => obtain ⟨_, _, _, q, _⟩ := ok; exact ⟨_, q⟩
   | own y => exact ok
   | xd fs => obtain ⟨_, ⟨_, _, _, q, _⟩, _⟩ := ok; exact ⟨_, q⟩
   | rng lo hi => obtain ⟨_, _, _, q⟩ := ok; exact ⟨_, q⟩
   | frz ob u => exact ⟨_, ok.1⟩
   | tbl ps => exact ⟨_, (show s1.heap.get? b = some _ from ok)⟩
   | met f y => exact ⟨_, (show s1.heap.get? b = some _ from ok)⟩
   | ext φ => exact ok.2.1
  obtain ⟨u, hu⟩ := hx
  exact cov b u hu fun hm => by
   have := I.stkFree b hm
   rw [this] at hb
   cases hb
 have k1 : Heap.StaysIn (PySem.W.hideAll s1.heap (frs (envOfC qual scope s.heap.objs.size f cd :: outer))) h' := fun b o q => mk.keeps b o (PySem.W.of_hideAll _ q)
 refine ⟨e, C, H1, rfl, ⟨I.os, I.bare, JS (s1 := s1) (s2 := { s1 with heap := h' }) (base := base) (L := s.heap.objs.size) I.base (Un.kept mk.keeps) rfl (Nat.le_refl _) I.ok.funs I.ok.frf cov k1 fl.1 up, YY (I.hok.kept mk.keeps) covT k1 fl.1, _, _, fl, fun b o hb hn => ?_, covT⟩, hE⟩
 obtain ⟨o1, e1⟩ := I.base.there b o hb (by simp [cxOf])
 refine cov b o1 e1 fun hm => ?_
 have hm' : b ∈ (envOfC qual scope s.heap.objs.size f cd :: outer).filterMap (·.frame) := hm
 rw [List.filterMap_cons_some (f := fun (x : Env) => x.frame) (a := envOfC qual scope s.heap.objs.size f cd) (b := s.heap.objs.size) rfl] at hm'
 rcases List.mem_cons.mp hm' with q | q
 ·rw [q] at hb
  exact absurd (Heap.lt_size hb) (Nat.lt_irrefl _)
 ·exact hn q
theorem Uu {P : Program} {w : World} {K : PySem.W.Frag} {mg : Str → Option Value} {base : Heap} {N : List Str} {qual : Str} {scope : Scope} {f : Addr} {cd : Value} {A : Around} {outer : List Env} {s : Shared} {H : Hp} {E : XK} {x : Str} {C : Addr} {B newId initId : String} {bmB : List Value}
  {e₀ : Expr} {rest : List Expr} {np cpos pos : Pos} {ta : TA} (FB : ExcBaseFacts B newId initId bmB) (hmg : mg x = some (.ref C)) (hex : PySem.W.excIn K C bmB newId = true) (hg : Gl (cxOf (CXR P w) P w K mg base N qual scope f cd A outer s H E) x)
  (ha : PA (cxOf (CXR P w) P w K mg base N qual scope f cd A outer s H E) (e₀ :: rest) ta)
  (he : starEach (e₀ :: rest) (envOfC qual scope s.heap.objs.size f cd) = (false, eval e₀ (envOfC qual scope s.heap.objs.size f cd)) :: starEach rest (envOfC qual scope s.heap.objs.size f cd) := by rfl)
  (hpl : (backTo cpos (starEach rest (envOfC qual scope s.heap.objs.size f cd))).any (·.1) = false := by rfl) (hd : (x == ("__debug__" : Str)) = false := by decide) :
  PS (cxOf (CXR P w) P w K mg base N qual scope f cd A outer s H E) (.Raise (some (.Call (.Name x np) (e₀ :: rest) [] cpos)) none pos) (tRaise C E ta) := by
 intro pins s1 σ H1 D I h
 obtain ⟨bm, Nn, nm, qn, bs, hdct, sn, sub, ab, col, dd, k0, k1, k2, k3, k5, mN, hC, hN, hni, T⟩ := Zc6 I.mod.kin hex
 refine wpAny_Raise_call_subT (C := C) (nm := nm) (q := qn) (N := Nn) (bs := bs) (bm := bm) (hdct := hdct) (sn := sn) (sub := sub) (ab := ab) (col := col) (dd := dd) (k0 := k0) (k1 := k1) (k2 := k2) (k3 := k3) (k5 := k5)
  FB (mN := mN) (T.hasType FB.hasBase) (I.ok.hd rfl) ?_ hni (Ji I hg hmg ⟨rfl, ?_⟩ hd)
 ·show (backTo cpos (starEach (e₀ :: rest) (envOfC qual scope s.heap.objs.size f cd))).any (·.1) = false
  rw [he]
  show (false || (backTo cpos (starEach rest (envOfC qual scope s.heap.objs.size f cd))).any (·.1)) = false
  rw [hpl]
  rfl
 ·have q := ha cpos pins s1 σ H1 _ I h
  show wpAny _ _ (evalArgs (.ref C) true (backTo cpos (starEach (e₀ :: rest) (envOfC qual scope s.heap.objs.size f cd))) []) _ _ _
  have q' : wpAny (model P w) (A.deeper (envOfC qual scope s.heap.objs.size f cd)) (spliced (backTo cpos (starEach (e₀ :: rest) (envOfC qual scope s.heap.objs.size f cd)))) _ _ s1 := q
  rw [he] at q' ⊢
  refine Calls.evalArgs_plain (wpAny_mono q' (fun us s2 h2 => ?_) fun _ _ y => y)
  obtain ⟨vs, H2, I2, r, hz, hE⟩ := h2
  refine ⟨rfl, by rw [← r.length]; exact hz, I2.bk _ _ hC, hN.keeps I2.bk, T.keeps I2.bk, fun h' e mk => ?_⟩
  exact UB I2 mk (hE e)
end L2
set_option Elab.async false
set_option linter.all false
set_option maxRecDepth 100000
namespace L2
open PySem PySem.Spec PyProof.Rows
section
variable {X : Cx}
def tFs (ta tb : TE) : TE := fun σ H Q => ta σ H fun v H1 => ∃ x, v = .str x ∧ (Str.empty ++ x).length ≤ sizeLine ∧ tb σ H1 fun u H2 => ∃ n : Int, u = .int n ∧ n.natAbs.log2 < 1920 ∧ (Str.empty ++ x ++ (Str.ofString (toString n))).length ≤ sizeLine ∧ ∀ z, Q (.str z) H2
theorem ZcH {a b : Expr} {ta tb : TE} {p pos : Pos} (ha : PE X a ta) (hb : PE X b tb) : PE X (.JoinedStr [a, .FormattedValue b (-1) none p] pos) (tFs ta tb) := by
 intro pins s σ H Q I h
 refine JoinedStr_many (joinParts_cons (wpAny_mono (ha pins s σ H _ I h) (fun u s1 h1 => ?_) fun _ _ y => y))
 obtain ⟨v, H1, I1, r1, x, rfl, hz, h2⟩ := h1
 obtain ⟨t, rfl⟩ := r1
 refine ⟨hz, joinParts_cons (FormattedValue_plain (wpAny_mono (hb pins s1 σ H1 _ I1 h2) (fun u s2 h3 => ?_) fun _ _ y => y))⟩
 obtain ⟨v, H2, I2, r2, n, rfl, hn, hz2, q⟩ := h3
 obtain ⟨t2, rfl⟩ := r2
 refine formatField_int_small hn ⟨hz2, ?_⟩
 refine joinParts_nil ?_ hz2
 exact ⟨.str _, H2, (I2.tok _).tok _, ⟨_, rfl⟩, q _⟩
end
section
variable {P : Program} {w : World} {K : PySem.W.Frag} {mg : Str → Option Value} {base : Heap}
theorem Fun.okR {x qual : Str} {st : Stmt} {f : Addr} {fd : FuncData} {N ps : List Str} {k : Nat} {sp : Sp} (F : Fun K x qual st f fd) (S : FnScope N ps (defScope st)) (len : ∀ vs H Q E, sp vs H Q E → vs.length = ps.length)
    (hb : ∀ (cdv : Value) (A : Around) (outer : List Env) (s : Shared) (H : Hp) (vs : List V) (Q : VK) (E : XK), Room k (A.deeper (envOfC qual (defScope st) s.heap.objs.size f cdv)) → sp vs H Q E →
      ∃ t, PSs (cxOf (CXR P w) P w K mg base N qual (defScope st) f cdv A outer s H E) (defBody st) t ∧ t { nx := fun _ H' => Q .non H', rt := Q } (start N vs) H) : FnOk P w K mg base (CXR P w) (k + 1) f fd ps sp := by
  obtain ⟨oc, od, kV, doc, pm, an, cdv, ct, osl, rfl, lk, hcd⟩ := F.ex
  exact Zce lk hcd S len fun A outer s H vs Q E hr hsp => hb cdv A outer s H vs Q E hr hsp
def DefR (P : Program) (w : World) (K : PySem.W.Frag) (mg : Str → Option Value) (base : Heap) (k : Nat) (x : Str) (ps : List Str) (sp : Sp) : Prop :=
 ∃ f fd, FnOk P w K mg base (CXR P w) k f fd ps sp ∧ mg x = some (.ref f) ∧ PySem.W.keepIn K (.ref f) = true ∧ Binds K fd ps []
theorem Yj {N : List Str} {qual : Str} {scope : Scope} {f : Addr} {cd : Value} {A : Around} {outer : List Env} {s : Shared} {H : Hp} {E : XK} {k : Nat} {x : Str} {ps : List Str} {sp : Sp} {e : Expr} {es : List Expr} {t : TA} {p pos : Pos}
  (d : DefR P w K mg base k x ps sp) (hr : Room k (A.deeper (envOfC qual scope s.heap.objs.size f cd))) (ha : PA (cxOf (CXR P w) P w K mg base N qual scope f cd A outer s H E) (e :: es) t) (hg : Gl (cxOf (CXR P w) P w K mg base N qual scope f cd A outer s H E) x := by rfl)
  (hdb : (x == ("__debug__" : Str)) = false := by decide)
  (he : starEach (e :: es) (envOfC qual scope s.heap.objs.size f cd) = (false, eval e (envOfC qual scope s.heap.objs.size f cd)) :: starEach es (envOfC qual scope s.heap.objs.size f cd) := by rfl)
  (hpl : (backTo pos (starEach es (envOfC qual scope s.heap.objs.size f cd))).any (·.1) = false := by rfl) :
  PE (cxOf (CXR P w) P w K mg base N qual scope f cd A outer s H E) (.Call (.Name x p) (e :: es) [] pos) (tCall sp [] E t) := by
 obtain ⟨g, fd, F, hm, hk, hb⟩ := d
 exact Zaw F hr hg hm hk hb .nil passR ha hdb he hpl
end
end L2
set_option Elab.async false
set_option linter.all false
set_option maxRecDepth 100000
namespace L2
open PySem PySem.Spec PyProof.Rows PySem.Builtin PySem.Builtin.ObjectAttr PySem.Builtin.Getset_descriptor
def excO (e C : Addr) : HO := .ext fun h => ∃ o, h.get? e = some o ∧ o.cls = .ref C
structure ExcK (K : PySem.W.Frag) (C : Addr) : Prop where
 ga : PySem.W.findIn K (.ref C) "__getattribute__" = some (some (.builtin "BaseException.__getattribute__"))
 hook : PySem.W.findIn K (.ref C) "__getattr__" = some none
 cl : PySem.W.findIn K (.ref C) "__class__" = some (some (.builtin "object.__class__"))
 ob : PySem.W.mroIn K C (.type "object") = some true
 bx : PySem.W.mroIn K C (.type "BaseException") = some true
 cls : (PySem.W.clsIn K C).isSome = true
section
variable {prog : Program} {w : World} {A : Around} {E : Value → Shared → Prop} {s : Shared} {K : PySem.W.Frag} {e C : Addr} {o : Obj} {R : Result → Shared → Prop}
theorem Jy {M : Model} {h : Heap} (hx : h.get? e = some o) (hc : o.cls = .ref C) : PySem.W.Looks M h (typeOf (.ref e)) (.ref C) := hc ▸ (PySem.W.Looks.ld hx).andThen .now
theorem Zcg {tp : Value} (X : K.In s.heap) (hx : s.heap.get? e = some o) (hc : o.cls = .ref C) (Z : ExcK K C) (h : R (.ok (.ret (.ref C))) s) :
  codeAny (model prog w) A (.call (.builtin "getset_descriptor.__get__") ⟨[.builtin "object.__class__", .ref e, tp], []⟩) R s := by
 obtain ⟨h0, g0, d0, t0, o0⟩ := s
 have LT := Jy (M := model prog w) hx hc
 have LM := PySem.W.looks_mroIn (M := model prog w) X Z.ob
 refine codeAny_call_builtin PySem.W.KF.slot_gs.plain PySem.W.KF.entry_gs (PySem.W.KF.slot_gs.check _ _ _ _ _ _ _ _ PySem.W.KF.type_class (PySem.W.KF.args_gs _ _ _) ?_)
 unfold Builtin.«getset_descriptor.__get__» descrGet
 rw [PySem.W.dga_obj]
 refine wpAny_bind (wpAny_pure ?_)
 unfold descrGetter descrCheckInstance descrNameAndClass isInstance
 simp only [PySem.W.KF.owner_class]
 repeat lk
 refine ⟨Code.quiet_builtin _ (by decide +kernel), codeAny_builtin PySem.W.KF.entry_class ?_⟩
 unfold Builtin.«object.__class__» shownTypeOf
 repeat lk
 exact h
theorem Zbi {tk : Tok} {Q : PySem.Fin → Shared → Prop} (X : K.In s.heap) (hx : s.heap.get? e = some o) (hc : o.cls = .ref C) (Z : ExcK K C) (hq : Q (.done (.ret (.ref C))) s) :
  wpAny (model prog w) A (Builtin.«object.__getattribute__» ⟨[.ref e, .str "__class__" tk], []⟩) Q E s := by
 obtain ⟨h0, g0, d0, t0, o0⟩ := s
 have LT := Jy (M := model prog w) hx hc
 have LC := PySem.W.looks_findIn (M := model prog w) X Z.cl
 have hT5 : (⟨h0, g0, d0, t0, o0⟩ : Shared).TypeIs (.builtin "object.__class__") "getset_descriptor" := F.typeOf_object_class
 have f5 := F.typeOf_object_class
 have f6 := F.slot_gs_get.lookup
 have f7 := F.slot_gs_set.lookup
 repeat (any_goals (first | assumption | with_reducible refine LT.at ?_ | with_reducible refine LC.at ?_ | wp_step))
 refine Zcg (s := ⟨h0, g0, d0, t0, o0⟩) X hx hc Z ?_
 exact wpAny_pure hq
theorem Zch {tk : Tok} (X : K.In s.heap) (hx : s.heap.get? e = some o) (hc : o.cls = .ref C) (Z : ExcK K C) (hq : R (.ok (.ret (.ref C))) s) :
  codeAny (model prog w) A (.call (.builtin "BaseException.__getattribute__") ⟨[.ref e, .str "__class__" tk], []⟩) R s := by
 refine codeAny_call_builtin F.attr_ValueError.ga.plain F.entry_bexc_ga ?_
 obtain ⟨h0, g0, d0, t0, o0⟩ := s
 have LT := Jy (M := model prog w) hx hc
 have LB := PySem.W.looks_mroIn (M := model prog w) X Z.bx
 have hk : builtinKind "BaseException.__getattribute__" = some .slot := by decide +kernel
 have hsp : splitId "BaseException.__getattribute__" = some ("BaseException", "__getattribute__") := by decide +kernel
 have ha := F.args_bexc_ga (.ref e) (.str "__class__" tk)
 simp only [checkBuiltinCall, hk, hsp]
 have LI : PySem.W.Looks (model prog w) h0 (isInstance (.ref e) (.type "BaseException")) true := LT.andThen LB
 refine wpAny_bind (LI.at ?_)
 repeat (first | exact Zbi (s := ⟨h0, g0, d0, t0, o0⟩) X hx hc Z hq | assumption | wp_step)
theorem Zci {Q : Option Value → Shared → Prop} (X : K.In s.heap) (hx : s.heap.get? e = some o) (hc : o.cls = .ref C) (Z : ExcK K C) (hq : Q (some (.ref C)) { s with toks := s.toks + 1 }) :
  wpAny (model prog w) A (getAttr? (.ref e) "__class__") Q E s := by
 obtain ⟨h0, g0, d0, t0, o0⟩ := s
 have LT := Jy (M := model prog w) hx hc
 have L1 := PySem.W.looks_findIn (M := model prog w) X Z.ga
 have L2 := PySem.W.looks_findIn (M := model prog w) X Z.hook
 have f3 := F.attr_ValueError.ga.bind (.ref e)
 have hx2 : (Value.builtin "BaseException.__getattribute__" == Value.builtin "object.__getattribute__") = false := by decide +kernel
 have hx1 : (onTheHeap (Value.ref C) && Value.builtin "BaseException.__getattribute__" == Value.builtin "object.__getattribute__") = false := by rw [hx2]; rfl
 unfold getAttr? getAttrBy? getAttrBy
 refine wpAny_bind (wpAny_mkText (wpAny_bind (wpAny_attempt (wpAny_holding (wpAny_bind (LT.at (wpAny_bind (L1.at ?_))))))))
 repeat (any_goals (first | assumption | with_reducible refine L2.at ?_ | wp_step))
 refine Zch (s := ⟨h0, g0, d0, t0 + 1, o0⟩) X hx hc Z ?_
 repeat (any_goals (first | assumption | wp_step))
theorem Zb7 (Z : ExcK K C) : PySem.W.KitX K (.ref e) (.ref C) (fun h => ∃ o, h.get? e = some o ∧ o.cls = .ref C) where
 ty := fun M h _ ⟨o, hx, hc⟩ => Jy hx hc
 it := fun M h X _ => by
  obtain ⟨cd, hcd⟩ := Option.isSome_iff_exists.mp Z.cls
  unfold PySem.W.clsIn at hcd
  split at hcd
  ·rename_i lk
   intro A2 Q2 E2 s2 k q
   unfold isType loadHead
   exact wpAny_bind (wpAny_loadPart (k _ _ (X _ _ lk)) (wpAny_pure q))
  ·cases hcd
 ne := fun h tp dd its n sl X htp => by
  obtain ⟨cd, hcd⟩ := Option.isSome_iff_exists.mp Z.cls
  refine Bool.eq_false_iff.mpr fun q => ?_
  have z : C = tp := Value.ref.inj (beq_iff_eq.mp q)
  rw [← z] at htp
  unfold PySem.W.clsIn at hcd
  split at hcd
  ·rename_i lk
   have y := (X _ _ lk).symm.trans htp
   cases y
  ·cases hcd
 ca := fun X ⟨o, hx, hc⟩ k => Zci X hx hc Z k
end
section
variable {X : Cx}
theorem Zo : CallR X (.builtin "isinstance") (fun xs H Q => ∃ e C y c b, xs = [.ref e, y] ∧ H e = some (excO e C) ∧ ExcK X.K C ∧ (∀ u, RelV y u → u = c) ∧ PySem.W.kitOne X.K (.ref C) c = some b ∧ Q (.bl b) H) := by
 rintro pins s σ H vs us Q I r ⟨e, C, y, c, b, rfl, he, Z, hy, hk, q⟩
 cases r with
 | cons r1 r2 =>
  cases r2 with
  | cons r3 r4 =>
   cases r4
   rw [hy _ r3]
   rw [show _ = Value.ref e from r1]
   obtain ⟨p, _, _⟩ := (show ObjOk X.prog X.w H s.heap e (excO e C) from I.hok e _ he)
   exact PySem.W.kia_one (Zb7 Z) I.kIn p hk (fun z => nomatch z) fun tk => ⟨.bl b, H, I.tok _, rfl, q⟩
end
end L2
set_option Elab.async false
set_option linter.all false
set_option maxRecDepth 100000
namespace L2
open PySem PySem.Spec PyProof.Rows
abbrev Cx.hnd (X : Cx) (e : Value) : Cx := { X with A := X.A.mark (some e), calm := false, xe := fun _ _ => False }
section
variable {X : Cx} {pins : List (Addr × Obj)} {σ : St} {H H' : Hp} {s s' : Shared}
theorem Inv.hnd (I : Inv X pins σ H s) (e : Value) : Inv (X.hnd e) pins σ H s :=
 ⟨⟨I.ok.mod, I.ok.kind, I.ok.glob, I.ok.blt, I.ok.above, I.ok.inj, I.ok.has, I.ok.cab, fun h => Bool.noConfusion h, I.ok.frames, I.ok.stk, I.ok.exf, I.ok.bs, I.ok.bsz, I.ok.noex, I.ok.exfs, I.ok.funs, I.ok.frf⟩, I.os, I.bare, I.base, I.loc, I.cell, I.free, I.freeC, I.pin, I.hok, I.len⟩
theorem Inv.unhnd {e : Value} (I : Inv (X.hnd e) pins σ H s) (hd : X.calm = true → X.A.handled = none) : Inv X pins σ H s :=
 ⟨⟨I.ok.mod, I.ok.kind, I.ok.glob, I.ok.blt, I.ok.above, I.ok.inj, I.ok.has, I.ok.cab, hd, I.ok.frames, I.ok.stk, I.ok.exf, I.ok.bs, I.ok.bsz, I.ok.noex, I.ok.exfs, I.ok.funs, I.ok.frf⟩, I.os, I.bare, I.base, I.loc, I.cell, I.free, I.freeC, I.pin, I.hok, I.len⟩
theorem Inv.caught {e C : Addr} {B h' : Heap} {o : Obj} (I : Inv X pins σ H s) (un : Un (frs X.stack) [] H H' s.heap s'.heap) (os : s'.os = s.os) (bare : AllBare s'.gens) (hok : HOk X.prog X.w H' s'.heap)
  (cov : ∀ b o, s.heap.get? b = some o → b ∉ frs X.stack → ∃ u, B.get? b = some u) (covT : ∀ b o, H' b = some o → ∃ u, B.get? b = some u) (be : B.get? e = none) (k1 : B.StaysIn s'.heap) (k2 : B.StaysIn h') (up : s'.heap.UpToSlots h')
  (he : h'.get? e = some o) (hc : o.cls = .ref C) (hd : ∃ vs, o.data = .fields vs) : Inv X pins σ (upd H' e (excO e C)) { s' with heap := h' } ∧ H' e = none := by
 have n0 : H' e = none := by
  cases q : H' e with
  | none => rfl
  | some u =>
   obtain ⟨u', hu⟩ := covT e u q
   rw [be] at hu
   cases hu
 have slotF : ∀ b o, s.heap.get? b = some o → b ∈ frs X.stack → ∃ sl, h'.get? b = some { o with slots := sl } := fun b o hb hm => by
  obtain ⟨_, o', ho', nf⟩ := I.stack.mem hm
  rw [hb] at ho'
  cases ho'
  obtain ⟨sl1, e1⟩ := un.slot b o hb (I.stkFree b hm) hm (by simp)
  obtain ⟨sl2, e2⟩ := up b _ e1 nf
  exact ⟨sl2, e2⟩
 have nold : ∀ b u, s.heap.get? b = some u → b ≠ e := fun b u hb z => by
  rw [z] at hb
  by_cases hm : e ∈ frs X.stack
  ·obtain ⟨_, o', ho', nf⟩ := I.stack.mem hm
   rw [hb] at ho'
   cases ho'
   obtain ⟨sl, q⟩ := slotF e u hb hm
   rw [he] at q
   cases q
   obtain ⟨vs, hv⟩ := hd
   exact nf vs hv
  ·obtain ⟨u', hu⟩ := cov e u hb hm
   rw [be] at hu
   cases hu
 have keepB : ∀ b o u, s'.heap.get? b = some o → B.get? b = some u → h'.get? b = some o := fun b o u hb hu => by
  have e1 := k1 b u hu
  rw [hb] at e1
  cases e1
  exact k2 b _ hu
 refine ⟨I.call' (s' := { s' with heap := h' }) (ch := []) os ⟨fun b u hb hn hf _ => ?_, fun b u hb hn hm _ => slotF b u hb hm, fun b u hb hn _ => ?_, fun b u hb _ => ?_, fun b xs hb => ?_, fun b u v hb => ?_, fun b ps hb => ?_⟩ ?_ bare (fun b hb => absurd hb (by simp)), n0⟩
 ·have e1 := un.keep b u hb hn hf (by simp)
  obtain ⟨u', hu⟩ := cov b u hb hf
  exact keepB b u u' e1 hu
 ·rw [Zf (nold b u hb)]
  exact un.free b u hb hn (by simp)
 ·by_cases hm : b ∈ frs X.stack
  ·obtain ⟨sl, q⟩ := slotF b u hb hm
   exact ⟨_, q⟩
  ·obtain ⟨u', hu⟩ := cov b u hb hm
   exact ⟨u', k2 b u' hu⟩
 ·have q := un.tups b xs hb
  rw [Zf (Zd q n0)]
  exact q
 ·have q := un.frzs b u v hb
  rw [Zf (Zd q n0)]
  exact q
 ·obtain ⟨m, q⟩ := un.tbls b ps hb
  exact ⟨m, by rw [Zf (Zd q n0)]; exact q⟩
 ·intro b u hb
  by_cases hbe : b = e
  ·subst hbe
   rw [Zb] at hb
   cases hb
   refine ⟨⟨o, he, hc⟩, ⟨o, he⟩, fun h1 h2 p k => ?_⟩
   obtain ⟨o1, q1, q2⟩ := p
   exact ⟨o1, k _ q1, q2⟩
  ·rw [Zf hbe] at hb
   have x := YY hok covT k1 k2 b u hb
   refine x.stay (fun c w' hcc q => q) (fun c q => ?_) fun c xs q => ?_
   ·rw [Zf (Zd q n0)]; exact q
   ·rw [Zf (Zd q n0)]; exact q
end
def tTry (X : Cx) (ic ie : Nat) (cS : Addr) (k : Nat) (ts : TS) : TS := fun D σ H => ∃ f fd sp, σ[ic]? = some (some (.ref f)) ∧ (∀ s, HOk X.prog X.w H s → PySem.W.FnAt f s) ∧ FnOk X.prog X.w X.K X.mg X.base (CXR X.prog X.w) k f fd [] sp ∧ (∀ s, BindsTo s fd ⟨[], []⟩ []) ∧
 sp [] H (fun _ _ => False) fun ev c H' => ∃ e C, ev = .ref e ∧ c = some C ∧ PySem.W.exmOne X.K (.ref C) (.ref cS) = some true ∧ (H' e = none → ts { nx := fun σ' H2 => D.nx (σ'.set ie none) H2, rt := fun _ _ => False } (σ.set ie (some (.ref e))) (upd H' e (excO e C)))
theorem U3 {X : Cx} {ic ie k : Nat} {c n S : Str} {cS : Addr} {b0 : Stmt} {suite : List Stmt} {ts : TS} {p1 p2 p3 p4 p5 p6 : Pos} (hcm : X.calm = true) (hst : X.stack = X.env :: X.outer) (hfr : X.env.frame = some X.env.locals) (hN : X.N.Nodup) (hic : X.N[ic]? = some c) (hvc : Vis X.env.scope c)
  (hie : X.N[ie]? = some n) (hln : X.env.scope.names.lookup n = some .local) (hS : X.mg S = some (.ref cS)) (hgS : Gl X S) (hr : Room k X.A) (hsu : ∀ e, PSs (X.hnd (.ref e)) (b0 :: suite) ts)
  (hdc : (c == ("__debug__" : Str)) = false := by decide) (hdc2 : (c == ("__classdict__" : Str)) = false := by decide) (hdS : (S == ("__debug__" : Str)) = false := by decide)
  (hsw : swapsWith (.Call (.Name c p1) [] [] p2) none p3.line X.env = pure false := by rfl) :
  PS X (.Try [.Expr (.Call (.Name c p1) [] [] p2) p3] [.ExceptHandler (some (.Name S p4)) (some n) (b0 :: suite) p5] [] [] p6) (tTry X ic ie cS k ts) := by
 intro pins s σ H D I h
 obtain ⟨f, fd, sp, hσ, hfn, F, hb, hsp⟩ := h
 refine wpAny_Try_except ?_
 refine wpAny_execs_cons (wpAny_Expr_any ?_ I.quiet hsw)
 refine wpAny_Call_Name_kw ?_
 have nm := J9 (X := X.wish (fun _ _ => False)) (i := ic) (x := c) (pos := p1) hic hvc hdc hdc2 pins s σ H (fun v H2 => v = .ref f ∧ H2 = H) (I.wish _) ⟨_, hσ, rfl, rfl⟩
 refine wpAny_mono nm (fun u s1 h1 => ?_) (fun _ _ z => z.elim)
 obtain ⟨v, H1, I1, r1, rfl, rfl⟩ := h1
 have I1 := I1.unwish
 obtain rfl : u = Value.ref f := r1
 refine PySem.W.callWith_F0 (hfn _ I1.hok) ?_
 refine wpAny_call (codeAny_mono (F.run X.A X.stack s1 H1 ⟨[], []⟩ [] [] _ _ hr I1.env0 (hb s1) .nil hsp) fun r s2 hq => ?_)
 cases r with
 | ok fl =>
  cases fl with
  | ret u => obtain ⟨_, _, _, _, _, _, _, z⟩ := hq; exact z.elim
  | next => exact hq.elim
  | brk => exact hq.elim
  | cont => exact hq.elim
 | error ev =>
  obtain ⟨e, C, H2, rfl, FL, e', C', q1, q2, hx, hk⟩ := hq
  cases q1
  cases q2
  obtain ⟨B, a0, fl, cov, covT⟩ := FL.fly
  rw [hst] at fl
  show wpAny (model X.prog X.w) X.A (noteFrame (.ref e) X.env) _ X.xe s2
  have fr0 : X.A.frames = some (X.env :: X.outer) := by rw [← hst]; exact I.ok.frames
  refine wpAny_looks_onW (L := X.env.locals) fr0 hfr fl fun h4 held up4 => ?_
  refine wpAny_landsW held fun h5 fl5 up5 => ?_
  have at5 : ∃ o vs, h5.get? e = some o ∧ o.cls = .ref C ∧ o.data = .fields vs := by
   obtain ⟨oe, vs, g1, g2, g3, _⟩ := fl5.first
   exact ⟨oe, vs, g1, g2, g3⟩
  obtain ⟨o5, vs5, g51, g52, g53⟩ := at5
  have c5 := I1.caught (h' := h5) FL.un FL.os FL.bare FL.hok cov covT fl.2.1 fl.1 fl5.1 (up4.trans up5) g51 g52 ⟨_, g53⟩
  have I5 := c5.1.hnd (.ref e)
  refine wpAny_handleBy_cons (codeAny_handlers_test ?_) (by intro q; cases q)
  refine Ji (X := X.hnd (.ref e)) I5 hgS hS ?_ hdS
  have LX := PySem.W.exm_one (M := model X.prog X.w) (c := .ref cS) (e := e) I5.kIn (Jy g51 g52) hx
  refine LX.at ?_
  refine codeAny_handlers_suite_as ?_
  refine lands_againW (s := { s2 with heap := h5 }) fl5 fun h6 fl6 up6 => ?_
  obtain ⟨o6, vs6, g61, g62, g63, _⟩ := fl6.first
  obtain ⟨I6, n6⟩ := I1.caught (h' := h6) FL.un FL.os FL.bare FL.hok cov covT fl.2.1 fl.1 fl6.1 ((up4.trans up5).trans up6) g61 g62 ⟨_, g63⟩
  have I6 := I6.hnd (.ref e)
  have hts := hk n6
  refine Z3 (X := X.hnd (.ref e)) (i := ie) I6 hN hie (.inl hln) (v := .ref e) (u := .ref e) rfl (fun s7 I7 => ?_) (.inr hln)
  refine wpAny_mono (hsu e pins s7 _ _ _ I7 hts) (fun fl8 s8 h8 => ?_) fun _ _ z => z.elim
  cases fl8 with
  | ret u => obtain ⟨_, _, _, _, _, z⟩ := h8; exact z.elim
  | brk => obtain ⟨_, _, _, z⟩ := h8; exact z.elim
  | cont => obtain ⟨_, _, _, z⟩ := h8; exact z.elim
  | next =>
   obtain ⟨σ8, H8, I8, q8⟩ := h8
   have I8 := I8.unhnd (fun z => I.ok.hd z)
   obtain ⟨m8, hn8, hl8⟩ := I8.loc
   have hcls : (X.env.scope.kind == .class || (X.env.scope.kind == .module && X.env.locals != X.env.globals)) = false := by rw [I8.ok.kind]; rfl
   refine wpAny_nameGoes_keeps hln hn8 hcls fun h9 v9 hn9 hs9 => ?_
   have st := Z3 (M := model X.prog X.w) (A := X.A) (E := fun _ _ => False) (X := X) (i := ie) I8 hN hie (.inl hln) (v := .non) (u := .none) rfl (Q := fun _ _ => True) (fun _ _ => trivial) (.inr hln)
   refine ⟨σ8.set ie none, H8, ?_, q8⟩
   have hlt : ie < σ8.length := by rw [I8.len]; exact (List.getElem?_eq_some_iff.mp hie).1
   obtain ⟨oL, _, _, hoL, _⟩ := id hn8
   have cne := I8.cne
   refine ⟨I8.ok, I8.os, I8.bare, ⟨fun b o eb nb hb hx => ?_, fun b o eb nb hb hx => ?_, I8.base.free, fun b o eb hx => ?_, I8.base.tups, I8.base.frzs, I8.base.tbls⟩, ⟨_, hn9, fun j y v' e1 e2 e3 => ?_⟩, fun y cc ec => ?_, I8.free, I8.freeC, fun p hp => ?_, fun b ob eb => ?_, by simpa using I8.len⟩
   ·exact (hs9.2 b (Nat.ne_of_lt (Nat.lt_of_lt_of_le (Heap.lt_size eb) I8.ok.above))).trans (I8.base.keep b o eb nb hb hx)
   ·obtain ⟨sl, q⟩ := I8.base.slot b o eb nb hb hx
    exact ⟨sl, (hs9.2 b (Nat.ne_of_lt (Nat.lt_of_lt_of_le (Heap.lt_size eb) I8.ok.above))).trans q⟩
   ·obtain ⟨o', q⟩ := I8.base.there b o eb hx
    exact ⟨o', (hs9.2 b (Nat.ne_of_lt (Nat.lt_of_lt_of_le (Heap.lt_size eb) I8.ok.above))).trans q⟩
   ·by_cases hj : j = ie
    ·subst hj
     rw [List.getElem?_set_self hlt] at e2
     cases e2
    ·rw [List.getElem?_set_ne (Ne.symm hj)] at e2
     obtain ⟨u', r', q⟩ := hl8 j y v' e1 e2 e3
     refine ⟨u', r', ?_⟩
     rcases q with ⟨kk, q⟩ | ⟨kk, c', ec, z⟩
     ·refine .inl ⟨kk, ?_⟩
      have ne : y ≠ n := fun z => hj (Wd hN e1 (z ▸ hie))
      simp [ne, q]
     ·exact .inr ⟨kk, c', ec, z.sameBut hs9 (cne y c' ec)⟩
   ·obtain ⟨w', z⟩ := I8.cell y cc ec
    exact ⟨w', z.sameBut hs9 (cne y cc ec)⟩
   ·obtain ⟨e1, n1, ne1, nf1, d1⟩ := I8.pin p hp
    exact ⟨(hs9.2 p.1 ne1).trans e1, n1, ne1, nf1, d1⟩
   ·refine (I8.hok b ob eb).stay (fun cc w' hcc q => (hs9.2 cc ?_).trans q) (fun _ q => q) fun _ _ q => q
    rintro rfl
    rcases hcc with rfl | hcc
    ·rw [I8.free] at eb; cases eb
    ·rw [I8.free] at hcc; cases hcc
end L2
set_option Elab.async false
set_option linter.all false
set_option maxRecDepth 100000
namespace L2
open PySem PySem.Spec PyProof.Rows
def codeO (c : Addr) (q : Str) : HO := .ext fun h => h.CodeRec (.ref c) q
def lamO (f : Addr) (q : Str) (params : Arguments) (body : Expr) (scope : Scope) (cl : List (Str × Addr)) (pm : Value) (c : Addr) (ct : Value) : HO := .ext fun h => h.get? f = some (PySem.W.kla_obj "<lambda>" q params body scope cl pm c ct)
def LamAt (H : Hp) (f : Addr) (q : Str) (params : Arguments) (body : Expr) (scope : Scope) (cl : List (Str × Addr)) : Prop := ∃ pm c ct, H f = some (lamO f q params body scope cl pm c ct) ∧ H c = some (codeO c q)
def TabOk (H : Hp) (q : Str) (ps : Array Value) : Prop := TriplesOk ps.toList ∧ ∀ pos cv, codeAmong pos ps.toList = some cv → ∃ c, cv = .ref c ∧ H c = some (codeO c q)
def TabAt (H : Hp) (P : Addr) (q : Str) : Prop := ∃ ps, H P = some (.tbl ps) ∧ TabOk H q ps
theorem Jn {h h' : Heap} {c : Addr} {q : Str} (x : h.CodeRec (.ref c) q) (k : ∀ o, h.get? c = some o → h'.get? c = some o) : h'.CodeRec (.ref c) q := by
 obtain ⟨c2, oc, vs, tq, e, g1, g2, g3⟩ := x
 cases e
 exact ⟨c, oc, vs, tq, rfl, k _ g1, g2, g3⟩
theorem Zcr {P : Program} {w : World} {H : Hp} {h : Heap} {c : Addr} {q : Str} (x : h.CodeRec (.ref c) q) : ObjOk P w H h c (codeO c q) := by
 obtain ⟨c2, oc, vs, tq, e, g1, g2, g3⟩ := id x
 cases e
 exact ⟨x, ⟨_, g1⟩, fun h1 h2 p k => Jn p k⟩
theorem ZaB {P : Program} {w : World} {H : Hp} {h : Heap} {f : Addr} {q : Str} {params : Arguments} {body : Expr} {scope : Scope} {cl : List (Str × Addr)} {pm : Value} {c : Addr} {ct : Value} (x : h.get? f = some (PySem.W.kla_obj "<lambda>" q params body scope cl pm c ct)) :
  ObjOk P w H h f (lamO f q params body scope cl pm c ct) := ⟨x, ⟨_, x⟩, fun h1 h2 p k => k _ p⟩
theorem Wr {pos p2 : Pos} {c cv : Value} : ∀ (l : List Value), TriplesOk l → codeAmong p2 (l ++ [rawInt pos.line, rawInt pos.col, c]) = some cv → codeAmong p2 l = some cv ∨ cv = c
 | [], _, h => by
  have h' : (if (pos.line : Int) == (p2.line : Int) && (pos.col : Int) == (p2.col : Int) then some c else codeAmong p2 []) = some cv := h
  split at h'
  ·exact .inr (Option.some.inj h').symm
  ·cases h'
 | .int a t :: .int b u :: x :: r, ht, h => by
  have h' : (if a == p2.line && b == p2.col then some x else codeAmong p2 (r ++ [rawInt pos.line, rawInt pos.col, c])) = some cv := h
  show (if a == p2.line && b == p2.col then some x else codeAmong p2 r) = some cv ∨ cv = c
  split at h'
  ·rename_i hq
   rw [if_pos hq]
   exact .inl h'
  ·rename_i hq
   rw [if_neg hq]
   exact Wr r ht h'
theorem Ja {pos : Pos} {c : Value} : ∀ (l : List Value), TriplesOk l → TriplesOk (l ++ [rawInt pos.line, rawInt pos.col, c])
 | [], _ => trivial
 | .int _ _ :: .int _ _ :: _ :: r, h => Ja r h
structure LamX (X : Cx) (c P : Addr) : Prop where
 code : X.env.code = .ref c
 hd : PySem.W.CodeHd X.base c P
 bm : ∃ bm ob, X.mg "__builtins__" = some (.ref bm) ∧ bm ≠ builtinsNs ∧ X.base.get? bm = some ob ∧ ob.cls = .type "module" ∧ ob.dict = some builtinsNs ∧ ob.data = .plain
def tLam (X : Cx) (P : Addr) (params : Arguments) (body : Expr) (scope : Scope) : TE := fun σ H Q => TabAt H P (X.env.qual ++ "<lambda>") ∧ ∀ f H', SameX P H H' → H f = none → TabAt H' P (X.env.qual ++ "<lambda>") → LamAt H' f (X.env.qual ++ "<lambda>") params body scope (clOf scope X.env) → Q (.ref f) H'
theorem Zds {X : Cx} {c P : Addr} {params : Arguments} {body : Expr} {scope : Scope} {pos : Pos} (L : LamX X c P) (hdef : defaultsOf params X.env = ([], [])) (hfr : ∀ y ∈ scope.names, y.2 = .free → X.env.kindOf y.1 = some .cell ∨ X.env.kindOf y.1 = some .free) :
  PE X (.Lambda params body scope pos) (tLam X P params body scope) := by
 intro pins s σ H Q I h
 obtain ⟨⟨ps, hP, hT, hC⟩, q⟩ := h
 have oP : s.heap.get? P = some (PySem.W.tabObj ps) := I.hok P _ hP
 have hcl := Yv (scope := scope) (env := X.env) fun y hy e => I.ok.has _ (hfr y hy e)
 have gns : s.heap.Ns mainGlobals X.mg := I.mod.glob.keeps I.bk
 obtain ⟨bm, ob, b1, b2, b3, b4, b5, b6⟩ := L.bm
 have hgP : mainGlobals ≠ P := fun z => by
  obtain ⟨o, es, ep, e, d, _⟩ := gns
  rw [z, oP] at e
  cases e
  cases d
 have hbP : bm ≠ P := fun z => by
  have e := I.bk _ _ b3
  rw [z, oP] at e
  cases e
  cases b4
 have hbG : bm ≠ mainGlobals := fun z => by
  obtain ⟨o, es, ep, e, d, _⟩ := gns
  have e2 := I.bk _ _ b3
  rw [z, e] at e2
  cases e2
  rw [d] at b6
  cases b6
 have BA : s.heap.BuiltinsAt X.mg P := ⟨bm, ob, b1, b2, hbG, hbP, I.bk _ _ b3, b4, b5, b6⟩
 refine PySem.W.kla_eval hdef ?_
 cases hf : codeAmong pos ps.toList with
 | some cv =>
  obtain ⟨c', rfl, hc'⟩ := hC pos cv hf
  refine PySem.W.kla_makeFunctionHit hcl I.ok.glob gns L.code (L.hd.keeps I.bk) oP hT hf BA fun ctv h' tk hk hsz => ?_
  have nf : H h'.objs.size = none := I.hok.fresh hsz
  have s1 : Same H (upd H h'.objs.size (lamO h'.objs.size (X.env.qual ++ "<lambda>") params body scope (clOf scope X.env) ((X.mg "__name__").getD .none) c' ctv)) := fun b o hb => by rw [Zf (Zd hb nf)]; exact hb
  refine ⟨.ref h'.objs.size, _, I.laid (t' := tk) (a := h'.objs.size) (fun b u e => Heap.get?_push_of_some _ (hk b u e)) hsz (ZaB (Heap.get?_push_size _ rfl)), rfl, ?_⟩
  exact q _ _ (fun b o hb _ => s1 b o hb) nf ⟨ps, s1 _ _ hP, hT, fun p2 cv2 z => by obtain ⟨c2, e2, h2⟩ := hC p2 cv2 z; exact ⟨c2, e2, s1 _ _ h2⟩⟩ ⟨_, c', ctv, Zb, s1 _ _ hc'⟩
 | none =>
  refine PySem.W.kla_makeFunction hcl I.ok.glob gns L.code (L.hd.keeps I.bk) oP hT hf hgP BA fun c' ctv h' tk hx hge hlt hrec htb => ?_
  have lt0 : ∀ b o, s.heap.get? b = some o → b < c' := fun b o e => Nat.lt_of_lt_of_le (Heap.lt_size e) hge
  have ltH : ∀ b o, H b = some o → b < c' := fun b o e => Nat.lt_of_lt_of_le (I.hok.lt e) hge
  have nc : H c' = none := I.hok.fresh hge
  have nf : H h'.objs.size = none := I.hok.fresh (Nat.le_trans hge (Nat.le_of_lt hlt))
  have pne : P ≠ c' := Zd hP nc
  have pnf : P ≠ h'.objs.size := Zd hP nf
  have cnf : c' ≠ h'.objs.size := Nat.ne_of_lt hlt
  generalize hfo : h'.objs.size = f at nf pnf cnf
  generalize hps : ps ++ #[rawInt pos.line, rawInt pos.col, Value.ref c'] = ps2 at htb
  generalize hlo : lamO f (X.env.qual ++ "<lambda>") params body scope (clOf scope X.env) ((X.mg "__name__").getD .none) c' ctv = lo
  have keep : ∀ b o, b ≠ P → s.heap.get? b = some o → (h'.push (PySem.W.kla_obj "<lambda>" (X.env.qual ++ "<lambda>") params body scope (clOf scope X.env) ((X.mg "__name__").getD .none) c' ctv)).get? b = some o := fun b o hb e => Heap.get?_push_of_some _ (hx b o hb e)
  have at1 : ∀ b o, H b = some o → b ≠ P → upd (upd (upd H P (.tbl ps2)) c' (codeO c' (X.env.qual ++ "<lambda>"))) f lo b = some o := fun b o hb hne => by
   rw [Zf (Zd hb nf), Zf (Zd hb nc), Zf hne]
   exact hb
  have atP : upd (upd (upd H P (.tbl ps2)) c' (codeO c' (X.env.qual ++ "<lambda>"))) f lo P = some (.tbl ps2) := by rw [Zf pnf, Zf pne, Zb]
  have atC : upd (upd (upd H P (.tbl ps2)) c' (codeO c' (X.env.qual ++ "<lambda>"))) f lo c' = some (codeO c' (X.env.qual ++ "<lambda>")) := by rw [Zf cnf, Zb]
  have atF : upd (upd (upd H P (.tbl ps2)) c' (codeO c' (X.env.qual ++ "<lambda>"))) f lo f = some lo := Zb
  have J : Inv X pins σ (upd (upd (upd H P (.tbl ps2)) c' (codeO c' (X.env.qual ++ "<lambda>"))) f lo) { s with heap := h'.push (PySem.W.kla_obj "<lambda>" (X.env.qual ++ "<lambda>") params body scope (clOf scope X.env) ((X.mg "__name__").getD .none) c' ctv), toks := tk } := by
   refine I.un (t' := tk) ⟨fun b o e n _ _ => keep b o (fun z => by rw [z, hP] at n; cases n) e, fun b o e n _ _ => ⟨o.slots, keep b o (fun z => by rw [z, hP] at n; cases n) e⟩, fun b o e n _ => ?_, fun b o e _ => ?_, fun b xs e => at1 b _ e (fun z => by rw [z, hP] at e; cases e), fun b o u e => at1 b _ e (fun z => by rw [z, hP] at e; cases e), fun b qs e => ?_⟩ ?_
   ·have hl := lt0 b o e
    rw [Zf (by rw [← hfo]; exact Nat.ne_of_lt (Nat.lt_trans hl hlt)), Zf (Nat.ne_of_lt hl), Zf (fun z => by rw [z, hP] at n; cases n)]
    exact n
   ·by_cases hb : b = P
    ·rw [hb]; exact ⟨_, Heap.get?_push_of_some _ htb⟩
    ·exact ⟨o, keep b o hb e⟩
   ·by_cases hb : b = P
    ·rw [hb, hP] at e
     cases e
     exact ⟨_, by rw [hb, atP, hps]⟩
    ·exact ⟨#[], by rw [at1 b _ e hb]; simp⟩
   ·intro b o hb
    by_cases h1 : b = f
    ·rw [h1, atF] at hb
     cases hb
     rw [h1, ← hlo]
     refine ZaB ?_
     rw [← hfo]
     exact Heap.get?_push_size _ rfl
    ·by_cases h2 : b = c'
     ·rw [h2, atC] at hb
      cases hb
      rw [h2]
      exact Zcr (Jn hrec fun o e => Heap.get?_push_of_some _ e)
     ·by_cases h3 : b = P
      ·rw [h3, atP] at hb
       cases hb
       rw [h3]
       exact Heap.get?_push_of_some _ htb
      ·have hb' : H b = some o := by rw [Zf h1, Zf h2, Zf h3] at hb; exact hb
       refine (I.hok b o hb').stay (fun z u hz e => keep z u ?_ e) (fun z e => ?_) fun z xs e => ?_
       ·rcases hz with hz | hz
        ·rw [hz]; exact h3
        ·intro hz2; rw [hz2, hP] at hz; cases hz
       ·exact at1 z _ e fun hz2 => by rw [hz2, hP] at e; cases e
       ·exact at1 z _ e fun hz2 => by rw [hz2, hP] at e; cases e
  refine ⟨.ref f, _, J, rfl, ?_⟩
  refine q f _ (fun b o hb hne => at1 b o hb hne) nf ⟨ps2, atP, ?_, fun p2 cv2 z => ?_⟩ ⟨_, c', ctv, by rw [atF, ← hlo], atC⟩
  ·rw [← hps, Array.toList_append]
   exact Ja _ hT
  ·rw [← hps, Array.toList_append] at z
   rcases Wr _ hT z with z | z
   ·obtain ⟨c2, e2, h2⟩ := hC p2 cv2 z
    exact ⟨c2, e2, at1 _ _ h2 fun hz2 => by rw [hz2, hP] at h2; cases h2⟩
   ·exact ⟨c', z, atC⟩
end L2
set_option Elab.async false
set_option linter.all false
set_option maxRecDepth 100000
namespace L2
open PySem PySem.Spec PyProof.Rows
theorem passR' {X : Cx} {E : XK} (hxe : ∀ e s', wpAny (model X.prog X.w) X.A (leaving X.env e) (fun _ s'' => CXR X.prog X.w X.outer X.H₀ X.s₀ E e s'') (fun e' s'' => CXR X.prog X.w X.outer X.H₀ X.s₀ E e' s'') s' → X.xe e s')
  (hst : X.stack = X.env :: X.outer) (hfr : X.env.frame = some X.env.locals) (hex : X.ex = []) : Passes (CXR X.prog X.w) X E := by
 intro pins σ H1 s1 ev s2 I h
 obtain ⟨e, C, H', rfl, F, hE⟩ := h
 obtain ⟨B, a0, fl, cov, covT⟩ := F.fly
 have un := F.un
 rw [hst] at fl cov un
 have ib : Un (frs X.outer) [] X.H₀ H1 X.s₀.heap s1.heap := by have := I.base; rw [hex] at this; exact this
 have fr0 : X.A.frames = some (X.env :: X.outer) := by rw [← hst]; exact I.ok.frames
 refine hxe _ _ (wpAny_leaves_onW (L := X.env.locals) fr0 hfr fl fun h' fl' up => ?_)
 refine ⟨e, C, H', rfl, ⟨F.os.trans I.os, F.bare, JS (base := X.base) (L := X.env.locals) ib un hfr I.ok.above I.ok.funs I.ok.frf cov fl.1 fl'.1 up, YY F.hok covT fl.1 fl'.1, B, a0, fl', fun b o hb hn => ?_, covT⟩, hE⟩
 obtain ⟨o1, e1⟩ := ib.there b o hb (by simp)
 refine cov b o1 e1 fun hm => ?_
 have hm' : b ∈ (X.env :: X.outer).filterMap (·.frame) := hm
 rw [List.filterMap_cons_some (f := fun (x : Env) => x.frame) (a := X.env) (b := X.env.locals) hfr] at hm'
 rcases List.mem_cons.mp hm' with q | q
 ·rw [q] at hb
  exact absurd (Nat.lt_of_lt_of_le (Heap.lt_size hb) I.ok.above) (Nat.lt_irrefl _)
 ·exact hn q
def cxL (P : Program) (w : World) (K : PySem.W.Frag) (mg : Str → Option Value) (base : Heap) (N : List Str) (q : Str) (scope : Scope) (f : Addr) (cd : Value) (cl : List (Str × Addr)) (A : Around) (outer : List Env) (s : Shared) (H : Hp) (E : XK) : Cx where
 prog := P
 w := w
 K := K
 mg := mg
 base := base
 A := A.deeper (PySem.W.envX q scope s.heap.objs.size f cd cl)
 N := N
 s₀ := s
 H₀ := H
 env := PySem.W.envX q scope s.heap.objs.size f cd cl
 outer := outer
 stack := PySem.W.envX q scope s.heap.objs.size f cd cl :: outer
 ex := []
 calm := true
 fn := fun _ => false
 pn := []
 xe := fun e s' => wpAny (model P w) (A.deeper (PySem.W.envX q scope s.heap.objs.size f cd cl)) (leaving (PySem.W.envX q scope s.heap.objs.size f cd cl) e) (fun _ s'' => CXR P w outer H s E e s'') (fun e' s'' => CXR P w outer H s E e' s'') s'
structure Two (base : Heap) (scope : Scope) (cl : List (Str × Addr)) (x y : Str) (vx vy : V) : Prop where
 kx : scope.names.lookup x = some .free
 ky : scope.names.lookup y = some .free
 only : ∀ z, scope.names.lookup z = some .cell ∨ scope.names.lookup z = some .free → z = x ∨ z = y
 ne : x ≠ y
 cx : ∃ c u, cl.lookup x = some c ∧ base.IsCell c (some u) ∧ RelV vx u
 cy : ∃ c u, cl.lookup y = some c ∧ base.IsCell c (some u) ∧ RelV vy u
 mem : ∀ z c, cl.lookup z = some c → z = x ∨ z = y
 inj : ∀ c, cl.lookup x = some c → cl.lookup y = some c → False
theorem Jm {h b1 b2 : Heap} : ∀ {l : List Env}, h.FunFrames b1 l → (∀ b ∈ frs l, b2.get? b = none) → h.FunFrames b2 l
 | [], _, _ => trivial
 | env :: r, ⟨hk, ⟨L, o, hf, _, ho, hd⟩, hr⟩, hn => ⟨hk, ⟨L, o, hf, hn L (List.mem_filterMap.mpr ⟨env, .head _, hf⟩), ho, hd⟩, Jm hr fun b hb => hn b (by
   obtain ⟨e, he, q⟩ := List.mem_filterMap.mp hb
   exact List.mem_filterMap.mpr ⟨e, .tail _ he, q⟩)⟩
theorem Inv.rebase {X : Cx} {pins : List (Addr × Obj)} {σ : St} {H : Hp} {s : Shared} (I : Inv X pins σ H s) :
  ∃ base', X.base.StaysIn base' ∧ Env0 X.prog X.w X.K X.mg base' X.A X.stack s H ∧ ∀ b o, s.heap.get? b = some o → H b = none → b ∉ frs X.stack → base'.get? b = some o := by
 have cov : ∀ b o, s.heap.get? b = some o → H b = none → b ∉ frs X.stack → (PySem.W.hideAll (hidT s.heap H) (frs X.stack)).get? b = some o := fun b o e n hf => PySem.W.hideAll_get _ (UJ e n) hf
 have st : X.base.StaysIn (PySem.W.hideAll (hidT s.heap H) (frs X.stack)) := fun b o e => cov b o (I.bs b o e).1 (I.bs b o e).2 fun hm => by
  have := (I.stack.mem hm).1
  rw [e] at this
  cases this
 refine ⟨_, st, ⟨I.ok.frames, ⟨I.mod.kin.keeps st, I.mod.glob.keeps st, ?_, I.mod.nolimit.keeps st⟩, fun b o e => Zaz (PySem.W.of_hideAll _ e), ?_, Jm I.stack fun b hb => PySem.W.hideAll_none _ hb, I.stkFree, I.hok, I.bare⟩, cov⟩
 ·obtain ⟨mb, h1, h2⟩ := I.mod.blt
  exact ⟨mb, h1.keeps st, h2⟩
 ·rw [PySem.W.hideAll_size, WP]
  exact Nat.le_refl _
end L2
set_option Elab.async false
set_option linter.all false
set_option maxRecDepth 100000
namespace L2
open PySem PySem.Spec PyProof.Rows
def constV : Const → Option V
 | .int n => some (.int n)
 | .bool b => some (.bl b)
 | .str x => some (.str x)
 | .none => some .non
 | _ => none
def scOf : Expr → Option V
 | .Constant c _ _ => constV c
 | .UnaryOp .USub (.Constant (.int n) _ _) _ => some (.int (-n))
 | .BinOp (.Constant (.int a) _ _) .Pow (.Constant (.int b) _ _) _ => if 0 ≤ b ∧ b ≤ 1000000 ∧ a.natAbs < 2 ^ 64 then some (.int (a ^ b.toNat)) else none
 | _ => none
def scsOf : List Expr → Option (List V)
 | [] => some []
 | e :: r => match scOf e, scsOf r with
  | some v, some vs => some (v :: vs)
  | _, _ => none
inductive Lit where
 | sc (v : V)
 | tup (xs : List V)
 | lst (xs : List V)
 | dct
def LitAt (H : Hp) (v : V) : Lit → Prop
 | .sc u => v = u
 | .tup xs => ∃ a : Addr, v = .ref a ∧ H a = some (.tup xs)
 | .lst xs => ∃ a : Addr, v = .ref a ∧ H a = some (.lst xs)
 | .dct => ∃ a : Addr, v = .ref a ∧ H a = some (.dK [])
theorem LitAt.same {H H' : Hp} {v : V} : ∀ {l : Lit}, LitAt H v l → Same H H' → LitAt H' v l
 | .sc _, h, _ => h
 | .tup _, ⟨a, e, h⟩, s => ⟨a, e, s _ _ h⟩
 | .lst _, ⟨a, e, h⟩, s => ⟨a, e, s _ _ h⟩
 | .dct, ⟨a, e, h⟩, s => ⟨a, e, s _ _ h⟩
def litOf : Expr → Option Lit
 | .Tuple es _ _ => match scsOf es with
  | some xs => if xs.length ≤ 1000 then some (.tup xs) else none
  | none => none
 | .List es _ => match scsOf es with
  | some xs => if xs.length ≤ 1000 then some (.lst xs) else none
  | none => none
 | .Dict [] [] _ => some .dct
 | e => (scOf e).map .sc
def litsOf : List Expr → Option (List Lit)
 | [] => some []
 | e :: r => match litOf e, litsOf r with
  | some v, some vs => some (v :: vs)
  | _, _ => none
section
variable {X : Cx}
theorem Zdd {e : Expr} {v : V} (h : scOf e = some v) : PE X e (tC v) ∧ (∀ es, starEach (e :: es) X.env = (false, eval e X.env) :: starEach es X.env) ∧ ∀ a : Addr, v ≠ .ref a := by
 unfold scOf at h
 split at h
 ·rename_i c j p
  cases c with
  | int n => cases h; exact ⟨Zi, fun _ => rfl, fun a z => by cases z⟩
  | bool b => cases h; exact ⟨WH, fun _ => rfl, fun a z => by cases z⟩
  | str x => cases h; exact ⟨W2, fun _ => rfl, fun a z => by cases z⟩
  | none => cases h; exact ⟨Ys, fun _ => rfl, fun a z => by cases z⟩
  | _ => cases h
 ·cases h
  refine ⟨fun pins s σ H Q I q => ZbF UW Zi pins s σ H Q I ⟨_, rfl, q⟩, fun _ => rfl, fun a z => by cases z⟩
 ·split at h
  ·rename_i hc
   cases h
   refine ⟨fun pins s σ H Q I q => Zp ZbK Zi Zi pins s σ H Q I ⟨_, _, rfl, rfl, hc, q⟩, fun _ => rfl, fun a z => by cases z⟩
  ·cases h
 ·cases h
theorem U8 : ∀ {es : List Expr} {vs : List V}, scsOf es = some vs → PA X es (fun _ H Q => Q vs H)
 | [], vs, h => by cases h; exact Zc
 | e :: r, vs, h => by
  unfold scsOf at h
  split at h
  ·rename_i v ws h1 h2
   cases h
   obtain ⟨p1, p2, _⟩ := Zdd (X := X) h1
   exact fun pos pins s σ H Q I q => Za p1 (U8 h2) (p2 r) pos pins s σ H Q I q
  ·cases h
theorem Zdr {e : Expr} {l : Lit} (h : litOf e = some l) : PE X e (fun _ H Q => ∀ v H', Same H H' → LitAt H' v l → (∀ a : Addr, v = .ref a → H a = none) → Q v H') ∧ ∀ es, starEach (e :: es) X.env = (false, eval e X.env) :: starEach es X.env := by
 unfold litOf at h
 split at h
 ·split at h
  ·rename_i xs hx
   split at h
   ·rename_i hl
    cases h
    refine ⟨fun pins s σ H Q I q => Zv (U8 hx) pins s σ H Q I ⟨Nat.le_of_lt (small1000 hl), fun p hp => q _ _ (fun b o hb => by rw [Zf (Zd hb hp)]; exact hb) ⟨p, rfl, Zb⟩ fun a z => by cases z; exact hp⟩, fun _ => rfl⟩
   ·cases h
  ·cases h
 ·split at h
  ·rename_i xs hx
   split at h
   ·rename_i hl
    cases h
    refine ⟨fun pins s σ H Q I q => ZD (U8 hx) pins s σ H Q I ⟨Nat.le_of_lt (small1000 hl), fun p hp => q _ _ (fun b o hb => by rw [Zf (Zd hb hp)]; exact hb) ⟨p, rfl, Zb⟩ fun a z => by cases z; exact hp⟩, fun _ => rfl⟩
   ·cases h
  ·cases h
 ·cases h
  exact ⟨fun pins s σ H Q I q => Uv pins s σ H Q I fun p hp => q _ _ (fun b o hb => by rw [Zf (Zd hb hp)]; exact hb) ⟨p, rfl, Zb⟩ fun a z => by cases z; exact hp, fun _ => rfl⟩
 ·rename_i x0 h1 h2 h3
  cases hs : scOf e with
  | none => rw [hs] at h; cases h
  | some v =>
   rw [hs] at h
   cases h
   obtain ⟨p1, p2, p3⟩ := Zdd (X := X) hs
   exact ⟨fun pins s σ H Q I q => p1 pins s σ H Q I (q v H (Same.refl H) rfl fun a z => absurd z (p3 a)), p2⟩
theorem Je : ∀ {es : List Expr} {ls : List Lit}, litsOf es = some ls → PA X es (fun _ H Q => ∀ vs H', Same H H' → Paired (LitAt H') vs ls → (∀ a, V.ref a ∈ vs → H a = none) → Q vs H')
 | [], ls, h => by cases h; exact fun pos pins s σ H Q I q => Zc pos pins s σ H Q I (q [] H (Same.refl H) .nil fun a z => nomatch z)
 | e :: r, ls, h => by
  unfold litsOf at h
  split at h
  ·rename_i v ws h1 h2
   cases h
   obtain ⟨p1, p2⟩ := Zdr (X := X) h1
   exact fun pos pins s σ H Q I q => Za p1 (Je h2) (p2 r) pos pins s σ H Q I fun v1 H1 s1 l1 n1 vs H2 s2 pr n2 => q (v1 :: vs) H2 (s1.trans s2) (.cons (l1.same s2) pr) fun a z => by
    rcases List.mem_cons.mp z with z | z
    ·exact n1 a z.symm
    ·exact s1.free (n2 a z)
  ·cases h
end
end L2
set_option Elab.async false
set_option linter.all false
set_option maxRecDepth 100000
namespace L2
open PySem PySem.Spec PyProof.Rows
theorem WD (n l1 l2 : Nat) (h1 : l1 < n) (h2 : l2 < n) : ZipApart (n + 4) (n + 2) (n + 3) n (n + 1) l1 l2 := by
 constructor <;> intro z <;> refine absurd (show @Eq Nat _ _ from z) ?_ <;> omega
end L2
set_option Elab.async false
set_option linter.all false
set_option maxRecDepth 100000
namespace L2
open PySem PySem.Spec PyProof.Rows SeqAt
def idxBody (items : Array Value) (x : Value) (i : Nat) (_ : Option PySem.Fin × Unit) : Sem (ForInStep (Option PySem.Fin × Unit)) :=
 match items[i]? with
 | some y => (do
  let b ← eqBool y x
  if b = true then (do let v ← retInt (i : Int); pure (ForInStep.done (some v, ()))) else pure (ForInStep.yield (none, ())))
 | _ => pure (ForInStep.yield (none, ()))
theorem UI {prog : Program} {w : World} {A : Around} {E : Value → Shared → Prop} {s : Shared} {items : Array Value} {x : Value} {e : Value → Bool} {j : Nat} {Q : Option PySem.Fin × Unit → Shared → Prop} (hj : j < items.size) (hit : e items[j] = true) (hno : ∀ m (hm : m < items.size), m < j → e items[m] = false)
  (he : ∀ y, y ∈ items → EqAt A s y x (e y)) (h : Q (some (.done (.ret (.int j s.toks))), ()) { s with toks := s.toks + 1 }) :
  ∀ k i, i + k = items.size → i ≤ j → wpAny (model prog w) A (forIn (List.range' i k) ((none : Option PySem.Fin), ()) (idxBody items x)) Q E s
 | 0, i, hk, hi => by omega
 | k + 1, i, hk, hi => by
  have hlt : i < items.size := by omega
  rw [List.range'_succ, List.forIn_cons]
  refine wpAny_bind ?_
  unfold idxBody
  rw [Array.getElem?_eq_getElem hlt]
  refine wpAny_bind (he _ (Array.getElem_mem hlt) prog w _ _ ?_)
  by_cases hij : i = j
  ·subst hij
   rw [hit, if_pos rfl]
   refine wpAny_bind ?_
   wp_walk
   exact h
  ·rw [hno i hlt (by omega), if_neg Bool.false_ne_true]
   refine wpAny_pure ?_
   exact UI hj hit hno he h k (i + 1) (by omega) (by omega)
theorem Wv (l : Addr) (items : Array Value) (n : Nat) (dd : Option Addr) (sl : Array (Option Value)) (x : Value) (e : Value → Bool) (j : Nat) (hj : j < items.size) (hit : e items[j] = true) (hno : ∀ m (hm : m < items.size), m < j → e items[m] = false) :
  Meets (Builtin.«tuple.index» ⟨[.ref l, x], []⟩)
   (fun A R s => s.heap.get? l = some { cls := .type "tuple", dict := dd, data := .seq items n, slots := sl } ∧ (∀ y, y ∈ items → EqAt A.in1 s y x (e y)) ∧ R (.ok (.ret (.int j s.toks))) { s with toks := s.toks + 1 }) :=
 .of_wp fun prog w A R s h => by
  obtain ⟨hp, g, d, tk, os⟩ := s; obtain ⟨hl, he, h⟩ := h
  wp_walk using AutoSeq1.wpAny_loadPart' hl
  show wpAny (model prog w) A.in1 (forIn (m := Sem) [:min items.size items.size] ((none : Option PySem.Fin), ()) (idxBody items x)) _ _ _
  rw [Std.Legacy.Range.forIn_eq_forIn_range']
  refine UI hj hit hno he ?_ _ _ (by simp [Std.Legacy.Range.size]) (Nat.zero_le _)
  exact wpAny_pure ⟨_, rfl, h⟩
def rTIdx (K : PySem.W.Frag) : V → List V → Hp → VK → Prop := fun v vs H Q => ∃ (a : Addr) (xs : List V) (x : V) (j : Nat), v = .ref a ∧ vs = [x] ∧ SqT K H a xs ∧ flatV x = true ∧ xs.all flatV = true ∧ (∃ y, xs[j]? = some y ∧ eqV y x = true) ∧ (∀ m y, m < j → xs[m]? = some y → eqV y x = false) ∧ Q (.int (j : Int)) H
theorem Zba {X : Cx} : MtR X "tuple.index" (rTIdx X.K) := by
 intro pins s σ H v vs u us Q I rv rvs h
 obtain ⟨a, xs, x, j, rfl, rfl, hq, fx, fs, ⟨y, hy, ey⟩, hno, q⟩ := h
 cases rv
 obtain ⟨ux, rfl, rx⟩ := vals1 rvs
 obtain ⟨its, r, pl, hz⟩ := I.tuple hq
 obtain ⟨o, ho, hc, n, hd⟩ := id pl
 obtain ⟨cls, dd, dt, sl⟩ := o
 replace hc : cls = .type "tuple" := hc
 replace hd : dt = .seq its.toArray n := hd
 subst hc hd
 obtain ⟨uy, huy, ruy⟩ := r.get hy
 have hjl : j < its.length := (List.getElem?_eq_some_iff.mp huy).1
 have ans : ∀ k (hk : k < its.length), ∃ z, xs[k]? = some z ∧ RelV z its[k] := fun k hk => by
  have hk2 : k < xs.length := by rw [r.length]; exact hk
  obtain ⟨w, hw, rw'⟩ := r.get (List.getElem?_eq_getElem hk2)
  rw [List.getElem?_eq_getElem hk] at hw
  cases hw
  exact ⟨_, List.getElem?_eq_getElem hk2, rw'⟩
 have eqs : ∀ (A : Around) (k : Nat) (hk : k < its.length) z, xs[k]? = some z → EqAt A s its[k] ux (eqV z x) := fun A k hk z hz' => by
  obtain ⟨z', hz2, rz⟩ := ans k hk
  rw [hz'] at hz2
  cases hz2
  exact Zcn rz rx (List.all_eq_true.mp fs z (List.mem_of_getElem? hz')) fx
 have vd : ∀ k l' (hk : k < its.length) (hl : l' < its.length) zk zl, xs[k]? = some zk → xs[l']? = some zl → its[k] = its[l'] → eqV zk x = eqV zl x := fun k l' hk hl zk zl h1 h2 he => by
  obtain ⟨z1, e1, r1⟩ := ans k hk
  obtain ⟨z2, e2, r2⟩ := ans l' hl
  rw [h1] at e1; rw [h2] at e2
  cases e1; cases e2
  rw [he] at r1
  have f1 := List.all_eq_true.mp fs zk (List.mem_of_getElem? h1)
  have f2 := List.all_eq_true.mp fs zl (List.mem_of_getElem? h2)
  have : zk = zl := by
   generalize its[l'] = val at r1 r2
   cases zk <;> cases zl <;> first
    | rfl
    | (exact absurd f1 Bool.false_ne_true)
    | (exact absurd f2 Bool.false_ne_true)
    | (cases r1; cases r2; rfl)
    | (cases r1; cases r2; done)
    | (obtain ⟨_, rfl⟩ := r1; obtain ⟨_, e⟩ := r2; cases e; rfl)
    | (obtain ⟨_, rfl⟩ := r1; obtain ⟨_, e⟩ := r2; cases e; done)
    | (obtain ⟨_, rfl⟩ := r1; cases r2; done)
    | (cases r1; obtain ⟨_, e⟩ := r2; cases e; done)
  rw [this]
 classical
 refine call_meets F.slot_tuple_index ⟨_, ho, rfl⟩ F.entry_tuple_index (F.args_tuple_index_2 _ _)
  (Wv a its.toArray n dd sl ux (fun val => decide (∃ (k : Nat) (z : V), its[k]? = some val ∧ xs[k]? = some z ∧ eqV z x = true)) j (by simpa using hjl) ?_ ?_) ⟨ho, fun val hval => ?_, ?_⟩
 ·refine decide_eq_true ⟨j, y, ?_, hy, ey⟩
  simp [hjl]
 ·intro m hm hmj
  refine decide_eq_false ?_
  rintro ⟨k, z, hk, hz', ez⟩
  have hm' : m < its.length := by simpa using hm
  obtain ⟨zm, hzm, _⟩ := ans m hm'
  have hk' := (List.getElem?_eq_some_iff.mp hk)
  obtain ⟨hkl, hke⟩ := hk'
  have e2 := vd k m hkl hm' z zm hz' hzm (by rw [hke]; simp)
  rw [ez, hno m zm hmj hzm] at e2
  cases e2
 ·have hval' : val ∈ its := by simpa using hval
  obtain ⟨k, hkl, hke⟩ := List.getElem_of_mem hval'
  obtain ⟨z, hz', rz⟩ := ans k hkl
  have ee := eqs X.A.in1 k hkl z hz'
  rw [hke] at ee
  have : decide (∃ (k : Nat) (z : V), its[k]? = some val ∧ xs[k]? = some z ∧ eqV z x = true) = eqV z x := by
   cases hb : eqV z x with
   | true => exact decide_eq_true ⟨k, z, by rw [List.getElem?_eq_getElem hkl, hke], hz', hb⟩
   | false =>
    refine decide_eq_false ?_
    rintro ⟨k2, z2, h1, h2, h3⟩
    obtain ⟨hl2, he2⟩ := List.getElem?_eq_some_iff.mp h1
    have := vd k2 k hl2 hkl z2 z h2 hz' (by rw [he2, hke])
    rw [h3, hb] at this
    cases this
  rw [this]
  exact ee
 ·exact ⟨.int (j : Int), H, I.tok _, ⟨_, rfl⟩, q⟩
end L2
set_option Elab.async false
set_option linter.all false
set_option maxRecDepth 100000
namespace L2
open PySem PySem.Spec PyProof.Rows SeqAt
theorem Yx {α β : Type} {F : α → β → Prop} : ∀ {l₁ : List α} {l₂ : List β} {i : Nat} {x : α}, Paired F l₁ l₂ → l₁[i]? = some x → ∃ y, l₂[i]? = some y ∧ F x y
 | _, _, _, _, .nil, h => by simp at h
 | _, _, 0, _, .cons r _, h => by simp at h; subst h; exact ⟨_, rfl, r⟩
 | _, _, i + 1, _, .cons _ t, h => by
  obtain ⟨y, e, q⟩ := Yx t (i := i) (by simpa using h)
  exact ⟨y, by simpa using e, q⟩
theorem fmc {α β : Type} {f g : α → Option β} : ∀ {l : List α}, (∀ x ∈ l, f x = g x) → l.filterMap f = l.filterMap g
 | [], _ => rfl
 | a :: l, h => by
  rw [List.filterMap_cons, List.filterMap_cons, h a List.mem_cons_self, fmc fun x hx => h x (List.mem_cons_of_mem _ hx)]
section
variable {X : Cx}
theorem Ug {a b : String} : CallR X (.builtin "isinstance") (fun xs H Q => ∃ (x : V) (t : Addr) (T : Value) (r : Bool), xs = [x, .ref t] ∧ SqT X.K H t [.ty a, .ty b] ∧ ((∃ i, x = .int i ∧ T = .type "int") ∨ ∃ l ys, x = .ref l ∧ H l = some (.lst ys) ∧ T = .type "list") ∧
  PySem.W.kitAny X.K T [.type a, .type b] = some r ∧ Q (.bl r) H) := by
 intro pins s σ H xs us Q I rv h
 obtain ⟨x, t, T, r, rfl, hq, hx, hk, q⟩ := h
 obtain ⟨u, v, rfl, ru, rv⟩ := vals2 rv
 cases rv
 obtain ⟨its, rt, pl, hz⟩ := I.tuple hq
 cases rt with
 | cons r1 r2 =>
  cases r2 with
  | cons r3 r4 =>
   cases r4
   cases r1
   cases r3
   obtain ⟨o, ho, hc, n, hd⟩ := id pl
   obtain ⟨cls, dd, dt, sl⟩ := o
   replace hc : cls = .type "tuple" := hc
   replace hd : dt = .seq [Value.type a, Value.type b].toArray n := hd
   subst hc hd
   rcases hx with ⟨i, rfl, rfl⟩ | ⟨l, ys, rfl, hl, rfl⟩
   ·obtain ⟨tk, rfl⟩ := ru
    exact PySem.W.kia_tup PySem.W.kitx_int I.kIn True.intro ho hk (fun z => nomatch z) fun tk => ⟨.bl r, H, I.tok _, rfl, q⟩
   ·cases ru
    obtain ⟨_, _, n, _, h1⟩ := (show ObjOk X.prog X.w H s.heap l (.lst ys) from I.hok l _ hl)
    exact PySem.W.kia_tup PySem.W.kitx_list I.kIn ⟨_, h1, rfl⟩ ho hk (fun z => nomatch z) fun tk => ⟨.bl r, H, I.tok _, rfl, q⟩
def Eq1 (K : PySem.W.Frag) (H : Hp) (x y : V) : Prop := (∃ i : Int, x = .int i ∧ y = .int i) ∨ ∃ (a b : Addr) (ns : List Int), x = .ref a ∧ y = .ref b ∧ SqL K H a (ns.map V.int) ∧ SqL K H b (ns.map V.int)
theorem Zc4 {s : Shared} {ns : List Int} {us vs : List Value} (A : Around) (r1 : Vals (ns.map V.int) us) (r2 : Vals (ns.map V.int) vs) : ∀ j (h1 : j < us.toArray.size) (h2 : j < vs.toArray.size), EqAt A s us.toArray[j] vs.toArray[j] true := fun j h1 h2 => by
 have l1 := r1.length
 have hj : j < ns.length := by simp at h1 l1; omega
 have e : (ns.map V.int)[j]? = some (V.int ns[j]) := by simp [hj]
 obtain ⟨u, hu, ru⟩ := r1.get e
 obtain ⟨v, hv, rv⟩ := r2.get e
 obtain ⟨t1, rfl⟩ := ru
 obtain ⟨t2, rfl⟩ := rv
 have e1 : us.toArray[j] = Value.int ns[j] t1 := by simpa using (List.getElem?_eq_some_iff.mp hu).2
 have e2 : vs.toArray[j] = Value.int ns[j] t2 := by simpa using (List.getElem?_eq_some_iff.mp hv).2
 rw [e1, e2]
 have z := EqAt.int_int (A := A) (s := s) ns[j] t1 ns[j] t2
 simpa using z
theorem ZdI {pins : List (Addr × Obj)} {σ : St} {H : Hp} {s : Shared} {x y : V} {u v : Value} (A : Around) (hu : A.units < cLine) (I : Inv X pins σ H s) (h : Eq1 X.K H x y) (ru : RelV x u) (rv : RelV y v) : EqAt A s u v true := by
 rcases h with ⟨i, rfl, rfl⟩ | ⟨a, b, ns, rfl, rfl, ha, hb⟩
 ·obtain ⟨t1, rfl⟩ := ru
  obtain ⟨t2, rfl⟩ := rv
  have z := EqAt.int_int (A := A) (s := s) i t1 i t2
  simpa using z
 ·cases ru
  cases rv
  by_cases hab : a = b
  ·subst hab
   exact EqAt.same _
  ·obtain ⟨us, r1, p1, _⟩ := I.list ha
   obtain ⟨vs, r2, p2, _⟩ := I.list hb
   have hsz : us.toArray.size = vs.toArray.size := by have := r1.length; have := r2.length; simp at *; omega
   have z := RcAt.lists (e := fun _ => true) p1.isList p2.isList hsz hu (Zc4 A.in1 r1 r2)
   have e : (List.range us.toArray.size).all (fun _ => true) = true := by simp
   rw [e] at z
   exact EqAt.of_refs hab z
def rSameL (K : PySem.W.Frag) (r : Bool) : R2 := fun x y H Q => ∃ (a b : Addr) (xs ys : List V), x = .ref a ∧ y = .ref b ∧ SqL K H a xs ∧ SqL K H b ys ∧ Paired (Eq1 K H) xs ys ∧ Q (.bl r) H
theorem ZdM {pins : List (Addr × Obj)} {σ : St} {H : Hp} {s : Shared} {xs ys : List V} {us vs : List Value} (A : Around) (hu : A.units < cLine) (I : Inv X pins σ H s) (pr : Paired (Eq1 X.K H) xs ys) (r1 : Vals xs us) (r2 : Vals ys vs) : ∀ j (h1 : j < us.toArray.size) (h2 : j < vs.toArray.size), EqAt A s us.toArray[j] vs.toArray[j] true := fun j h1 h2 => by
 have l1 := r1.length
 have hj : j < xs.length := by simp at h1; omega
 obtain ⟨y, hy, e⟩ := Yx pr (List.getElem?_eq_getElem hj)
 obtain ⟨u, hu', ru⟩ := r1.get (List.getElem?_eq_getElem hj)
 obtain ⟨v, hv', rv⟩ := r2.get hy
 have e1 : us.toArray[j] = u := by simpa using (List.getElem?_eq_some_iff.mp hu').2
 have e2 : vs.toArray[j] = v := by simpa using (List.getElem?_eq_some_iff.mp hv').2
 rw [e1, e2]
 exact ZdI A hu I e ru rv
theorem Zdu (hu : X.A.units + 1 < cLine) : OpR X (compareOp .NotEq) (rSameL X.K false) := by
 intro pins s σ H x y u v Q I rx ry h
 obtain ⟨a, b, xs, ys, rfl, rfl, ha, hb, pr, q⟩ := h
 cases rx
 cases ry
 obtain ⟨us, r1, p1, _⟩ := I.list ha
 obtain ⟨vs, r2, p2, _⟩ := I.list hb
 have hsz : us.toArray.size = vs.toArray.size := by have := r1.length; have := r2.length; have := Paired.length pr; simp at *; omega
 refine RcNeAt.lists (e := fun _ => true) p1.isList p2.isList hsz (Nat.lt_of_succ_lt hu) (ZdM X.A.in1 hu I pr r1 r2) _ _ _ _ ?_
 have e : (List.range us.toArray.size).all (fun _ => true) = true := by simp
 rw [e]
 exact ⟨.bl false, H, I, rfl, q⟩
end
section
variable {prog : Program} {w : World} {A : Around} {E : Value → Shared → Prop} {s : Shared}
theorem Zbv (xs : Array Value) : ((List.range xs.size).filterMap fun (k : Nat) => xs[(((xs.size : Int) - 1) + (k : Int) * (-1)).toNat]?) = xs.toList.reverse := by
 have e : ((List.range xs.size).filterMap fun (k : Nat) => xs[(((xs.size : Int) - 1) + (k : Int) * (-1)).toNat]?) = (((List.range xs.size).map fun k => xs.size - 1 - k).filterMap fun m => xs[m]?) := by
  rw [List.filterMap_map]
  refine fmc ?_
  intro k hk
  have := List.mem_range.mp hk
  have e2 : (((xs.size : Int) - 1) + (k : Int) * (-1)).toNat = xs.size - 1 - k := by omega
  show xs[_]? = xs[_]?
  rw [e2]
 rw [e, PySem.W.krv_range, List.filterMap_reverse, PySem.W.krv_all]
theorem Jl {t sl : Addr} {items : Array Value} {tk : Tok} {Q : Value → Shared → Prop} (ht : IsTup s.heap t items) (hs : s.heap.IsSliceOf sl .none .none (.int (-1) tk))
  (h : Q (.ref s.heap.objs.size) { s with heap := s.heap.push { cls := .type "tuple", data := .seq items.toList.reverse.toArray } }) (hsz : items.size ≤ sizeLine) : wpAny (model prog w) A (getItem (.ref t) (.ref sl)) Q E s := by
 have htake : sizeOk (.seq items.toList.reverse.toArray) := by
  show items.toList.reverse.toArray.size ≤ sizeLine
  simpa using hsz
 obtain ⟨os, hos, hcs, hds⟩ := id hs
 have hTs : s.TypeIs (.ref sl) "slice" := ⟨os, hos, hcs⟩
 unfold getItem
 try with_reducible refine wpAny_holding ?_
 first | refine wpAny_bind (wpAny_pure ?_) | skip
 refine wpAny_bind (wpAny_sequenceKey ht.typeIs (by decide) ?_)
 refine wpAny_bind (wpAny_callSpecial?_slot (name := Str.ofString "__getitem__") ht.typeIs PyProof.Rows.slot_tuple_getitem
  (wpAny_call_entry PyProof.Rows.slot_tuple_getitem ht.typeIs entry_tuple_getitem ?_ (args_tuple_getitem _ _)))
 show wpAny _ _ (Builtin.Tuple.tupleItemsOf (.ref t) >>= _) _ _ s
 refine wpAny_bind (tupleItemsOf_ ht ?_)
 refine wpAny_bind (wpAny_typeOf hTs ?_)
 rw [if_pos (by decide)]
 unfold Builtin.Slice.sliceApplied Builtin.Slice.sliceFields
 refine wpAny_bind (wpAny_bind (wpAny_bind (wpAny_field hos hds (x := .none) rfl (wpAny_bind (wpAny_field hos hds (x := .none) rfl (wpAny_bind (wpAny_field hos hds (x := .int (-1) tk) rfl (wpAny_pure ?_))))))))
 refine wpAny_bind (slicePart_int ?_)
 show wpAny _ _ (if ((-1 : Int) == 0) = true then _ else _) _ _ s
 rw [if_neg (by decide)]
 refine wpAny_bind (slicePart_none (wpAny_bind (slicePart_none (wpAny_bind (wpAny_pure ?_)))))
 have adj : Builtin.Slice.sliceAdjust none none (-1) (items.size : Int) = ((items.size : Int) - 1, -1) := rfl
 have pls : Builtin.Slice.slicePlaces ((items.size : Int) - 1) (-1) (-1) = items.size := by
  unfold Builtin.Slice.slicePlaces
  rw [if_neg (by decide)]
  by_cases h0 : items.size = 0
  ·rw [h0]; rfl
  ·rw [if_pos (by omega)]
   have e : ((items.size : Int) - 1 - -1 - 1) / (- -1) = (items.size : Int) - 1 := by
    rw [show (- -1 : Int) = 1 by decide, Int.ediv_one]
    omega
   rw [e]
   omega
 show wpAny _ _ (match Builtin.Slice.sliceAdjust none none (-1) (items.size : Int) with | (lo, hi) => pure (lo, (-1 : Int), Builtin.Slice.slicePlaces lo hi (-1))) _ _ s
 rw [adj]
 show wpAny _ _ (pure ((items.size : Int) - 1, (-1 : Int), Builtin.Slice.slicePlaces ((items.size : Int) - 1) (-1) (-1))) _ _ s
 rw [pls]
 refine wpAny_pure ?_
 have hno : ¬ ((((items.size : Int) - 1) == 0 && (-1 : Int) == 1 && items.size == items.size) = true) := by
  intro q
  rw [Bool.and_eq_true, Bool.and_eq_true] at q
  exact absurd q.1.2 (by decide)
 show wpAny _ _ (if (((items.size : Int) - 1) == 0 && (-1 : Int) == 1 && items.size == items.size) = true then _ else _) _ _ s
 rw [if_neg hno, Zbv]
 first
  | exact wpAny_bind (m := Builtin.Tuple.tupleExact _) (wpAny_newObj_type (wpAny_pure ⟨_, rfl, wpAny_pure h⟩) htake)
  | exact wpAny_bind (m := Builtin.Tuple.tupleExact _) (wpAny_newObj_type (wpAny_bind (wpAny_pure (wpAny_pure ⟨_, rfl, wpAny_pure h⟩))) htake)
  | exact wpAny_bind (wpAny_bind (m := Builtin.Tuple.tupleExact _) (wpAny_newObj_type (wpAny_pure (wpAny_pure ⟨_, rfl, wpAny_pure h⟩)) htake))
  | exact wpAny_bind (wpAny_bind (m := Builtin.Tuple.tupleExact _) (wpAny_newObj_type (wpAny_pure ⟨_, rfl, wpAny_pure h⟩) htake))
end
section
variable {X : Cx} {e : Expr} {te : TE} {p1 p2 p3 pos : Pos} {j : Nat}
def tRevT (K : PySem.W.Frag) (te : TE) : TE := fun σ H Q => te σ H fun x H1 => ∃ a xs, x = .ref a ∧ SqT K H1 a xs ∧ ∀ p, H1 p = none → Q (.ref p) (upd H1 p (.tup xs.reverse))
theorem Um : ∀ {xs : List V} {us : List Value}, Vals xs us → Vals xs.reverse us.reverse
 | _, _, .nil => .nil
 | _, _, .cons r t => by
  rw [List.reverse_cons, List.reverse_cons]
  exact (Um t).append (.cons r .nil)
theorem ZcF (he : PE X e te) : PE X (.Subscript e (.Slice none none (some (.UnaryOp .USub (.Constant (.int 1) j p1) p2)) p3) pos) (tRevT X.K te) := by
 intro pins s σ H Q I h
 refine Subscript_ (thn (he pins s σ H _ I h) fun v s1 ⟨x, H1, I1, r1, a, xs, ex, hq, q⟩ => ?_)
 subst ex
 cases r1
 refine wpAny_Slice ?_
 rw [evalPart_none]
 refine wpAny_pure (wpAny_pure ?_)
 rw [evalPart_some]
 refine thn (ZbF UW Zi pins s1 σ H1 (fun v H2 => v = .int (-1) ∧ H2 = H1) I1 ⟨_, rfl, rfl, rfl⟩) fun vk s2 ⟨y, H2, I2, r2, ey, eh⟩ => ?_
 subst ey eh
 obtain ⟨tk, rfl⟩ := r2
 have I4 : Inv X pins σ H2 { s2 with heap := s2.heap.push { cls := .type "slice", data := .fields #[.none, .none, .int (-1) tk] } } := I2.kept (t' := s2.toks) fun b ob q => Heap.get?_push_of_some _ q
 obtain ⟨its, r, pl, hz⟩ := I4.tuple hq
 refine tail_any (ops := [.ref a, .ref s2.heap.objs.size]) pl.typeIs PyProof.Rows.slot_tuple_getitem.lookup ?_ (by with_unfolding_all rfl)
 have hsz : its.toArray.size ≤ sizeLine := by rw [List.size_toArray, ← r.length]; exact hz
 refine Jl pl (Heap.IsSliceOf.new ..) ?_ hsz
 refine ⟨.ref _, _, I4.laid (a := (s2.heap.push { cls := .type "slice", data := .fields #[.none, .none, .int (-1) tk] }).objs.size) (o := .tup xs.reverse) (t' := s2.toks) (fun b u z => Heap.get?_push_of_some _ z) (Nat.le_refl _) ⟨by rw [List.length_reverse]; exact hz, its.reverse, Um r, ⟨_, Heap.get?_push_size _ rfl, rfl, 0, (by show Data.seq its.toArray.toList.reverse.toArray 0 = Data.seq its.reverse.toArray 0; simp)⟩, _, Heap.get?_push_size _ rfl, rfl⟩, rfl, q _ (I4.hok.fresh (Nat.le_refl _))⟩
end
end L2
set_option Elab.async false
set_option linter.all false
set_option maxRecDepth 100000
namespace L2
open PySem PySem.Spec PyProof.Rows SeqAt
section
variable {X : Cx}
theorem WO {ns : List Int} {us : List Value} (r : Vals (ns.map V.int) us) (j : Nat) (h : j < us.length) : ∃ t, us[j] = .int (ns.getD j 0) t := by
 have hl := r.length
 rw [List.length_map] at hl
 have hj : j < ns.length := by omega
 obtain ⟨u, hu, t, ru⟩ := r.get (i := j) (x := .int ns[j]) (by rw [List.getElem?_map, List.getElem?_eq_getElem hj]; rfl)
 rw [List.getElem?_eq_getElem h] at hu
 cases hu
 exact ⟨t, by rw [ru]; simp [hj]⟩
end
end L2
set_option Elab.async false
set_option linter.all false
set_option maxRecDepth 100000
namespace L2
open PySem PySem.Spec PyProof.Rows
structure One (base : Heap) (scope : Scope) (cl : List (Str × Addr)) (x : Str) (vx : V) : Prop where
 kx : scope.names.lookup x = some .free
 only : ∀ z, scope.names.lookup z = some .cell ∨ scope.names.lookup z = some .free → z = x
 cx : ∃ c u, cl.lookup x = some c ∧ base.IsCell c (some u) ∧ RelV vx u
 mem : ∀ z c, cl.lookup z = some c → z = x
end L2
set_option Elab.async false
set_option linter.all false
set_option maxRecDepth 100000
namespace L2
open PySem PySem.Spec PyProof.Rows
structure Src (prog : Program) (w : World) (i l : Addr) (n : Nat) (f : Nat → Value) (S : Nat → Heap → Prop) : Prop where
 here : ∀ k h, S k h → ∃ o, h.get? i = some o
 stay : ∀ k h h', S k h → (∀ c, c = i ∨ c = l → ∀ o, h.get? c = some o → h'.get? c = some o) → S k h'
 item : ∀ (A : Around) k (s : Shared) (Q : Value → Shared → Prop) (E : Value → Shared → Prop), k < n → S k s.heap → (∀ h', S (k + 1) h' → Heap.SameBut i s.heap h' → Q (f k) { s with heap := h' }) → wpAny (model prog w) A (Builtin.SmallTypes.nextOf (.ref i)) Q E s
 stop : ∀ (A : Around) (s : Shared) (Q : Value → Shared → Prop) (E : Value → Shared → Prop), A.handled = none → S n s.heap → (∀ h' e, Heap.ExtBut i s.heap h' → (∃ o, h'.get? e = some o ∧ o.cls = .type "StopIteration") → E (.ref e) { s with heap := h' }) → wpAny (model prog w) A (Builtin.SmallTypes.nextOf (.ref i)) Q E s
theorem YU (prog : Program) (w : World) {i l : Addr} (its : Array Value) (hne : l ≠ i) : Src prog w i l its.size (fun k => its.getD k .none) (fun k h => IsTupIter h i l k ∧ IsTup h l its) where
 here := fun k h ⟨⟨o, ho, _⟩, _⟩ => ⟨o, ho⟩
 stay := fun k h h' ⟨⟨o, ho, r⟩, ⟨u, hu, r'⟩⟩ st => ⟨⟨o, st i (.inl rfl) o ho, r⟩, ⟨u, st l (.inr rfl) u hu, r'⟩⟩
 item := fun A k s Q E hk ⟨hi, ht⟩ q => by
  obtain ⟨oi, gi, ci, di⟩ := id hi
  obtain ⟨ot, gt, ct, nt, dt⟩ := id ht
  have hx : its[k]? = some (its.getD k .none) := by simp [hk]
  unfold Builtin.SmallTypes.nextOf
  refine wpAny_bind (wpAny_callSpecial?_slot (name := Str.ofString "__next__") hi.typeIs slot_tupleiter_next (wpAny_call_entry slot_tupleiter_next hi.typeIs entry_tupleiter_next ?_ (args_tupleiter_next _)))
  refine (show wpAny _ _ (field (.ref i) 0 >>= _) _ _ s from wpAny_bind (wpAny_field gi di (x := .ref l) rfl ?_))
  refine (show wpAny _ _ (if (Value.ref l == Value.none) = true then _ else _) _ _ s from ?_)
  rw [if_neg (by exact Bool.false_ne_true)]
  refine (show wpAny _ _ (field (.ref i) 1 >>= _) _ _ s from wpAny_bind (wpAny_field gi di (x := .int k 0) rfl ?_))
  refine (show wpAny _ _ (seqItems? (.ref l) >>= _) _ _ s from wpAny_bind (wpAny_seqItems gt dt ?_))
  simp only [Int.toNat_natCast, hx]
  refine wpAny_bind (wpAny_setField gi di (by simp) (wpAny_pure ⟨_, rfl, wpAny_pure (q _ ⟨⟨_, Heap.get?_update_self _ gi (Obj.isFreed_of_fields (Obj.data_mapFields di _)), (Obj.cls_mapFields ..).trans ci, ?_⟩, ?_⟩ (Heap.SameBut.update ..))⟩))
  ·rw [Obj.data_mapFields di]; simp [rawInt]
  ·exact ⟨ot, (Heap.SameBut.update ..).extBut _ _ hne gt, ct, nt, dt⟩
 stop := fun A s Q E hh ⟨hi, ht⟩ q => by
  obtain ⟨oi, gi, ci, di⟩ := id hi
  obtain ⟨ot, gt, ct, nt, dt⟩ := id ht
  have hx : its[its.size]? = none := by simp
  unfold Builtin.SmallTypes.nextOf
  refine wpAny_bind (wpAny_callSpecial?_slot (name := Str.ofString "__next__") hi.typeIs slot_tupleiter_next (wpAny_call_entry slot_tupleiter_next hi.typeIs entry_tupleiter_next ?_ (args_tupleiter_next _)))
  refine (show wpAny _ _ (field (.ref i) 0 >>= _) _ _ s from wpAny_bind (wpAny_field gi di (x := .ref l) rfl ?_))
  refine (show wpAny _ _ (if (Value.ref l == Value.none) = true then _ else _) _ _ s from ?_)
  rw [if_neg (by exact Bool.false_ne_true)]
  refine (show wpAny _ _ (field (.ref i) 1 >>= _) _ _ s from wpAny_bind (wpAny_field gi di (x := .int its.size 0) rfl ?_))
  refine (show wpAny _ _ (seqItems? (.ref l) >>= _) _ _ s from wpAny_bind (wpAny_seqItems gt dt ?_))
  simp only [Int.toNat_natCast, hx]
  refine wpAny_bind (wpAny_rule (wpAny_bind (wpAny_setField gi di (by simp) ?_)))
  refine (show wpAny _ _ (newExc (.type "StopIteration") [] >>= _) _ _ _ from wpAny_bind ?_)
  simp only [newExc, newTuple]
  refine wpAny_bind (wpAny_newObj_type ?_ (by size_fits))
  refine wpAny_bind (m := firstArgMember _ _) (wpAny_of_eq (a := Value.none) (by first | rfl | (simp only [firstArgMember]; rfl)) ?_)
  refine wpAny_newObj_type ?_ (by size_fits)
  simp only [raiseNew]
  refine wpAny_bind (wpAny_handled ?_)
  first | rw [show A.in1.handled = none from hh] | rw [hh]
  refine wpAny_bind (wpAny_pure (wpAny_throw ?_))
  exact q _ _ (((Heap.SameBut.update ..).extBut.push _).push _) ⟨_, Heap.get?_push_size _ rfl, rfl⟩
section
variable {prog : Program} {w : World} {A : Around} {E : Value → Shared → Prop} {s : Shared} {z TI TO i1 i2 l1 l2 : Addr} {n k : Nat} {f g : Nat → Value} {S1 S2 : Nat → Heap → Prop}
theorem Zcu {a b : Value} {Q : Value → Shared → Prop} (U1 : Src prog w i1 l1 n f S1) (U2 : Src prog w i2 l2 n g S2) (D : ZipApart z TI TO i1 i2 l1 l2) (hk : k < n) (hz : IsZip s.heap z TI TO .none) (hI : IsPair s.heap TI (.ref i1) (.ref i2)) (hO : IsPair s.heap TO a b) (h1 : S1 k s.heap) (h2 : S2 k s.heap)
    (q : ∀ h', IsZip h' z TI TO (rawInt s.heap.objs.size) → IsPair h' TO (f k) (g k) → S1 (k + 1) h' → S2 (k + 1) h' → IsPair h' s.heap.objs.size (f k) (g k) → h'.objs.size = s.heap.objs.size + 1 →
      (∀ c o, c ≠ z → c ≠ TO → c ≠ i1 → c ≠ i2 → s.heap.get? c = some o → h'.get? c = some o) → Q (.ref s.heap.objs.size) { s with heap := h' }) :
    wpAny (model prog w) A (Builtin.«zip.__next__» ⟨[.ref z], []⟩) (fun fin s' => ∃ v, fin = .done (.ret v) ∧ Q v s') E s := by
  refine (show wpAny _ _ (field (.ref z) 2 >>= _) _ _ _ from wpAny_bind (wpAny_field hz rfl (x := .bool false) rfl ?_))
  refine (show wpAny _ _ (field (.ref z) 3 >>= _) _ _ _ from wpAny_bind (wpAny_field hz rfl (x := .ref TI) rfl (wpAny_bind (wpAny_seqItems hI rfl ?_))))
  refine (show wpAny _ _ (Builtin.SmallTypes.ownedTupleIsFree (.ref z) >>= _) _ _ _ from wpAny_bind ?_)
  unfold Builtin.SmallTypes.ownedTupleIsFree
  refine wpAny_bind (wpAny_field hz rfl (x := .none) rfl (wpAny_pure ?_))
  simp only [if_true]
  refine wpAny_bind (wpAny_rule (wpAny_bind (wpAny_field hz rfl (x := .ref TO) rfl (wpAny_bind (wpAny_setField_rec hz (by simp) fun m1 zz1 e1 => ?_)))))
  replace zz1 : IsZip m1 z TI TO .ellipsis := zz1
  have b1 := e1.extBut
  refine wpAny_bind ?_
  simp only [List.zipIdx_cons, List.zipIdx_nil, List.forIn_cons, List.forIn_nil]
  refine wpAny_bind (wpAny_bind (wpAny_onRaise ?_))
  have st1 : S1 k m1 := U1.stay _ _ _ h1 fun c hc o ho => by rcases hc with rfl | rfl <;> first | exact b1 _ _ D.i1z ho | exact b1 _ _ D.l1z ho
  refine (show wpAny _ _ (Builtin.SmallTypes.nextOf (.ref i1) >>= _) _ _ _ from wpAny_bind (U1.item _ k _ _ _ hk st1 fun m2 st2 e2 => wpAny_pure ?_))
  have b2 := e2.extBut
  have o2 : IsPair m2 TO a b := b2 _ _ D.TOi1 (b1 _ _ D.TOz hO)
  refine wpAny_bind (wpAny_seqItems o2 rfl (wpAny_bind (wpAny_updateSeq_pair o2 fun m3 o3 e3 => ?_)))
  replace o3 : IsPair m3 TO (f k) b := o3
  have b3 := e3.extBut
  refine wpAny_bind (wpAny_letGo (wpAny_pure (wpAny_bind (wpAny_bind (wpAny_onRaise ?_)))))
  have w3 : S2 k m3 := U2.stay _ _ _ h2 fun c hc o ho => by
    rcases hc with rfl | rfl
    · exact b3 _ _ D.TOi2.symm (b2 _ _ D.i12.symm (b1 _ _ D.i2z ho))
    · exact b3 _ _ D.l2TO (b2 _ _ D.l2i1 (b1 _ _ D.l2z ho))
  refine (show wpAny _ _ (Builtin.SmallTypes.nextOf (.ref i2) >>= _) _ _ _ from wpAny_bind (U2.item _ k _ _ _ hk w3 fun m4 w4 e4 => wpAny_pure ?_))
  have b4 := e4.extBut
  have o4 : IsPair m4 TO (f k) b := b4 _ _ D.TOi2 o3
  refine wpAny_bind (wpAny_seqItems o4 rfl (wpAny_bind (wpAny_updateSeq_pair o4 fun m5 o5 e5 => ?_)))
  replace o5 : IsPair m5 TO (f k) (g k) := o5
  have b5 := e5.extBut
  refine wpAny_bind (wpAny_letGo (wpAny_pure (wpAny_pure (wpAny_bind (wpAny_seqItems o5 rfl (wpAny_bind (wpAny_newTuple ?_)))))))
  have sz : m5.objs.size = s.heap.objs.size := by rw [e5.1, e4.1, e3.1, e2.1, e1.1]
  have z5 : IsZip m5 z TI TO .ellipsis := b5 _ _ D.TOz.symm (b4 _ _ D.i2z.symm (b3 _ _ D.TOz.symm (b2 _ _ D.i1z.symm zz1)))
  have kp : ∀ c o, c ≠ z → c ≠ TO → c ≠ i1 → c ≠ i2 → s.heap.get? c = some o → m5.get? c = some o := fun c o c1 c2 c3 c4 e => b5 _ _ c2 (b4 _ _ c4 (b3 _ _ c2 (b2 _ _ c3 (b1 _ _ c1 e))))
  have st5 : S1 (k + 1) m5 := U1.stay _ _ _ st2 fun c hc o ho => by
    rcases hc with rfl | rfl
    · exact b5 _ _ D.TOi1.symm (b4 _ _ D.i12 (b3 _ _ D.TOi1.symm ho))
    · exact b5 _ _ D.l1TO (b4 _ _ D.l1i2 (b3 _ _ D.l1TO ho))
  have w5 : S2 (k + 1) m5 := U2.stay _ _ _ w4 fun c hc o ho => by rcases hc with rfl | rfl <;> first | exact b5 _ _ D.TOi2.symm ho | exact b5 _ _ D.l2TO ho
  have zlt : z < m5.objs.size := Heap.lt_size z5
  refine (show wpAny _ _ (Builtin.SmallTypes.ownedTupleHandOut (.ref z) (.ref m5.objs.size) >>= _) _ _ _ from wpAny_bind ?_)
  unfold Builtin.SmallTypes.ownedTupleHandOut
  have z6 : IsZip (m5.push { cls := .type "tuple", data := .seq #[f k, g k] }) z TI TO .ellipsis := Heap.get?_push_of_some _ z5
  refine wpAny_bind (wpAny_setField_rec z6 (by simp) fun m7 z7 e7 => ?_)
  replace z7 : IsZip m7 z TI TO (rawInt m5.objs.size) := z7
  refine wpAny_setField_rec z7 (by simp) fun m8 z8 e8 => ?_
  replace z8 : IsZip m8 z TI TO (rawInt m5.objs.size) := z8
  have up : ∀ c o, c ≠ z → m5.get? c = some o → m8.get? c = some o := fun c o c1 e => e8.extBut _ _ c1 (e7.extBut _ _ c1 (Heap.get?_push_of_some _ e))
  have t8 : IsPair m8 m5.objs.size (f k) (g k) := e8.extBut _ _ (Nat.ne_of_gt zlt) (e7.extBut _ _ (Nat.ne_of_gt zlt) (Heap.get?_push_size _ rfl))
  have s8 : m8.objs.size = m5.objs.size + 1 := by rw [e8.1, e7.1, Heap.size_push]
  rw [sz] at z8 t8 s8
  refine wpAny_pure ⟨_, rfl, ?_⟩
  show Q (.ref m5.objs.size) _
  rw [sz]
  refine q m8 z8 (up _ _ D.TOz o5) (U1.stay _ _ _ st5 fun c hc o ho => ?_) (U2.stay _ _ _ w5 fun c hc o ho => ?_) t8 s8 fun c o c1 c2 c3 c4 e => up c o c1 (kp c o c1 c2 c3 c4 e)
  · rcases hc with rfl | rfl <;> first | exact up _ _ D.i1z ho | exact up _ _ D.l1z ho
  · rcases hc with rfl | rfl <;> first | exact up _ _ D.i2z ho | exact up _ _ D.l2z ho
theorem Zdl {a b : Value} {Q : PySem.Fin → Shared → Prop} (hh : A.handled = none) (U1 : Src prog w i1 l1 n f S1) (D : ZipApart z TI TO i1 i2 l1 l2) (hz : IsZip s.heap z TI TO .none) (hI : IsPair s.heap TI (.ref i1) (.ref i2)) (hO : IsPair s.heap TO a b) (h1 : S1 n s.heap)
  (q : ∀ h' e, (∀ c o, c ≠ z → c ≠ TO → c ≠ i1 → c ≠ i2 → s.heap.get? c = some o → h'.get? c = some o) → (∃ o, h'.get? e = some o ∧ o.cls = .type "StopIteration") → E (.ref e) { s with heap := h' }) :
  wpAny (model prog w) A (Builtin.«zip.__next__» ⟨[.ref z], []⟩) Q E s := by
 refine (show wpAny _ _ (field (.ref z) 2 >>= _) _ _ _ from wpAny_bind (wpAny_field hz rfl (x := .bool false) rfl ?_))
 refine (show wpAny _ _ (field (.ref z) 3 >>= _) _ _ _ from wpAny_bind (wpAny_field hz rfl (x := .ref TI) rfl (wpAny_bind (wpAny_seqItems hI rfl ?_))))
 refine (show wpAny _ _ (Builtin.SmallTypes.ownedTupleIsFree (.ref z) >>= _) _ _ _ from wpAny_bind ?_)
 unfold Builtin.SmallTypes.ownedTupleIsFree
 refine wpAny_bind (wpAny_field hz rfl (x := .none) rfl (wpAny_pure ?_))
 simp only [if_true]
 refine wpAny_bind (wpAny_rule (wpAny_bind (wpAny_field hz rfl (x := .ref TO) rfl (wpAny_bind (wpAny_setField_rec hz (by simp) fun m1 zz1 e1 => ?_)))))
 replace zz1 : IsZip m1 z TI TO .ellipsis := zz1
 have b1 := e1.extBut
 refine wpAny_bind ?_
 simp only [List.zipIdx_cons, List.zipIdx_nil, List.forIn_cons, List.forIn_nil]
 refine wpAny_bind (wpAny_bind (wpAny_onRaise ?_))
 have st1 : S1 n m1 := U1.stay _ _ _ h1 fun c hc o ho => by rcases hc with rfl | rfl <;> first | exact b1 _ _ D.i1z ho | exact b1 _ _ D.l1z ho
 refine (show wpAny _ _ (Builtin.SmallTypes.nextOf (.ref i1) >>= _) _ _ _ from wpAny_bind (U1.stop _ _ _ _ hh st1 fun m2 e e2 he => ?_))
 obtain ⟨oe, ge, ce⟩ := he
 have z2 : IsZip m2 z TI TO .ellipsis := e2 _ _ D.i1z.symm zz1
 have nez : e ≠ z := fun y => by subst y; rw [z2] at ge; cases ge; simp at ce
 refine wpAny_setField_rec z2 (by simp) fun m3 _ e3 => q m3 e (fun c o c1 _ c3 _ x => e3.extBut _ _ c1 (e2 _ _ c3 (b1 _ _ c1 x))) ⟨oe, e3.extBut _ _ nez ge, ce⟩
end
end L2
set_option Elab.async false
set_option linter.all false
set_option maxRecDepth 100000
namespace L2
open PySem PySem.Spec PyProof.Rows
section
variable {prog : Program} {w : World} {A : Around} {z TI TO i1 i2 l1 l2 : Addr} {n : Nat} {f g : Nat → Value} {S1 S2 : Nat → Heap → Prop}
theorem Ul (hh : A.handled = none) (U1 : Src prog w i1 l1 n f S1) (U2 : Src prog w i2 l2 n g S2) (D : ZipApart z TI TO i1 i2 l1 l2) :
  WalksT prog w A z [z, TI, TO, i1, i2, l1, l2] [z, TO, i1, i2] n (fun k vals => vals = #[f k, g k])
   (fun k h => IsZip h z TI TO .none ∧ IsPair h TI (.ref i1) (.ref i2) ∧ (∃ a b, IsPair h TO a b) ∧ S1 k h ∧ S2 k h)
   (fun k T h => IsZip h z TI TO (rawInt T) ∧ IsPair h TI (.ref i1) (.ref i2) ∧ (∃ a b, IsPair h TO a b) ∧ S1 (k + 1) h ∧ S2 (k + 1) h ∧ T ∉ [z, TO, i1, i2]) where
 sub := fun c hc => by
  simp only [List.mem_cons, List.not_mem_nil, or_false] at hc ⊢
  rcases hc with rfl | rfl | rfl | rfl <;> simp
 frame := fun k h h' ⟨a1, a2, ⟨a, b, a3⟩, a4, a5⟩ kp => ⟨kp z (by simp) _ a1, kp TI (by simp) _ a2, ⟨a, b, kp TO (by simp) _ a3⟩, U1.stay _ _ _ a4 fun c hc o => kp c (by rcases hc with rfl | rfl <;> simp) o, U2.stay _ _ _ a5 fun c hc o => kp c (by rcases hc with rfl | rfl <;> simp) o⟩
 item := fun k s Q E hk ⟨a1, a2, ⟨a, b, a3⟩, a4, a5⟩ q => by
  have ty : s.TypeIs (.ref z) "zip" := ⟨_, a1, rfl⟩
  have ne : ∀ {c o}, s.heap.get? c = some o → s.heap.objs.size ≠ c := fun e => Nat.ne_of_gt (Heap.lt_size e)
  obtain ⟨o1, g1⟩ := U1.here _ _ a4
  obtain ⟨o2, g2⟩ := U2.here _ _ a5
  unfold pyNext
  refine wpAny_bind (wpAny_attempt (wpAny_callSpecial?_slot (name := Str.ofString "__next__") ty F.slot_zip_next (wpAny_call_entry F.slot_zip_next ty F.entry_zip_next (Zcu U1 U2 D hk a1 a2 a3 a4 a5 fun h' c1 c2 c3 c4 c5 c6 c7 => wpAny_pure ?_) (F.args_zip_next_1 _))))
  refine q s.heap.objs.size #[f k, g k] h' s.toks rfl (Nat.le_refl _) ⟨_, c5, rfl, _, rfl⟩ ⟨c1, c7 _ _ D.TIz D.TITO D.TIi1 D.TIi2 a2, ⟨_, _, c2⟩, c3, c4, fun m => ?_⟩ fun c o hc e => c7 c o (fun x => hc (by simp [x])) (fun x => hc (by simp [x])) (fun x => hc (by simp [x])) (fun x => hc (by simp [x])) e
  simp only [List.mem_cons, List.not_mem_nil, or_false] at m
  rcases m with m | m | m | m
  ·exact ne a1 m
  ·exact ne a3 m
  ·exact ne g1 m
  ·exact ne g2 m
 go := fun elts kk pos k T s Q E ⟨a1, a2, ⟨a, b, a3⟩, a4, a5, _⟩ q => wpAny_letOwnedTupleGo_zip a1 fun h' z' s' => by
  have ex := s'.extBut
  refine q h' ⟨z', ex _ _ D.TIz a2, ⟨a, b, ex _ _ D.TOz a3⟩, U1.stay _ _ _ a4 fun c hc o ho => ?_, U2.stay _ _ _ a5 fun c hc o ho => ?_⟩ fun c o hc e => ex _ _ (fun x => hc (by simp [x])) e
  ·rcases hc with rfl | rfl <;> first | exact ex _ _ D.i1z ho | exact ex _ _ D.l1z ho
  ·rcases hc with rfl | rfl <;> first | exact ex _ _ D.i2z ho | exact ex _ _ D.l2z ho
 apart := fun k T h ⟨_, _, _, _, _, t⟩ => t
 done := fun s Q E ⟨a1, a2, ⟨a, b, a3⟩, a4, a5⟩ q => by
  have ty : s.TypeIs (.ref z) "zip" := ⟨_, a1, rfl⟩
  unfold pyNext
  refine wpAny_bind (wpAny_attempt (wpAny_callSpecial?_slot (name := Str.ofString "__next__") ty F.slot_zip_next (wpAny_call_entry F.slot_zip_next ty F.entry_zip_next (Zdl hh U1 D a1 a2 a3 a4 fun h' e kp he => ?_) (F.args_zip_next_1 _))))
  obtain ⟨o, ho, hc⟩ := he
  refine wpAny_bind (wpAny_isInstance (T := "StopIteration") (b := true) ⟨o, ho, hc⟩ isSubtype_stop (wpAny_pure (q _ s.toks fun c o hc e => ?_)))
  exact kp c o (fun x => hc (by simp [x])) (fun x => hc (by simp [x])) (fun x => hc (by simp [x])) (fun x => hc (by simp [x])) e
 self := fun k s Q E st q => wpAny_pyIter_zip st.1 q
end
abbrev zt1 (h : Heap) (l1 : Addr) : Heap := h.push { cls := .type "tuple_iterator", data := .fields #[.ref l1, .int 0 0] }
abbrev zt2 (h : Heap) (l1 l2 : Addr) : Heap := (zt1 h l1).push { cls := .type "tuple_iterator", data := .fields #[.ref l2, .int 0 0] }
abbrev zt3 (h : Heap) (l1 l2 : Addr) : Heap := (zt2 h l1 l2).push { cls := .type "tuple", data := .seq #[.ref h.objs.size, .ref (zt1 h l1).objs.size] }
abbrev zt4 (h : Heap) (l1 l2 : Addr) : Heap := (zt3 h l1 l2).push { cls := .type "tuple", data := .seq #[.none, .none] }
abbrev zt5 (h : Heap) (l1 l2 : Addr) : Heap := (zt4 h l1 l2).push { cls := .type "zip", data := .fields #[.none, .bool false, .bool false, .ref (zt2 h l1 l2).objs.size, .ref (zt3 h l1 l2).objs.size] }
theorem Zaj {h : Heap} {l : Addr} {xs : Array Value} (t : IsTup h l xs) (o : Obj) : IsTup (h.push o) l xs := let ⟨u, hu, r⟩ := t; ⟨u, Heap.get?_push_of_some _ hu, r⟩
theorem Zdk (l1 l2 : Addr) (xs ys : Array Value) : Meets (Builtin.«zip.__new__» ⟨[.type "zip", .ref l1, .ref l2], []⟩) (fun _ R s => IsTup s.heap l1 xs ∧ IsTup s.heap l2 ys ∧ R (.ok (.ret (.ref (zt4 s.heap l1 l2).objs.size))) { s with heap := zt5 s.heap l1 l2 }) :=
 .of_wp fun prog w A R s h => by
  obtain ⟨hp, gg, d, tk, os⟩ := s
  obtain ⟨t1, t2, h⟩ := h
  have hsub := sub_zip
  have T1 : IsTup (Shared.heap ⟨hp, gg, d, tk, os⟩) l1 xs := t1
  have T2 : IsTup (Shared.heap ⟨hp.push { cls := .type "tuple_iterator", data := .fields #[.ref l1, .int 0 0] }, gg, d, tk, os⟩) l2 ys := Zaj t2 _
  wp_walk using iter_tuple T1, iter_tuple T2
  exact ⟨_, rfl, h⟩
theorem Zc8 {prog : Program} {w : World} {A : Around} {E : Value → Shared → Prop} {s : Shared} {l1 l2 : Addr} {xs ys : Array Value} {Q : Value → Shared → Prop} (t1 : IsTup s.heap l1 xs) (t2 : IsTup s.heap l2 ys)
    (q : ∀ h', IsZip h' (s.heap.objs.size + 4) (s.heap.objs.size + 2) (s.heap.objs.size + 3) .none → IsPair h' (s.heap.objs.size + 2) (.ref s.heap.objs.size) (.ref (s.heap.objs.size + 1)) → IsPair h' (s.heap.objs.size + 3) .none .none →
      IsTupIter h' s.heap.objs.size l1 0 → IsTupIter h' (s.heap.objs.size + 1) l2 0 → (∀ c o, s.heap.get? c = some o → h'.get? c = some o) → Q (.ref (s.heap.objs.size + 4)) { s with heap := h' }) :
    wpAny (model prog w) A (call (.type "zip") [.ref l1, .ref l2]) Q E s := by
  refine callType_new F.called_zip (by decide) (F.typeCall_zip_2 _ _) (F.newCall_zip_2 _ _) (fun obj => F.args_object_init_3 obj _ _) F.entry_zip_new (Zdk l1 l2 xs ys) ⟨t1, t2, ?_⟩
  have y1 : (zt1 s.heap l1).objs.size = s.heap.objs.size + 1 := Heap.size_push ..
  have y2 : (zt2 s.heap l1 l2).objs.size = s.heap.objs.size + 2 := by rw [Heap.size_push, y1]
  have y3 : (zt3 s.heap l1 l2).objs.size = s.heap.objs.size + 3 := by rw [Heap.size_push, y2]
  have y4 : (zt4 s.heap l1 l2).objs.size = s.heap.objs.size + 4 := by rw [Heap.size_push, y3]
  have p : ∀ {h : Heap} {c : Addr} {o u : Obj}, h.get? c = some o → (h.push u).get? c = some o := fun e => Heap.get?_push_of_some _ e
  have x5 : (zt5 s.heap l1 l2).get? (zt4 s.heap l1 l2).objs.size = some _ := Heap.get?_push_size _ rfl
  have x4 : (zt5 s.heap l1 l2).get? (zt3 s.heap l1 l2).objs.size = some _ := p (Heap.get?_push_size _ rfl)
  have x3 : (zt5 s.heap l1 l2).get? (zt2 s.heap l1 l2).objs.size = some _ := p (p (Heap.get?_push_size _ rfl))
  have x2 : (zt5 s.heap l1 l2).get? (zt1 s.heap l1).objs.size = some _ := p (p (p (Heap.get?_push_size _ rfl)))
  have x1 : (zt5 s.heap l1 l2).get? s.heap.objs.size = some _ := p (p (p (p (Heap.get?_push_size _ rfl))))
  show _ ∧ _
  rw [y2, y3, y4] at x5
  rw [y1, y2] at x3
  rw [y3] at x4
  rw [y1] at x2
  rw [y4]
  exact ⟨⟨_, x5, rfl⟩, q _ x5 x3 x4 ⟨_, x1, rfl, rfl⟩ ⟨_, x2, rfl, rfl⟩ fun c o x => p (p (p (p (p x))))⟩
end L2
set_option Elab.async false
set_option linter.all false
set_option maxRecDepth 100000
namespace L2
open PySem PySem.Spec PyProof.Rows
def ItzT (K : PySem.W.Frag) (l1 l2 : Addr) : It :=
 ⟨fun i H => ∃ xs ys x y, SqT K H l1 xs ∧ SqT K H l2 ys ∧ xs.length = ys.length ∧ xs[i]? = some x ∧ ys[i]? = some y,
  fun i H v H' => ∃ (T : Addr) (x y : V), v = .ref T ∧ H T = none ∧ H' = upd H T (.par [x, y]) ∧ ∀ xs ys, SqT K H l1 xs → SqT K H l2 ys → xs[i]? = some x ∧ ys[i]? = some y,
  fun i H => ∃ xs ys, SqT K H l1 xs ∧ SqT K H l2 ys ∧ xs.length = i ∧ ys.length = i⟩
theorem ZaN {P : Program} {w : World} {K : PySem.W.Frag} {elts : List Expr} {kk : Nat} {pos : Pos} (z TI TO i1 i2 l1 l2 : Addr) (D : ZipApart z TI TO i1 i2 l1 l2) :
  Turn P w K (.Tuple elts kk pos) (ItzT K l1 l2) [z, TI, TO, i1, i2] z (fun i h => IsZip h z TI TO .none ∧ IsPair h TI (.ref i1) (.ref i2) ∧ (∃ a b, IsPair h TO a b) ∧ IsTupIter h i1 l1 i ∧ IsTupIter h i2 l2 i) where
 mem := by simp
 obj := fun i h st b hb => by
  obtain ⟨a1, a2, ⟨u, v, a3⟩, ⟨o4, h4, _, d4⟩, ⟨o5, h5, _, d5⟩⟩ := st
  simp only [List.mem_cons, List.not_mem_nil, or_false] at hb
  rcases hb with rfl | rfl | rfl | rfl | rfl
  ·exact ⟨_, a1, fun v z => by cases z⟩
  ·exact ⟨_, a2, fun v z => by cases z⟩
  ·exact ⟨_, a3, fun v z => by cases z⟩
  ·exact ⟨_, h4, fun v z => by rw [d4] at z; cases z⟩
  ·exact ⟨_, h5, fun v z => by rw [d5] at z; cases z⟩
 keep := fun i h h' st k => by
  obtain ⟨a1, a2, ⟨u, v, a3⟩, a4, a5⟩ := st
  exact ⟨k z (by simp) _ a1, k TI (by simp) _ a2, ⟨u, v, k TO (by simp) _ a3⟩, (let ⟨o, ho, r⟩ := a4; ⟨o, k i1 (by simp) o ho, r⟩), let ⟨o, ho, r⟩ := a5; ⟨o, k i2 (by simp) o ho, r⟩⟩
 item := by
  intro X hP hw hK hc i pins s σ H E I hf st hg
  subst hP hw hK
  obtain ⟨xs, ys, x, y, hq1, hq2, hln, hx, hy⟩ := hg
  obtain ⟨is1, rv1, pl1, hz1⟩ := I.tuple hq1
  obtain ⟨is2, rv2, pl2, hz2⟩ := I.tuple hq2
  obtain ⟨u, hu, ru⟩ := rv1.get hx
  obtain ⟨v, hv, rv⟩ := rv2.get hy
  have hs12 : is2.toArray.size = is1.toArray.size := by
   have e1 := rv1.length
   have e2 := rv2.length
   simp only [List.size_toArray]
   omega
  have hil : i < is1.toArray.size := by
   have e1 := (List.getElem?_eq_some_iff.mp hu).1
   simp only [List.size_toArray]
   omega
  have U2 := YU X.prog X.w is2.toArray D.l2i2
  rw [hs12] at U2
  have W := Ul (A := X.A) (I.ok.hd hc) (YU X.prog X.w is1.toArray D.l1i1) U2 D
  obtain ⟨a1, a2, a3, a4, a5⟩ := st
  refine W.item i s _ _ hil ⟨a1, a2, a3, ⟨a4, pl1⟩, ⟨a5, pl2⟩⟩ fun T vals h' tk hP hTs hTup hmid hk => ⟨_, rfl, W.go elts kk pos i T _ _ _ hmid fun h'' st'' hk'' => ?_⟩
  have hx2 : is1.toArray.getD i .none = u := by simp [List.getD_eq_getElem?_getD, hu]
  have hy2 : is2.toArray.getD i .none = v := by simp [List.getD_eq_getElem?_getD, hv]
  rw [hx2, hy2] at hP
  subst hP
  have hTn : H T = none := I.hok.fresh hTs
  have both : ∀ b o, b ∉ [z, TO, i1, i2] → s.heap.get? b = some o → h''.get? b = some o := fun b o hb q => hk'' b o hb (hk b o hb q)
  have sub : ∀ b, b ∉ [z, TI, TO, i1, i2] → b ∉ [z, TO, i1, i2] := fun b hb hm => hb (by
   simp only [List.mem_cons, List.not_mem_nil, or_false] at hm ⊢
   rcases hm with h | h | h | h
   ·exact .inl h
   ·exact .inr (.inr (.inl h))
   ·exact .inr (.inr (.inr (.inl h)))
   ·exact .inr (.inr (.inr (.inr h))))
  have hTw : T ∉ [z, TO, i1, i2] := W.apart _ _ _ hmid
  have hTT : h''.IsTuple T #[u, v] := hTup.at fun o q => hk'' T o hTw q
  have neT : ∀ b o, s.heap.get? b = some o → b ≠ T := fun b o q => Nat.ne_of_lt (Nat.lt_of_lt_of_le (Heap.lt_size q) hTs)
  have neT' : ∀ b o, H b = some o → b ≠ T := fun b o q => Zd q hTn
  have trk : ∀ b o, H b = some o → b ∉ [z, TI, TO, i1, i2] := fun b o q hm => by
   have := (hf b hm).1
   rw [this] at q; cases q
  refine ⟨.ref T, upd H T (.par [x, y]), ?_, rfl, ⟨T, x, y, rfl, hTn, rfl, fun as bs ha hb => by rw [I.tuple_inj ha hq1, I.tuple_inj hb hq2]; exact ⟨hx, hy⟩⟩, ⟨st''.1, st''.2.1, st''.2.2.1, st''.2.2.2.1.1, st''.2.2.2.2.1⟩, fun b hb => ?_⟩
  ·refine (show Inv X pins σ (upd H T (.par [x, y])) { s with heap := h'', toks := tk } from ?_)
   refine I.call (g' := s.gens) (d' := s.drawn) (t' := tk) (h' := h'') (ch := [z, TI, TO, i1, i2]) ⟨fun b o q _ _ hx => both b o (sub b hx) q, fun b o q _ _ hx => ⟨o.slots, both b o (sub b hx) q⟩, fun b o q n hx => by rw [Zf (neT b o q)]; exact n, fun b o q hx => ⟨o, both b o (sub b hx) q⟩,
    fun b ys q => by rw [Zf (neT' b _ q)]; exact q, fun b o u q => by rw [Zf (neT' b _ q)]; exact q, fun b ps q => ⟨#[], by rw [Zf (neT' b _ q), q]; simp⟩⟩ (fun b o q => ?_) I.bare fun b hb => ?_
   ·by_cases hb : b = T
    ·subst hb
     rw [Zb] at q
     cases q
     exact ⟨by show 2 ≤ sizeLine; decide, [u, v], .cons ru (.cons rv .nil), hTT⟩
    ·rw [Zf hb] at q
     refine (I.hok b o q).stay (fun c ob hc' q' => both c ob ?_ q') (fun c q' => by rw [Zf (neT' c _ q')]; exact q') fun c ys q' => by rw [Zf (neT' c _ q')]; exact q'
     rcases hc' with z' | z'
     ·rw [z']; exact sub _ (trk b o q)
     ·exact sub _ (trk c _ z')
   ·obtain ⟨f0, f1, f2, f3, f4, f5⟩ := hf b hb
    exact ⟨f3, f1, f4, f5⟩
  ·have hne : b ≠ T := by
    obtain ⟨f0, _⟩ := hf b hb
    have : ∃ o, s.heap.get? b = some o := by
     obtain ⟨u', v', a3'⟩ := a3
     obtain ⟨o4, h4, _⟩ := a4
     obtain ⟨o5, h5, _⟩ := a5
     simp only [List.mem_cons, List.not_mem_nil, or_false] at hb
     rcases hb with rfl | rfl | rfl | rfl | rfl
     ·exact ⟨_, a1⟩
     ·exact ⟨_, a2⟩
     ·exact ⟨_, a3'⟩
     ·exact ⟨_, h4⟩
     ·exact ⟨_, h5⟩
    obtain ⟨o, ho⟩ := this
    exact neT b o ho
   rw [Zf hne]
   exact (hf b hb).1
 done := by
  intro X hP hw hK hc i pins s σ H E I hf st hg
  subst hP hw hK
  obtain ⟨xs, ys, hq1, hq2, hx, hy⟩ := hg
  obtain ⟨is1, rv1, pl1, hz1⟩ := I.tuple hq1
  obtain ⟨is2, rv2, pl2, hz2⟩ := I.tuple hq2
  have e1 := rv1.length
  have e2 := rv2.length
  have hs12 : is2.toArray.size = is1.toArray.size := by simp only [List.size_toArray]; omega
  have U2 := YU X.prog X.w is2.toArray D.l2i2
  rw [hs12] at U2
  have W := Ul (A := X.A) (I.ok.hd hc) (YU X.prog X.w is1.toArray D.l1i1) U2 D
  have hn : i = is1.toArray.size := by simp only [List.size_toArray]; omega
  obtain ⟨a1, a2, a3, a4, a5⟩ := st
  rw [hn] at a4 a5
  have sub : ∀ b, b ∉ [z, TI, TO, i1, i2] → b ∉ [z, TO, i1, i2] := fun b hb hm => hb (by
   simp only [List.mem_cons, List.not_mem_nil, or_false] at hm ⊢
   rcases hm with h | h | h | h
   ·exact .inl h
   ·exact .inr (.inr (.inl h))
   ·exact .inr (.inr (.inr (.inl h)))
   ·exact .inr (.inr (.inr (.inr h))))
  refine W.done s _ _ ⟨a1, a2, a3, ⟨a4, pl1⟩, ⟨a5, pl2⟩⟩ fun h' tk hk => ⟨rfl, ?_⟩
  have trk : ∀ b o, H b = some o → b ∉ [z, TI, TO, i1, i2] := fun b o q hm => by
   have := (hf b hm).1
   rw [this] at q; cases q
  refine I.call (g' := s.gens) (d' := s.drawn) (t' := tk) (h' := h') (ch := [z, TI, TO, i1, i2]) ⟨fun b o q _ _ hx => hk b o (sub b hx) q, fun b o q _ _ hx => ⟨o.slots, hk b o (sub b hx) q⟩, fun b o q n hx => n, fun b o q hx => ⟨o, hk b o (sub b hx) q⟩, fun b ys q => q, fun b o u q => q, fun b ps q => ⟨#[], by rw [q]; simp⟩⟩ (fun b o q => ?_) I.bare fun b hb => ?_
  ·refine (I.hok b o q).stay (fun c ob hc' q' => hk c ob ?_ q') (fun _ q' => q') fun _ _ q' => q'
   rcases hc' with z' | z'
   ·rw [z']; exact sub _ (trk b o q)
   ·exact sub _ (trk c _ z')
  ·obtain ⟨f0, f1, f2, f3, f4, f5⟩ := hf b hb
   exact ⟨f3, f1, f4, f5⟩
 self := fun A i s Q E st h => wpAny_pyIter_zip st.1 h
section
variable {X : Cx} {elts : List Expr} {kk : Nat} {tp : Pos}
def iZipT (K : PySem.W.Frag) (ta : TA) : TI := fun σ H R => ta σ H fun vs H1 => ∃ l1 l2, vs = [.ref l1, .ref l2] ∧ (∃ xs ys, SqT K H1 l1 xs ∧ SqT K H1 l2 ys) ∧ R (ItzT K l1 l2) H1
theorem ZcD {a b : Expr} {ta : TA} {p pos : Pos} (hg : Gl X "zip") (hm : X.mg "zip" = none) (ha : PA X [a, b] ta) (hs : starEach [a, b] X.env = [(false, eval a X.env), (false, eval b X.env)] := by rfl) (hs2 : starEach [b] X.env = [(false, eval b X.env)] := by rfl) :
  PI X (.Tuple elts kk tp) (.Call (.Name "zip" p) [a, b] [] pos) (iZipT X.K ta) := by
 intro pins s σ H R I h
 refine Call_ (YN I hg hm PyProof.Rows.Boot.«zip» (PyProof.Rows.callWith_type1 (thn (ha pos pins s σ H _ I h) fun us s1 ⟨vs, H1, I1, r1, q1⟩ => ?_) (by rw [hs, hs2]) (by rw [hs2]; rfl)))
 obtain ⟨l1, l2, e, ⟨xs, ys, hq1, hq2⟩, q⟩ := q1
 subst e
 obtain ⟨u, v, rfl, ru, rv⟩ := vals2 r1
 cases ru
 cases rv
 obtain ⟨is1, rv1, pl1, hz1⟩ := I1.tuple hq1
 obtain ⟨is2, rv2, pl2, hz2⟩ := I1.tuple hq2
 have t1 : l1 < s1.heap.objs.size := by obtain ⟨o, ho, _⟩ := id pl1; exact Heap.lt_size ho
 have t2 : l2 < s1.heap.objs.size := by obtain ⟨o, ho, _⟩ := id pl2; exact Heap.lt_size ho
 have D := WD s1.heap.objs.size l1 l2 t1 t2
 refine Zc8 pl1 pl2 fun h' b1 b2 b3 b4 b5 hk => wpAny_pyIter_zip b1 ?_
 have I2 : Inv X pins σ H1 { s1 with heap := h' } := I1.kept (t' := s1.toks) hk
 refine ⟨s1.heap.objs.size + 4, [s1.heap.objs.size + 4, s1.heap.objs.size + 2, s1.heap.objs.size + 3, s1.heap.objs.size, s1.heap.objs.size + 1], _, _, H1, rfl, I2,
  ZaN _ _ _ _ _ l1 l2 D, ⟨b1, b2, ⟨_, _, b3⟩, b4, b5⟩, fun b hb => ?_, q⟩
 have hbs : s1.heap.objs.size ≤ b := by
  simp only [List.mem_cons, List.not_mem_nil, or_false] at hb
  rcases hb with z | z | z | z | z <;> rw [z] <;> first | exact Nat.le_refl _ | exact Nat.le_add_right _ _
 exact I1.fpOk hbs (I1.hok.fresh hbs)
end
theorem Za8 {K : PySem.W.Frag} {l1 l2 : Addr} {xs zs : List V} {g : TG} {tt : TT} {ti : TC} {ys : List V} {σ : St} {H : Hp} {Q : List V → St → Hp → Prop} (hlen : xs.length = zs.length) (Pv : Nat → List V → St → Hp → Prop) (h0 : Pv 0 ys σ H)
  (hl : ∀ i ys σ H, i ≤ xs.length → Pv i ys σ H → SqT K H l1 xs ∧ SqT K H l2 zs)
  (hs : ∀ i x y T ys σ H, xs[i]? = some x → zs[i]? = some y → H T = none → Pv i ys σ H → g (.ref T) σ (upd H T (.par [x, y])) fun σ2 H2 => tt σ2 H2 fun b H3 => if b = true then ti ys σ2 H3 (Pv (i + 1)) else Pv (i + 1) ys σ2 H3)
  (hd : ∀ ys σ H, Pv xs.length ys σ H → Q ys σ H) : tNestW g tt ti (ItzT K l1 l2) ys σ H Q := by
 refine ⟨fun i m ys σ H => m = xs.length - i ∧ i ≤ xs.length ∧ Pv i ys σ H, ⟨xs.length, by simp, Nat.zero_le _, h0⟩, ?_⟩
 rintro i m ys σ H ⟨rfl, hi, p⟩
 obtain ⟨q1, q2⟩ := hl i ys σ H hi p
 by_cases hlt : i < xs.length
 ·refine .inr ⟨⟨xs, zs, xs[i], zs[i]'(by omega), q1, q2, hlen, by simp [hlt], by simp [hlen ▸ hlt]⟩, Pv (i + 1), fun ys' σ' H' p' => ⟨xs.length - (i + 1), by omega, rfl, hlt, p'⟩, fun x H' y => ?_⟩
  obtain ⟨T, a, b, e1, e2, e3, e4⟩ := y
  subst e1 e3
  obtain ⟨f1, f2⟩ := e4 xs zs q1 q2
  exact hs i a b T ys σ H f1 f2 e2 p
 ·have e : i = xs.length := by omega
  subst e
  exact .inl ⟨⟨xs, zs, q1, q2, rfl, hlen.symm⟩, hd ys σ H p⟩
end L2
set_option Elab.async false
set_option linter.all false
set_option maxRecDepth 100000
namespace L2
open PySem PySem.Spec PyProof.Rows SeqAt
section
variable {X : Cx}
theorem W7 (hu : X.A.units < cLine) : OpR X (compareOp .Eq) (fun x y H Q => ∃ (a b : Addr) (ns ms : List Int), x = .ref a ∧ y = .ref b ∧ SqT X.K H a (ns.map V.int) ∧ SqT X.K H b (ms.map V.int) ∧ Q (.bl (decide (ns = ms))) H) := by
 intro pins s σ H x y u v Q I rx ry h
 obtain ⟨a, b, ns, ms, rfl, rfl, ha, hb, q⟩ := h
 cases rx
 cases ry
 obtain ⟨us, r1, p1, _⟩ := I.tuple ha
 obtain ⟨vs, r2, p2, _⟩ := I.tuple hb
 have l1 := r1.length
 have l2 := r2.length
 rw [List.length_map] at l1 l2
 refine eq_tupleAt (e := fun j => ns.getD j 0 == ms.getD j 0) p1 p2 hu (fun j h1 h2 => ?_) ?_
 ·obtain ⟨t1, e1⟩ := WO r1 j (by simpa using h1)
  obtain ⟨t2, e2⟩ := WO r2 j (by simpa using h2)
  rw [show us.toArray[j] = us[j]'(by simpa using h1) by simp, show vs.toArray[j] = vs[j]'(by simpa using h2) by simp, e1, e2]
  exact SeqAt.EqAt.int_int _ _ _ _
 ·have e : ((List.range (min us.toArray.size vs.toArray.size)).all (fun j => ns.getD j 0 == ms.getD j 0) && us.toArray.size == vs.toArray.size) = decide (ns = ms) := by
   rw [Bool.eq_iff_iff, Bool.and_eq_true, List.all_eq_true, decide_eq_true_eq, beq_iff_eq, List.size_toArray, List.size_toArray]
   constructor
   ·rintro ⟨h, hl⟩
    refine List.ext_getElem (by omega) fun i h1 h2 => ?_
    have := h i (by rw [List.mem_range]; omega)
    simpa [h1, h2] using this
   ·rintro rfl
    exact ⟨fun j _ => by simp, by omega⟩
  rw [e]
  exact ⟨.bl _, H, I, rfl, q⟩
end
structure Cells (base : Heap) (scope : Scope) (cl : List (Str × Addr)) (N : List Str) (vs : List V) : Prop where
 len : vs.length = N.length
 only : ∀ z, scope.names.lookup z = some .cell ∨ scope.names.lookup z = some .free → z ∈ N
 at_ : ∀ (i : Nat) x v, N[i]? = some x → vs[i]? = some v → scope.names.lookup x = some .free ∧ ∃ c u, cl.lookup x = some c ∧ base.IsCell c (some u) ∧ RelV v u
 mem : ∀ z c, cl.lookup z = some c → z ∈ N
 inj : ∀ x y c, cl.lookup x = some c → cl.lookup y = some c → x = y
theorem Zc1 {P : Program} {w : World} {K : PySem.W.Frag} {mg : Str → Option Value} {base : Heap} {f : Addr} {q : Str} {params : Arguments} {body : Expr} {scope : Scope} {cl : List (Str × Addr)} {pm : Value} {c : Addr} {ct : Value} {k : Nat} {N : List Str} {ws : List V} {sp : Sp}
    (T : Cells base scope cl N ws) (hk : scope.kind = .function) (hco : scope.isCoroutine = false) (hgen : scope.isGenerator = false) (hcell : ∀ z ∈ scope.names, z.2 ≠ .cell)
    (hsp : ∀ vs H Q E, sp vs H Q E → vs = [] ∧ H f = some (lamO f q params body scope cl pm c ct) ∧ H c = some (codeO c q))
    (hb : ∀ (A : Around) (outer : List Env) (s : Shared) (H : Hp) (Q : VK) (E : XK), Room k (A.deeper (PySem.W.envX q scope s.heap.objs.size f (.ref c) cl)) → sp [] H Q E →
      ∃ t, PE (cxL P w K mg base N q scope f (.ref c) cl A outer s H E) body t ∧ t (ws.map some) H Q) :
    FnOk P w K mg base (CXR P w) (k + 1) f (PySem.W.kla_fn "<lambda>" q params body scope cl pm (.ref c) ct) [] sp := by
  refine ⟨fun vs H Q E h => by rw [(hsp vs H Q E h).1]; rfl, fun A outer s H args us vs Q E hr e0 hbd rv h => ?_⟩
  obtain ⟨rfl, hf, hc⟩ := hsp _ _ _ _ h
  have of : s.heap.get? f = some (PySem.W.kla_obj "<lambda>" q params body scope cl pm c ct) := (e0.hok f _ hf).1
  have oc : s.heap.CodeRec (.ref c) q := (e0.hok c _ hc).1
  have lim : s.heap.NoLimit := e0.mod.nolimit.keeps fun b o e => (e0.bs b o e).1
  refine PySem.W.kla_callFunE hr.depth of rfl hco hgen rfl oc (hbd _ _ _ _ ?_)
  refine wpAny_newFunctionEnv hcell (fun z hz => by cases rv; exact absurd hz (by simp)) (fun h1 hns hsb => ?_) hk
  have k1 : ∀ b o, s.heap.get? b = some o → h1.get? b = some o := fun b o e => hsb.extBut b o (Nat.ne_of_lt (Heap.lt_size e)) (Heap.get?_push_of_some _ e)
  refine ⟨lim.keeps k1, ?_⟩
  show codeAny _ A (.expr body (PySem.W.envX q scope s.heap.objs.size f (.ref c) cl)) _ _
  obtain ⟨t, ht, hq⟩ := hb A outer s H Q E (hr.deeper _) h
  have cellB : ∀ {a : Addr} {v : Option Value}, base.IsCell a v → h1.IsCell a v ∧ H a = none := fun {a v} ⟨o, ho, hd⟩ => ⟨⟨o, k1 _ _ (e0.bs _ _ ho).1, hd⟩, (e0.bs _ _ ho).2⟩
  have atN : ∀ z, z ∈ N → ∃ c u, cl.lookup z = some c ∧ base.IsCell c (some u) := fun z hz => by
    obtain ⟨i, hi, e⟩ := List.getElem_of_mem hz
    have hi' : i < ws.length := by rw [T.len]; exact hi
    obtain ⟨_, c, u, h1, h2, _⟩ := T.at_ i z ws[i] (by rw [← e]; exact List.getElem?_eq_getElem hi) (List.getElem?_eq_getElem hi')
    exact ⟨c, u, h1, h2⟩
  have cells : ∀ z a, cl.lookup z = some a → ∃ v, base.IsCell a v := fun z a hz => by
    obtain ⟨c, u, h1, h2⟩ := atN z (T.mem z a hz)
    rw [hz] at h1; cases h1; exact ⟨_, h2⟩
  have I : Inv (cxL P w K mg base N q scope f (.ref c) cl A outer s H E) [] (ws.map some) H { s with heap := h1, toks := s.toks + (([] : List Str).zip us).length } := by
    refine ⟨⟨e0.mod, hk, rfl, rfl, Nat.le_refl _, fun a b cc h2 h3 => ?_, fun a ha => ?_, fun a cc hn => Bool.noConfusion hn, fun _ => hr.hd, Around.frames_deeper e0.frames, .inr ⟨rfl, rfl⟩, fun b z => absurd (show b ∈ ([] : List Addr) from z) (by simp), e0.bs, e0.bsz, fun b _ _ z => absurd (show b ∈ ([] : List Addr) from z) (by simp), fun b z => absurd (show b ∈ ([] : List Addr) from z) (by simp), e0.funs, e0.frf⟩,
      rfl, e0.bare, Un.kept k1, ⟨_, hns, fun i z v h2 h3 h4 => ?_⟩, fun z a hz => ?_, e0.hok.fresh (Nat.le_refl _), fun z a hz => ?_, fun p hp => absurd (show p ∈ ([] : List (Addr × Obj)) from hp) (by simp), e0.hok.kept k1, (by rw [List.length_map]; exact T.len)⟩
    · have h2 : cl.lookup a = some cc := h2
      have h3 : cl.lookup b = some cc := h3
      exact T.inj _ _ _ h2 h3
    · obtain ⟨c, _, h1, _⟩ := atN a (T.only a ha)
      exact ⟨c, h1⟩
    · have h3' : (ws.map some)[i]? = some (some v) := h3
      rw [List.getElem?_map] at h3'
      obtain ⟨v', e', e''⟩ := Option.map_eq_some_iff.mp h3'
      cases e''
      obtain ⟨kx, c, u, h5, h6, h7⟩ := T.at_ i z v h2 e'
      exact ⟨u, h7, .inr ⟨.inr kx, c, h5, (cellB h6).1⟩⟩
    · obtain ⟨v, b⟩ := cells z a hz
      exact ⟨v, (cellB b).1⟩
    · obtain ⟨v, b⟩ := cells z a hz
      exact (cellB b).2
  refine PySem.W.kla_codeExpr (wpAny_mono (ht [] _ _ H _ I hq) (fun u s' hs => ?_) fun e s' hs => hs)
  obtain ⟨v, H', J, r, z⟩ := hs
  exact ⟨v, H', J.os, J.bare, J.base, J.hok, r, z⟩
end L2
set_option Elab.async false
set_option linter.all false
set_option maxRecDepth 100000
namespace L2
open PySem PySem.Spec PyProof.Rows
end L2
set_option Elab.async false
set_option linter.all false
set_option maxRecDepth 100000
set_option maxHeartbeats 40000000
namespace L2
open PySem PySem.Spec PyProof.Rows
end L2
set_option Elab.async false
set_option linter.all false
set_option maxRecDepth 100000
set_option maxHeartbeats 40000000
namespace L2
open PySem PySem.Spec PyProof.Rows
end L2
set_option Elab.async false
set_option linter.all false
set_option maxRecDepth 100000
set_option maxHeartbeats 4000000
namespace PyProof.Rows.Tim
open PySem
def gallop' : Bool → Keyed → Array Keyed → Nat → Nat → Nat → StateT SortSt Sem (Option Nat) := sortPriv% PySem.Builtin.gallop
def beyond' (left : Bool) (key : Keyed) (arr : Array Keyed) (base : Nat) (i : Nat) : StateT SortSt Sem (Option Bool) :=
 elem' arr (base + i) >>= fun x => if left = true then lt' x key else lt' key x >>= fun c => pure (c.map fun z => !z)
structure Ord (r : Keyed → Keyed → Bool) : Prop where
 asy : ∀ x y, r x y = true → r y x = false
 ntr : ∀ x y z, r y x = false → r z y = false → r z x = false
theorem Ord.irr {r : Keyed → Keyed → Bool} (o : Ord r) (x : Keyed) : r x x = false := by
 cases h : r x x with
 | false => rfl
 | true => have := o.asy x x h; rw [h] at this; cases this
section
variable {prog : Program} {w : World} {A : Around} {E : Value → Shared → Prop} {s : Shared} {κ : SortKind} {a₀ : Array Keyed} {r : Keyed → Keyed → Bool}
def Cmp (prog : Program) (w : World) (A : Around) (E : Value → Shared → Prop) (s : Shared) (κ : SortKind) (a₀ : Array Keyed) (r : Keyed → Keyed → Bool) : Prop :=
 ∀ (x y : Keyed) (st : SortSt) (Q : Option Bool → SortSt → Prop), x ∈ a₀.toList → y ∈ a₀.toList → kindOf st = κ → Q (some (r x y)) st → wpS (model prog w) A E s (lt' x y) Q st
theorem Zl {arr : Array Keyed} {i : Nat} {x : Keyed} {Q : Keyed → SortSt → Prop} {st : SortSt} (hx : arr[i]? = some x) (h : Q x st) : wpS (model prog w) A E s (elem' arr i) Q st := by
 rw [elem'_eq, hx]
 exact wpS_pure h
def bp (r : Keyed → Keyed → Bool) (left : Bool) (key x : Keyed) : Bool := if left = true then r x key else !r key x
theorem UV {left : Bool} {key : Keyed} {arr : Array Keyed} {base i : Nat} {x : Keyed} {Q : Option Bool → SortSt → Prop} {st : SortSt} (hc : Cmp prog w A E s κ a₀ r) (hk : kindOf st = κ) (hx : arr[base + i]? = some x) (mx : x ∈ a₀.toList) (mk : key ∈ a₀.toList) (h : Q (some (bp r left key x)) st) :
  wpS (model prog w) A E s (beyond' left key arr base i) Q st := by
 unfold beyond'
 refine wpS_bind (Zl hx ?_)
 cases left with
 | true =>
  rw [if_pos rfl]
  exact hc _ _ _ _ mx mk hk h
 | false =>
  rw [if_neg Bool.false_ne_true]
  exact wpS_bind (hc _ _ _ _ mk mx hk (wpS_pure h))
theorem ZB {left : Bool} {key : Keyed} {arr : Array Keyed} {base n hint : Nat} {Q : Option Nat → SortSt → Prop} {st : SortSt} (hc : Cmp prog w A E s κ a₀ r) (hk : kindOf st = κ) (p : Nat → Bool)
  (hp : ∀ i, i < n → ∃ x, arr[base + i]? = some x ∧ x ∈ a₀.toList ∧ p i = bp r left key x) (mk : key ∈ a₀.toList) (mono : ∀ i j, i ≤ j → j < n → p j = true → p i = true) (hh : hint < n)
  (h : ∀ k, k ≤ n → (∀ i, i < k → p i = true) → (∀ i, k ≤ i → i < n → p i = false) → Q (some k) st) : wpS (model prog w) A E s (gallop' left key arr base n hint) Q st := by
 have by_ : ∀ {i : Nat} {Q : Option Bool → SortSt → Prop}, i < n → Q (some (p i)) st → wpS (model prog w) A E s (beyond' left key arr base i) Q st := fun {i Q} hi hq => by
  obtain ⟨x, e, m, ep⟩ := hp i hi
  exact UV hc hk e m mk (by rw [← ep]; exact hq)
 have down : ∀ i j, i ≤ j → j < n → p i = false → p j = false := fun i j hij hj hf => by
  cases hh : p j with
  | false => rfl
  | true => rw [mono i j hij hj hh] at hf; cases hf
 show wpS (model prog w) A E s (beyond' left key arr base hint >>= _) _ _
 dsimp only
 refine wpS_bind (by_ hh ?_)
 cases hph : p hint with
 | true =>
  dsimp only
  rw [if_pos rfl]
  refine wpS_bind (wpS_forRange (I := fun x c st' => st' = st ∧ ∃ lastofs ofs, c = (none, lastofs, ofs) ∧ hint + lastofs < n ∧ p (hint + lastofs) = true ∧ lastofs < ofs ∧ x + 1 ≤ ofs) ?step1 ?fin1 ⟨rfl, 0, 1, rfl, hh, hph, by omega, by omega⟩)
  case fin1 =>
   rintro c st' ⟨rfl, lastofs, ofs, rfl, q1, q2, q3, q4⟩
   rw [Nat.max_eq_right (Nat.zero_le n)] at q4
   dsimp only
   refine wpS_bind (wpS_forRange (I := fun x c st2 => st2 = st' ∧ ∃ lo hi, c = (none, lo, hi) ∧ lo ≤ hi ∧ hi ≤ n ∧ (∀ i, i < lo → p i = true) ∧ (∀ i, hi ≤ i → i < n → p i = false) ∧ hi - lo ≤ n - x) ?_ ?_ ⟨rfl, _, _, rfl, (by omega), (by omega), (fun i hi => mono i (hint + lastofs) (by omega) q1 q2), (fun i h1 h2 => by omega), by omega⟩)
   ·rintro x c st2 _ hx ⟨rfl, lo, hi, rfl, h1, h2, h3, h4, h5⟩
    dsimp only
    by_cases hge : lo ≥ hi
    ·rw [if_pos hge]
     have e : lo = hi := by omega
     subst e
     exact wpS_pure (wpS_pure (h lo h2 h3 h4))
    ·rw [if_neg hge]
     have hm : lo + (hi - lo) / 2 < hi := by omega
     generalize em : lo + (hi - lo) / 2 = m at hm
     have hml : lo ≤ m := by omega
     refine wpS_bind (by_ (by omega) ?_)
     cases hpm : p m with
     | true => exact wpS_pure ⟨rfl, m + 1, hi, rfl, by omega, h2, fun i hi' => mono i m (by omega) (by omega) hpm, h4, by omega⟩
     | false => exact wpS_pure ⟨rfl, lo, m, rfl, hml, by omega, h3, fun i h1 h2 => down m i h1 h2 hpm, by omega⟩
   ·rintro c st2 ⟨rfl, lo, hi, rfl, h1, h2, h3, h4, h5⟩
    rw [Nat.max_eq_right (Nat.zero_le n)] at h5
    have e : lo = hi := by omega
    subst e
    exact wpS_pure (h lo h2 h3 h4)
  case step1 =>
   rintro x c st' _ hx ⟨rfl, lastofs, ofs, rfl, q1, q2, q3, q4⟩
   dsimp only
   by_cases hge : ofs ≥ n - hint
   ·rw [if_pos hge]
    refine wpS_pure ?_
    dsimp only
    refine wpS_bind (wpS_forRange (I := fun x c st2 => st2 = st' ∧ ∃ lo hi, c = (none, lo, hi) ∧ lo ≤ hi ∧ hi ≤ n ∧ (∀ i, i < lo → p i = true) ∧ (∀ i, hi ≤ i → i < n → p i = false) ∧ hi - lo ≤ n - x) ?_ ?_ ⟨rfl, _, _, rfl, (by omega), (by omega), (fun i hi => mono i (hint + lastofs) (by omega) q1 q2), (fun i h1 h2 => by omega), by omega⟩)
    ·rintro x c st2 _ hx ⟨rfl, lo, hi, rfl, h1, h2, h3, h4, h5⟩
     dsimp only
     by_cases hge : lo ≥ hi
     ·rw [if_pos hge]
      have e : lo = hi := by omega
      subst e
      exact wpS_pure (wpS_pure (h lo h2 h3 h4))
     ·rw [if_neg hge]
      have hm : lo + (hi - lo) / 2 < hi := by omega
      generalize em : lo + (hi - lo) / 2 = m at hm
      have hml : lo ≤ m := by omega
      refine wpS_bind (by_ (by omega) ?_)
      cases hpm : p m with
      | true => exact wpS_pure ⟨rfl, m + 1, hi, rfl, by omega, h2, fun i hi' => mono i m (by omega) (by omega) hpm, h4, by omega⟩
      | false => exact wpS_pure ⟨rfl, lo, m, rfl, hml, by omega, h3, fun i h1 h2 => down m i h1 h2 hpm, by omega⟩
    ·rintro c st2 ⟨rfl, lo, hi, rfl, h1, h2, h3, h4, h5⟩
     rw [Nat.max_eq_right (Nat.zero_le n)] at h5
     have e : lo = hi := by omega
     subst e
     exact wpS_pure (h lo h2 h3 h4)
   ·rw [if_neg hge]
    refine wpS_bind (by_ (by omega) ?_)
    cases hpo : p (hint + ofs) with
    | true => exact wpS_pure ⟨rfl, ofs, 2 * ofs + 1, rfl, by omega, hpo, by omega, by omega⟩
    | false =>
     refine wpS_pure ?_
     dsimp only
     refine wpS_bind (wpS_forRange (I := fun x c st2 => st2 = st' ∧ ∃ lo hi, c = (none, lo, hi) ∧ lo ≤ hi ∧ hi ≤ n ∧ (∀ i, i < lo → p i = true) ∧ (∀ i, hi ≤ i → i < n → p i = false) ∧ hi - lo ≤ n - x) ?_ ?_ ⟨rfl, _, _, rfl, (by omega), (by omega), (fun i hi => mono i (hint + lastofs) (by omega) q1 q2), (fun i h1 h2 => down (hint + ofs) i (by omega) h2 hpo), by omega⟩)
     ·rintro x c st2 _ hx ⟨rfl, lo, hi, rfl, h1, h2, h3, h4, h5⟩
      dsimp only
      by_cases hge : lo ≥ hi
      ·rw [if_pos hge]
       have e : lo = hi := by omega
       subst e
       exact wpS_pure (wpS_pure (h lo h2 h3 h4))
      ·rw [if_neg hge]
       have hm : lo + (hi - lo) / 2 < hi := by omega
       generalize em : lo + (hi - lo) / 2 = m at hm
       have hml : lo ≤ m := by omega
       refine wpS_bind (by_ (by omega) ?_)
       cases hpm : p m with
       | true => exact wpS_pure ⟨rfl, m + 1, hi, rfl, by omega, h2, fun i hi' => mono i m (by omega) (by omega) hpm, h4, by omega⟩
       | false => exact wpS_pure ⟨rfl, lo, m, rfl, hml, by omega, h3, fun i h1 h2 => down m i h1 h2 hpm, by omega⟩
     ·rintro c st2 ⟨rfl, lo, hi, rfl, h1, h2, h3, h4, h5⟩
      rw [Nat.max_eq_right (Nat.zero_le n)] at h5
      have e : lo = hi := by omega
      subst e
      exact wpS_pure (h lo h2 h3 h4)
 | false =>
  dsimp only
  rw [if_neg Bool.false_ne_true]
  refine wpS_bind (wpS_forRange (I := fun x c st' => st' = st ∧ ∃ lastofs ofs, c = (none, lastofs, ofs) ∧ lastofs ≤ hint ∧ p (hint - lastofs) = false ∧ lastofs < ofs ∧ x + 1 ≤ ofs) ?step2 ?fin2 ⟨rfl, 0, 1, rfl, by omega, hph, by omega, by omega⟩)
  case fin2 =>
   rintro c st' ⟨rfl, lastofs, ofs, rfl, q1, q2, q3, q4⟩
   rw [Nat.max_eq_right (Nat.zero_le n)] at q4
   dsimp only
   refine wpS_bind (wpS_forRange (I := fun x c st2 => st2 = st' ∧ ∃ lo hi, c = (none, lo, hi) ∧ lo ≤ hi ∧ hi ≤ n ∧ (∀ i, i < lo → p i = true) ∧ (∀ i, hi ≤ i → i < n → p i = false) ∧ hi - lo ≤ n - x) ?_ ?_ ⟨rfl, _, _, rfl, (by omega), (by omega), (fun i hi => by omega), (fun i h1 h2 => down (hint - lastofs) i (by omega) h2 q2), by omega⟩)
   ·rintro x c st2 _ hx ⟨rfl, lo, hi, rfl, h1, h2, h3, h4, h5⟩
    dsimp only
    by_cases hge : lo ≥ hi
    ·rw [if_pos hge]
     have e : lo = hi := by omega
     subst e
     exact wpS_pure (wpS_pure (h lo h2 h3 h4))
    ·rw [if_neg hge]
     have hm : lo + (hi - lo) / 2 < hi := by omega
     generalize em : lo + (hi - lo) / 2 = m at hm
     have hml : lo ≤ m := by omega
     refine wpS_bind (by_ (by omega) ?_)
     cases hpm : p m with
     | true => exact wpS_pure ⟨rfl, m + 1, hi, rfl, by omega, h2, fun i hi' => mono i m (by omega) (by omega) hpm, h4, by omega⟩
     | false => exact wpS_pure ⟨rfl, lo, m, rfl, hml, by omega, h3, fun i h1 h2 => down m i h1 h2 hpm, by omega⟩
   ·rintro c st2 ⟨rfl, lo, hi, rfl, h1, h2, h3, h4, h5⟩
    rw [Nat.max_eq_right (Nat.zero_le n)] at h5
    have e : lo = hi := by omega
    subst e
    exact wpS_pure (h lo h2 h3 h4)
  case step2 =>
   rintro x c st' _ hx ⟨rfl, lastofs, ofs, rfl, q1, q2, q3, q4⟩
   dsimp only
   by_cases hge : ofs ≥ hint + 1
   ·rw [if_pos hge]
    refine wpS_pure ?_
    dsimp only
    refine wpS_bind (wpS_forRange (I := fun x c st2 => st2 = st' ∧ ∃ lo hi, c = (none, lo, hi) ∧ lo ≤ hi ∧ hi ≤ n ∧ (∀ i, i < lo → p i = true) ∧ (∀ i, hi ≤ i → i < n → p i = false) ∧ hi - lo ≤ n - x) ?_ ?_ ⟨rfl, _, _, rfl, (by omega), (by omega), (fun i hi => by omega), (fun i h1 h2 => down (hint - lastofs) i (by omega) h2 q2), by omega⟩)
    ·rintro x c st2 _ hx ⟨rfl, lo, hi, rfl, h1, h2, h3, h4, h5⟩
     dsimp only
     by_cases hge : lo ≥ hi
     ·rw [if_pos hge]
      have e : lo = hi := by omega
      subst e
      exact wpS_pure (wpS_pure (h lo h2 h3 h4))
     ·rw [if_neg hge]
      have hm : lo + (hi - lo) / 2 < hi := by omega
      generalize em : lo + (hi - lo) / 2 = m at hm
      have hml : lo ≤ m := by omega
      refine wpS_bind (by_ (by omega) ?_)
      cases hpm : p m with
      | true => exact wpS_pure ⟨rfl, m + 1, hi, rfl, by omega, h2, fun i hi' => mono i m (by omega) (by omega) hpm, h4, by omega⟩
      | false => exact wpS_pure ⟨rfl, lo, m, rfl, hml, by omega, h3, fun i h1 h2 => down m i h1 h2 hpm, by omega⟩
    ·rintro c st2 ⟨rfl, lo, hi, rfl, h1, h2, h3, h4, h5⟩
     rw [Nat.max_eq_right (Nat.zero_le n)] at h5
     have e : lo = hi := by omega
     subst e
     exact wpS_pure (h lo h2 h3 h4)
   ·rw [if_neg hge]
    refine wpS_bind (by_ (by omega) ?_)
    cases hpo : p (hint - ofs) with
    | true =>
     refine wpS_pure ?_
     dsimp only
     refine wpS_bind (wpS_forRange (I := fun x c st2 => st2 = st' ∧ ∃ lo hi, c = (none, lo, hi) ∧ lo ≤ hi ∧ hi ≤ n ∧ (∀ i, i < lo → p i = true) ∧ (∀ i, hi ≤ i → i < n → p i = false) ∧ hi - lo ≤ n - x) ?_ ?_ ⟨rfl, _, _, rfl, (by omega), (by omega), (fun i hi => mono i (hint - ofs) (by omega) (by omega) hpo), (fun i h1 h2 => down (hint - lastofs) i (by omega) h2 q2), by omega⟩)
     ·rintro x c st2 _ hx ⟨rfl, lo, hi, rfl, h1, h2, h3, h4, h5⟩
      dsimp only
      by_cases hge : lo ≥ hi
      ·rw [if_pos hge]
       have e : lo = hi := by omega
       subst e
       exact wpS_pure (wpS_pure (h lo h2 h3 h4))
      ·rw [if_neg hge]
       have hm : lo + (hi - lo) / 2 < hi := by omega
       generalize em : lo + (hi - lo) / 2 = m at hm
       have hml : lo ≤ m := by omega
       refine wpS_bind (by_ (by omega) ?_)
       cases hpm : p m with
       | true => exact wpS_pure ⟨rfl, m + 1, hi, rfl, by omega, h2, fun i hi' => mono i m (by omega) (by omega) hpm, h4, by omega⟩
       | false => exact wpS_pure ⟨rfl, lo, m, rfl, hml, by omega, h3, fun i h1 h2 => down m i h1 h2 hpm, by omega⟩
     ·rintro c st2 ⟨rfl, lo, hi, rfl, h1, h2, h3, h4, h5⟩
      rw [Nat.max_eq_right (Nat.zero_le n)] at h5
      have e : lo = hi := by omega
      subst e
      exact wpS_pure (h lo h2 h3 h4)
    | false => exact wpS_pure ⟨rfl, ofs, 2 * ofs + 1, rfl, by omega, hpo, by omega, by omega⟩
end
end PyProof.Rows.Tim
set_option Elab.async false
set_option linter.all false
set_option maxRecDepth 100000
set_option maxHeartbeats 4000000
namespace PyProof.Rows.Tim
open PySem
def setMinGallop' : Nat → StateT SortSt Sem Unit := sortPriv% PySem.Builtin.setMinGallop
def mergeLo' : Array Keyed → Array Keyed → StateT SortSt Sem (Array Keyed) := sortPriv% PySem.Builtin.mergeLo
theorem Jq (g : Nat) : setMinGallop' g = modify fun s => SortSt.mk' (kindOf s) (arrOf s) (pendingOf s) g (failedOf s) := rfl
abbrev Pw (r : Keyed → Keyed → Bool) (l : List Keyed) : Prop := l.Pairwise fun x y => r y x = false
def SG (st st' : SortSt) : Prop := kindOf st' = kindOf st ∧ arrOf st' = arrOf st ∧ pendingOf st' = pendingOf st ∧ failedOf st' = failedOf st
theorem SG.refl (st : SortSt) : SG st st := ⟨rfl, rfl, rfl, rfl⟩
def Good (r : Keyed → Keyed → Bool) (a b res : Array Keyed) : Prop := res.toList.Perm (a.toList ++ b.toList) ∧ Pw r res.toList
structure JW (r : Keyed → Keyed → Bool) (a b out : Array Keyed) (ia ib : Nat) : Prop where
 perm : (out.toList ++ (a.toList.drop ia ++ b.toList.drop ib)).Perm (a.toList ++ b.toList)
 srt : Pw r out.toList
 bel : ∀ x ∈ out.toList, ∀ y ∈ a.toList.drop ia ++ b.toList.drop ib, r y x = false
structure MCx (r : Keyed → Keyed → Bool) (a b : Array Keyed) : Prop where
 o : Ord r
 sa : Pw r a.toList
 sb : Pw r b.toList
theorem YZ {α : Type} {l : List α} {i : Nat} {x : α} (h : l[i]? = some x) : l.drop i = x :: l.drop (i + 1) := by
 obtain ⟨hi, e⟩ := List.getElem?_eq_some_iff.mp h
 rw [List.drop_eq_getElem_cons hi, e]
theorem Zt {xs : Array Keyed} {i : Nat} {x : Keyed} (h : xs[i]? = some x) : xs.toList[i]? = some x := by rw [Array.getElem?_toList]; exact h
theorem Ze {xs : Array Keyed} {i : Nat} (h : i < xs.size) : ∃ x, xs[i]? = some x := ⟨xs[i], getElem?_pos xs i h⟩
theorem Jc {r : Keyed → Keyed → Bool} {l : List Keyed} {i : Nat} {x : Keyed} (o : Ord r) (p : Pw r l) (h : l[i]? = some x) : ∀ y ∈ l.drop i, r y x = false := fun y hy => by
 rw [YZ h] at hy
 rcases List.mem_cons.mp hy with rfl | hy
 ·exact o.irr _
 ·have q : Pw r (l.drop i) := List.Pairwise.sublist (List.drop_sublist i l) p
  rw [YZ h] at q
  exact (List.pairwise_cons.mp q).1 y hy
theorem Jx (xs : Array Keyed) (i j : Nat) : (xs.extract i j).toList = (xs.toList.drop i).take (j - i) := by
 rw [Array.toList_extract, List.extract_eq_drop_take]
theorem JP (xs : Array Keyed) (i : Nat) : (xs.extract i xs.size).toList = xs.toList.drop i := by
 rw [Jx, List.take_of_length_le (by rw [List.length_drop, Array.length_toList]; exact Nat.le_refl _)]
section
variable {r : Keyed → Keyed → Bool} {a b out : Array Keyed} {ia ib : Nat}
theorem JW.pushA (C : MCx r a b) (J : JW r a b out ia ib) {x : Keyed} (hx : a[ia]? = some x) (h : ∀ y, b[ib]? = some y → r y x = false) : JW r a b (out.push x) (ia + 1) ib := by
 have hx' := Zt hx
 have hd := YZ hx'
 have low : ∀ y ∈ a.toList.drop (ia + 1) ++ b.toList.drop ib, r y x = false := fun y hy => by
  rcases List.mem_append.mp hy with hy | hy
  ·exact Jc C.o C.sa hx' y (by rw [hd]; exact List.mem_cons_of_mem _ hy)
  ·cases e : b[ib]? with
   | none =>
    rw [← Array.getElem?_toList] at e
    rw [List.drop_eq_nil_of_le (by rw [List.getElem?_eq_none_iff] at e; exact e)] at hy
    cases hy
   | some z =>
    have h1 := Jc C.o C.sb (Zt e) y hy
    exact C.o.ntr x z y (h z e) h1
 refine ⟨?_, ?_, fun u hu y hy => ?_⟩
 ·rw [Array.toList_push, List.append_assoc]
  have := J.perm
  rw [hd] at this
  exact this
 ·rw [Array.toList_push]
  refine List.pairwise_append.mpr ⟨J.srt, List.pairwise_singleton _ _, fun u hu v hv => ?_⟩
  rw [List.mem_singleton.mp hv]
  exact J.bel u hu x (List.mem_append_left _ (by rw [hd]; exact List.mem_cons_self))
 ·rw [Array.toList_push] at hu
  rcases List.mem_append.mp hu with hu | hu
  ·refine J.bel u hu y ?_
   rcases List.mem_append.mp hy with hy | hy
   ·exact List.mem_append_left _ (by rw [hd]; exact List.mem_cons_of_mem _ hy)
   ·exact List.mem_append_right _ hy
  ·rw [List.mem_singleton.mp hu]
   exact low y hy
theorem JW.pushB (C : MCx r a b) (J : JW r a b out ia ib) {y : Keyed} (hy : b[ib]? = some y) (h : ∀ x, a[ia]? = some x → r x y = false) : JW r a b (out.push y) ia (ib + 1) := by
 have hy' := Zt hy
 have hd := YZ hy'
 have low : ∀ z ∈ a.toList.drop ia ++ b.toList.drop (ib + 1), r z y = false := fun z hz => by
  rcases List.mem_append.mp hz with hz | hz
  ·cases e : a[ia]? with
   | none =>
    rw [← Array.getElem?_toList] at e
    rw [List.drop_eq_nil_of_le (by rw [List.getElem?_eq_none_iff] at e; exact e)] at hz
    cases hz
   | some x =>
    have h1 := Jc C.o C.sa (Zt e) z hz
    exact C.o.ntr y x z (h x e) h1
  ·exact Jc C.o C.sb hy' z (by rw [hd]; exact List.mem_cons_of_mem _ hz)
 refine ⟨?_, ?_, fun u hu z hz => ?_⟩
 ·rw [Array.toList_push, List.append_assoc]
  have := J.perm
  rw [hd] at this
  refine List.Perm.trans (List.Perm.append_left _ ?_) this
  exact (show (y :: (a.toList.drop ia ++ b.toList.drop (ib + 1))).Perm _ from List.perm_middle.symm)
 ·rw [Array.toList_push]
  refine List.pairwise_append.mpr ⟨J.srt, List.pairwise_singleton _ _, fun u hu v hv => ?_⟩
  rw [List.mem_singleton.mp hv]
  exact J.bel u hu y (List.mem_append_right _ (by rw [hd]; exact List.mem_cons_self))
 ·rw [Array.toList_push] at hu
  rcases List.mem_append.mp hu with hu | hu
  ·refine J.bel u hu z ?_
   rcases List.mem_append.mp hz with hz | hz
   ·exact List.mem_append_left _ hz
   ·exact List.mem_append_right _ (by rw [hd]; exact List.mem_cons_of_mem _ hz)
  ·rw [List.mem_singleton.mp hu]
   exact low z hz
theorem UN {xs : Array Keyed} {i k : Nat} {x : Keyed} (hx : xs[i + k]? = some x) : xs.extract i (i + (k + 1)) = (xs.extract i (i + k)).push x := by
 obtain ⟨h, e⟩ := Array.getElem?_eq_some_iff.mp hx
 rw [← e, ← Nat.add_assoc, Array.extract_succ_right (by omega) h]
theorem JW.runA (C : MCx r a b) (J : JW r a b out ia ib) : ∀ k, ia + k ≤ a.size → (∀ i, i < k → ∀ x y, a[ia + i]? = some x → b[ib]? = some y → r y x = false) → JW r a b (out ++ a.extract ia (ia + k)) (ia + k) ib
 | 0, _, _ => by
  rw [Nat.add_zero]
  have e : a.extract ia ia = #[] := by simp; omega
  rw [e, Array.append_empty]
  exact J
 | k + 1, hk, h => by
  obtain ⟨x, hx⟩ := Ze (xs := a) (i := ia + k) (by omega)
  have ih := JW.runA C J k (by omega) fun i hi => h i (by omega)
  have := ih.pushA C hx fun y hy => h k (by omega) x y hx hy
  rw [UN hx, Array.append_push]
  exact this
theorem JW.runB (C : MCx r a b) (J : JW r a b out ia ib) : ∀ k, ib + k ≤ b.size → (∀ i, i < k → ∀ y x, b[ib + i]? = some y → a[ia]? = some x → r x y = false) → JW r a b (out ++ b.extract ib (ib + k)) ia (ib + k)
 | 0, _, _ => by
  rw [Nat.add_zero]
  have e : b.extract ib ib = #[] := by simp; omega
  rw [e, Array.append_empty]
  exact J
 | k + 1, hk, h => by
  obtain ⟨y, hy⟩ := Ze (xs := b) (i := ib + k) (by omega)
  have ih := JW.runB C J k (by omega) fun i hi => h i (by omega)
  have := ih.pushB C hy fun x hx => h k (by omega) y x hy hx
  rw [UN hy, Array.append_push]
  exact this
theorem JW.done (C : MCx r a b) (J : JW r a b out ia ib) (h : a.size ≤ ia ∨ b.size ≤ ib) : Good r a b (out ++ a.extract ia a.size ++ b.extract ib b.size) := by
 unfold Good
 rw [Array.toList_append, Array.toList_append, JP, JP]
 refine ⟨by rw [List.append_assoc]; exact J.perm, ?_⟩
 have pa : Pw r (a.toList.drop ia) := List.Pairwise.sublist (List.drop_sublist _ _) C.sa
 have pb : Pw r (b.toList.drop ib) := List.Pairwise.sublist (List.drop_sublist _ _) C.sb
 rw [List.append_assoc]
 refine List.pairwise_append.mpr ⟨J.srt, ?_, J.bel⟩
 rcases h with h | h
 ·rw [List.drop_eq_nil_of_le (by rw [Array.length_toList]; exact h), List.nil_append]
  exact pb
 ·rw [List.drop_eq_nil_of_le (as := b.toList) (by rw [Array.length_toList]; exact h), List.append_nil]
  exact pa
theorem JW.last (C : MCx r a b) (J : JW r a b out ia ib) (h : ia + 1 = a.size) (hl : ∀ x, a[a.size - 1]? = some x → ∀ y ∈ b.toList, r x y = false) : Good r a b (out ++ b.extract ib b.size ++ a.extract ia a.size) := by
 unfold Good
 rw [Array.toList_append, Array.toList_append, JP, JP]
 obtain ⟨x, hx⟩ := Ze (xs := a) (i := ia) (by omega)
 have ed : a.toList.drop ia = [x] := by
  rw [YZ (Zt hx), List.drop_eq_nil_of_le (by rw [Array.length_toList]; omega)]
 have P := J.perm
 have B := J.bel
 rw [ed] at P B ⊢
 have pb : Pw r (b.toList.drop ib) := List.Pairwise.sublist (List.drop_sublist _ _) C.sb
 refine ⟨?_, ?_⟩
 ·rw [List.append_assoc]
  exact List.Perm.trans (List.Perm.append_left _ List.perm_append_comm) P
 ·rw [List.append_assoc]
  refine List.pairwise_append.mpr ⟨J.srt, List.pairwise_append.mpr ⟨pb, List.pairwise_singleton _ _, fun y hy z hz => ?_⟩, fun u hu z hz => B u hu z ?_⟩
  ·rw [List.mem_singleton.mp hz]
   exact hl x (by rw [show a.size - 1 = ia by omega]; exact hx) y (List.mem_of_mem_drop hy)
  ·rcases List.mem_append.mp hz with hz | hz
   ·exact List.mem_append_right _ hz
   ·exact List.mem_append_left _ hz
end
theorem Zq {xs : Array Keyed} {i : Nat} {x : Keyed} (h : xs[i]? = some x) : x ∈ xs.toList := List.mem_of_getElem? (Zt h)
theorem Z7 {r : Keyed → Keyed → Bool} {l : List Keyed} {i j : Nat} {x y : Keyed} (o : Ord r) (p : Pw r l) (hx : l[i]? = some x) (hy : l[j]? = some y) (h : i ≤ j) : r y x = false := by
 refine Jc o p hx y ?_
 have : (l.drop i)[j - i]? = some y := by rw [List.getElem?_drop, show i + (j - i) = j by omega]; exact hy
 exact List.mem_of_getElem? this
theorem Jg {r : Keyed → Keyed → Bool} {x y z : Keyed} (o : Ord r) (h : r y z = true) (h2 : r y x = false) : r x z = true := by
 cases e : r x z with
 | true => rfl
 | false =>
  have := o.ntr z x y e h2
  rw [h] at this
  cases this
section
variable {prog : Program} {w : World} {A : Around} {E : Value → Shared → Prop} {s : Shared} {κ : SortKind} {a₀ : Array Keyed} {r : Keyed → Keyed → Bool}
theorem Yw {g : Nat} {Q : Unit → SortSt → Prop} {st : SortSt} (h : Q () (SortSt.mk' (kindOf st) (arrOf st) (pendingOf st) g (failedOf st))) : wpS (model prog w) A E s (setMinGallop' g) Q st := by
 rw [Jq]
 exact wpS_modify h
theorem Ui {a b : Array Keyed} {Q : Array Keyed → SortSt → Prop} {st : SortSt} (hc : Cmp prog w A E s κ a₀ r) (hk : kindOf st = κ) (C : MCx r a b) (ma : ∀ x ∈ a.toList, x ∈ a₀.toList) (mb : ∀ x ∈ b.toList, x ∈ a₀.toList) (na : 1 ≤ a.size) (nb : 1 ≤ b.size)
  (h0 : ∀ y, b[0]? = some y → ∀ x ∈ a.toList, r x y = false) (hl : ∀ x, a[a.size - 1]? = some x → ∀ y ∈ b.toList, r x y = false)
  (h : ∀ res st', SG st st' → Good r a b res → Q res st') : wpS (model prog w) A E s (mergeLo' a b) Q st := by
 show wpS (model prog w) A E s (_ >>= _) _ _
 try dsimp only
 refine wpS_bind (wpS_lift (wpAny_rule ⟨rfl, ?_⟩))
 obtain ⟨y0, hy0⟩ := Ze (xs := b) (i := 0) (by omega)
 refine wpS_bind (Zl hy0 ?_)
 have J0 : JW r a b #[y0] 0 1 := by
  have e : JW r a b #[] 0 0 := ⟨by simp, .nil, fun x hx => by cases hx⟩
  exact e.pushB C hy0 fun x hx => h0 y0 hy0 x (Zq hx)
 by_cases hz0 : (1 == b.size) = true
 ·rw [if_pos hz0]
  exact wpS_pure (h _ _ (SG.refl _) (J0.done C (.inr (by have := beq_iff_eq.mp hz0; omega))))
 rw [if_neg hz0]
 by_cases hz1 : (0 + 1 == a.size) = true
 ·rw [if_pos hz1]
  exact wpS_pure (h _ _ (SG.refl _) (J0.last C (by have := beq_iff_eq.mp hz1; omega) hl))
 rw [if_neg hz1]
 have hz0' : ¬ (1 = b.size) := fun z => hz0 (beq_iff_eq.mpr z)
 have hz1' : ¬ (0 + 1 = a.size) := fun z => hz1 (beq_iff_eq.mpr z)
 refine wpS_bind (wpS_get ?_)
 refine wpS_bind (wpS_mono (wpS_forRange (I := fun x c st1 => SG st st1 ∧ ∃ out ia ib g, c = (none, out, ia, ib, g) ∧ JW r a b out ia ib ∧ ia + 1 < a.size ∧ ib < b.size ∧ x + 1 ≤ ia + ib) (Q := fun c st1 => SG st st1 ∧ ∃ res, c.fst = some res ∧ Good r a b res) ?step ?fin ⟨SG.refl _, _, _, _, _, rfl, J0, by omega, by omega, by omega⟩) ?post)
 case post =>
  rintro c st1 ⟨sg1, res, ec, gd⟩
  rw [ec]
  exact wpS_pure (h res st1 sg1 gd)
 case fin =>
  rintro c st1 ⟨_, out, ia, ib, g, _, _, i1, i2, i3⟩
  rw [Nat.max_eq_right (Nat.zero_le _)] at i3
  omega
 case step =>
  rintro x c st1 _ hx ⟨sg1, out, ia, ib, g, rfl, J, i1, i2, i3⟩
  dsimp only
  have hk1 : kindOf st1 = κ := by rw [sg1.1]; exact hk
  refine wpS_bind (wpS_mono (wpS_forRange (I := fun y c st2 => st2 = st1 ∧ ∃ out' ia' ib' ac bc, c = (none, out', ia', ib', ac, bc) ∧ JW r a b out' ia' ib' ∧ ia' + 1 < a.size ∧ ib' < b.size ∧ ia + ib + y ≤ ia' + ib')
   (Q := fun c st2 => st2 = st1 ∧ ((∃ res, c.fst = some res ∧ Good r a b res) ∨ ∃ out' ia' ib' ac bc, c = (none, out', ia', ib', ac, bc) ∧ JW r a b out' ia' ib' ∧ ia' + 1 < a.size ∧ ib' < b.size ∧ ia + ib + 1 ≤ ia' + ib')) ?_ ?_ ⟨rfl, _, _, _, _, _, rfl, J, i1, i2, by omega⟩) ?_)
  ·rintro y c st2 _ hy ⟨rfl, out', ia', ib', ac, bc, rfl, J', j1, j2, j3⟩
   dsimp only
   obtain ⟨yb, hyb⟩ := Ze (xs := b) (i := ib') (by omega)
   obtain ⟨xa, hxa⟩ := Ze (xs := a) (i := ia') (by omega)
   refine wpS_bind (Zl hyb (wpS_bind (Zl hxa (wpS_bind (hc _ _ _ _ (mb _ (Zq hyb)) (ma _ (Zq hxa)) hk1 ?_)))))
   dsimp only
   cases hr : r yb xa with
   | true =>
    rw [if_pos rfl]
    refine wpS_bind (Zl hyb ?_)
    have J2 := J'.pushB C hyb (fun x hx => by rw [hxa] at hx; cases hx; exact C.o.asy _ _ hr)
    by_cases hz : (ib' + 1 == b.size) = true
    ·rw [if_pos hz]
     exact wpS_pure ⟨rfl, .inl ⟨_, rfl, J2.done C (.inr (by have := beq_iff_eq.mp hz; omega))⟩⟩
    rw [if_neg hz]
    have hz' : ¬ (ib' + 1 = b.size) := fun z => hz (beq_iff_eq.mpr z)
    by_cases hg : bc + 1 ≥ g
    ·rw [if_pos hg]
     exact wpS_pure ⟨rfl, .inr ⟨_, _, _, _, _, rfl, J2, by omega, by omega, by omega⟩⟩
    ·rw [if_neg hg]
     exact wpS_pure ⟨rfl, _, _, _, _, _, rfl, J2, by omega, by omega, by omega⟩
   | false =>
    rw [if_neg Bool.false_ne_true]
    refine wpS_bind (Zl hxa ?_)
    have J2 := J'.pushA C hxa (fun x hx => by rw [hyb] at hx; cases hx; exact hr)
    by_cases hz : (ia' + 1 + 1 == a.size) = true
    ·rw [if_pos hz]
     exact wpS_pure ⟨rfl, .inl ⟨_, rfl, J2.last C (by have := beq_iff_eq.mp hz; omega) hl⟩⟩
    rw [if_neg hz]
    have hz' : ¬ (ia' + 1 + 1 = a.size) := fun z => hz (beq_iff_eq.mpr z)
    by_cases hg : ac + 1 ≥ g
    ·rw [if_pos hg]
     exact wpS_pure ⟨rfl, .inr ⟨_, _, _, _, _, rfl, J2, by omega, by omega, by omega⟩⟩
    ·rw [if_neg hg]
     exact wpS_pure ⟨rfl, _, _, _, _, _, rfl, J2, by omega, by omega, by omega⟩
  ·rintro c st2 ⟨rfl, out', ia', ib', ac, bc, rfl, J', j1, j2, j3⟩
   rw [Nat.max_eq_right (Nat.zero_le _)] at j3
   omega
  rintro c st2 ⟨rfl, ⟨res, ec, gd⟩ | ⟨out', ia', ib', ac, bc, rfl, J', j1, j2, j3⟩⟩
  ·rw [ec]
   exact wpS_pure ⟨sg1, res, rfl, gd⟩
  dsimp only
  refine wpS_bind (wpS_lift (wpAny_rule ⟨rfl, ?_⟩))
  refine wpS_bind (wpS_mono (wpS_forRange (I := fun y c st2 => SG st st2 ∧ ∃ out ia ib g ac bc, c = (none, out, ia, ib, g, ac, bc) ∧ JW r a b out ia ib ∧ ia + 1 < a.size ∧ ib < b.size ∧ ia' + ib' + y ≤ ia + ib)
   (Q := fun c st2 => SG st st2 ∧ ((∃ res, c.fst = some res ∧ Good r a b res) ∨ ∃ out ia ib g ac bc, c = (none, out, ia, ib, g, ac, bc) ∧ JW r a b out ia ib ∧ ia + 1 < a.size ∧ ib < b.size ∧ ia' + ib' ≤ ia + ib)) ?_ ?_ ⟨sg1, _, _, _, _, _, _, rfl, J', j1, j2, by omega⟩) ?_)
  ·clear J i1 i2 hk1
   rintro y c st2 _ hy ⟨sg2, out, ia2, ib2, g, ac, bc, rfl, J, i1, i2, i4⟩
   dsimp only
   revert J i1 i2 i4
   have ii3 : ia + ib + 1 ≤ ia' + ib' := j3
   clear j3 i3
   generalize ia2 = ia
   generalize ib2 = ib
   intro J i1 i2 i4
   by_cases hg1 : g > 1
   ·rw [if_pos hg1]
    refine wpS_bind (Yw ?_)
    generalize hg3 : SortSt.mk' _ _ _ _ _ = st3
    have sg3 : SG st st3 := by rw [← hg3]; exact sg2
    have hk3 : kindOf st3 = κ := by rw [sg3.1]; exact hk
    obtain ⟨y2, hy2⟩ := Ze (xs := b) (i := ib) (by omega)
    refine wpS_bind (Zl hy2 ?_)
    refine wpS_bind (ZB hc hk3 (fun i => match a[ia + i]? with | some x => !r y2 x | none => false) (fun i hi => ?_) (mb y2 (Zq hy2)) (fun i j hij hj hp => ?_) (by omega) fun k kn klo khi => ?_)
    ·obtain ⟨x, hx⟩ := Ze (xs := a) (i := ia + i) (by omega)
     refine ⟨x, hx, ma x (Zq hx), ?_⟩
     try dsimp only
     rw [hx]
     rfl
    ·obtain ⟨xj, hxj⟩ := Ze (xs := a) (i := ia + j) (by omega)
     obtain ⟨xi, hxi⟩ := Ze (xs := a) (i := ia + i) (by omega)
     try dsimp only at hp ⊢
     rw [hxj] at hp
     rw [hxi]
     rw [Bool.not_eq_true'] at hp ⊢
     exact C.o.ntr _ _ _ (Z7 C.o C.sa (Zt hxi) (Zt hxj) (by omega)) hp
    try dsimp only
    by_cases hk0 : k > 0
    ·rw [if_pos hk0]
     have J1 := J.runA C k (by omega) (fun i hi x y hx hy => by
      rw [hy2] at hy
      cases hy
      have := klo i hi
      try dsimp only at this
      rw [hx, Bool.not_eq_true'] at this
      exact this)
     by_cases hz0 : (ia + k + 1 == a.size) = true
     ·rw [if_pos hz0]
      exact wpS_pure ⟨sg3, .inl ⟨_, rfl, J1.last C (by have := beq_iff_eq.mp hz0; omega) hl⟩⟩
     rw [if_neg hz0]
     by_cases hz1 : (ia + k == a.size) = true
     ·rw [if_pos hz1]
      exact wpS_pure ⟨sg3, .inl ⟨_, rfl, J1.done C (.inl (by have := beq_iff_eq.mp hz1; omega))⟩⟩
     rw [if_neg hz1]
     have hz0' : ¬ (ia + k + 1 = a.size) := fun z => hz0 (beq_iff_eq.mpr z)
     have hz1' : ¬ (ia + k = a.size) := fun z => hz1 (beq_iff_eq.mpr z)
     refine wpS_bind (Zl hy2 ?_)
     have J2 := J1.pushB C hy2 (fun x hx => by
      have := khi k (Nat.le_refl _) (by omega)
      try dsimp only at this
      rw [hx, Bool.not_eq_false'] at this
      exact C.o.asy _ _ this)
     by_cases hz : (ib + 1 == b.size) = true
     ·rw [if_pos hz]
      exact wpS_pure ⟨sg3, .inl ⟨_, rfl, J2.done C (.inr (by have := beq_iff_eq.mp hz; omega))⟩⟩
     rw [if_neg hz]
     have hz' : ¬ (ib + 1 = b.size) := fun z => hz (beq_iff_eq.mpr z)
     obtain ⟨x3, hx3⟩ := Ze (xs := a) (i := ia + k) (by omega)
     refine wpS_bind (Zl hx3 ?_)
     refine wpS_bind (ZB hc hk3 (fun i => match b[ib + 1 + i]? with | some y => r y x3 | none => false) (fun i hi => ?_) (ma x3 (Zq hx3)) (fun i j hij hj hp => ?_) (by omega) fun k1 k1n klo khi => ?_)
     ·obtain ⟨y, hy⟩ := Ze (xs := b) (i := ib + 1 + i) (by omega)
      refine ⟨y, hy, mb y (Zq hy), ?_⟩
      try dsimp only
      rw [hy]
      rfl
     ·obtain ⟨yj, hyj⟩ := Ze (xs := b) (i := ib + 1 + j) (by omega)
      obtain ⟨yi, hyi⟩ := Ze (xs := b) (i := ib + 1 + i) (by omega)
      try dsimp only at hp ⊢
      rw [hyj] at hp
      rw [hyi]
      exact Jg C.o hp (Z7 C.o C.sb (Zt hyi) (Zt hyj) (by omega))
     try dsimp only
     by_cases hk1 : k1 > 0
     ·rw [if_pos hk1]
      have J3 := J2.runB C k1 (by omega) (fun i hi y x hy hx => by
       rw [hx3] at hx
       cases hx
       have := klo i hi
       try dsimp only at this
       rw [hy] at this
       exact C.o.asy _ _ this)
      by_cases hz2 : (ib + 1 + k1 == b.size) = true
      ·rw [if_pos hz2]
       exact wpS_pure ⟨sg3, .inl ⟨_, rfl, J3.done C (.inr (by have := beq_iff_eq.mp hz2; omega))⟩⟩
      rw [if_neg hz2]
      have hz2' : ¬ (ib + 1 + k1 = b.size) := fun z => hz2 (beq_iff_eq.mpr z)
      obtain ⟨x4, hx4⟩ := Ze (xs := a) (i := ia + k) (by omega)
      refine wpS_bind (Zl hx4 ?_)
      have J4 := J3.pushA C hx4 (fun y hy => by
       have := khi k1 (Nat.le_refl _) (by omega)
       try dsimp only at this
       rw [hy] at this
       have e : x4 = x3 := by rw [hx3] at hx4; exact (Option.some.inj hx4).symm
       rw [e]
       exact this)
      by_cases hz : (ia + k + 1 + 1 == a.size) = true
      ·rw [if_pos hz]
       exact wpS_pure ⟨sg3, .inl ⟨_, rfl, J4.last C (by have := beq_iff_eq.mp hz; omega) hl⟩⟩
      ·rw [if_neg hz]
       have hz' : ¬ (ia + k + 1 + 1 = a.size) := fun z => hz (beq_iff_eq.mpr z)
       by_cases h7 : (decide (k < 7) && decide (k1 < 7)) = true
       ·rw [if_pos h7]
        exact wpS_pure ⟨sg3, .inr ⟨_, _, _, _, _, _, rfl, J4, by omega, by omega, by omega⟩⟩
       ·rw [if_neg h7]
        exact wpS_pure ⟨sg3, _, _, _, _, _, _, rfl, J4, by omega, by omega, by omega⟩
     ·rw [if_neg hk1]
      obtain rfl : k1 = 0 := by omega
      obtain ⟨x4, hx4⟩ := Ze (xs := a) (i := ia + k) (by omega)
      refine wpS_bind (Zl hx4 ?_)
      have J4 := J2.pushA C hx4 (fun y hy => by
       have := khi 0 (Nat.le_refl _) (by omega)
       try dsimp only at this
       rw [Nat.add_zero, hy] at this
       have e : x4 = x3 := by rw [hx3] at hx4; exact (Option.some.inj hx4).symm
       rw [e]
       exact this)
      by_cases hz : (ia + k + 1 + 1 == a.size) = true
      ·rw [if_pos hz]
       exact wpS_pure ⟨sg3, .inl ⟨_, rfl, J4.last C (by have := beq_iff_eq.mp hz; omega) hl⟩⟩
      ·rw [if_neg hz]
       have hz' : ¬ (ia + k + 1 + 1 = a.size) := fun z => hz (beq_iff_eq.mpr z)
       by_cases h7 : (decide (k < 7) && decide (0 < 7)) = true
       ·rw [if_pos h7]
        exact wpS_pure ⟨sg3, .inr ⟨_, _, _, _, _, _, rfl, J4, by omega, by omega, by omega⟩⟩
       ·rw [if_neg h7]
        exact wpS_pure ⟨sg3, _, _, _, _, _, _, rfl, J4, by omega, by omega, by omega⟩
    ·rw [if_neg hk0]
     obtain rfl : k = 0 := by omega
     refine wpS_bind (Zl hy2 ?_)
     have J2 := J.pushB C hy2 (fun x hx => by
      have := khi 0 (Nat.le_refl _) (by omega)
      try dsimp only at this
      rw [Nat.add_zero, hx, Bool.not_eq_false'] at this
      exact C.o.asy _ _ this)
     by_cases hz : (ib + 1 == b.size) = true
     ·rw [if_pos hz]
      exact wpS_pure ⟨sg3, .inl ⟨_, rfl, J2.done C (.inr (by have := beq_iff_eq.mp hz; omega))⟩⟩
     rw [if_neg hz]
     have hz' : ¬ (ib + 1 = b.size) := fun z => hz (beq_iff_eq.mpr z)
     obtain ⟨x3, hx3⟩ := Ze (xs := a) (i := ia) (by omega)
     refine wpS_bind (Zl hx3 ?_)
     refine wpS_bind (ZB hc hk3 (fun i => match b[ib + 1 + i]? with | some y => r y x3 | none => false) (fun i hi => ?_) (ma x3 (Zq hx3)) (fun i j hij hj hp => ?_) (by omega) fun k1 k1n klo khi => ?_)
     ·obtain ⟨y, hy⟩ := Ze (xs := b) (i := ib + 1 + i) (by omega)
      refine ⟨y, hy, mb y (Zq hy), ?_⟩
      try dsimp only
      rw [hy]
      rfl
     ·obtain ⟨yj, hyj⟩ := Ze (xs := b) (i := ib + 1 + j) (by omega)
      obtain ⟨yi, hyi⟩ := Ze (xs := b) (i := ib + 1 + i) (by omega)
      try dsimp only at hp ⊢
      rw [hyj] at hp
      rw [hyi]
      exact Jg C.o hp (Z7 C.o C.sb (Zt hyi) (Zt hyj) (by omega))
     try dsimp only
     by_cases hk1 : k1 > 0
     ·rw [if_pos hk1]
      have J3 := J2.runB C k1 (by omega) (fun i hi y x hy hx => by
       rw [hx3] at hx
       cases hx
       have := klo i hi
       try dsimp only at this
       rw [hy] at this
       exact C.o.asy _ _ this)
      by_cases hz2 : (ib + 1 + k1 == b.size) = true
      ·rw [if_pos hz2]
       exact wpS_pure ⟨sg3, .inl ⟨_, rfl, J3.done C (.inr (by have := beq_iff_eq.mp hz2; omega))⟩⟩
      rw [if_neg hz2]
      have hz2' : ¬ (ib + 1 + k1 = b.size) := fun z => hz2 (beq_iff_eq.mpr z)
      obtain ⟨x4, hx4⟩ := Ze (xs := a) (i := ia) (by omega)
      refine wpS_bind (Zl hx4 ?_)
      have J4 := J3.pushA C hx4 (fun y hy => by
       have := khi k1 (Nat.le_refl _) (by omega)
       try dsimp only at this
       rw [hy] at this
       have e : x4 = x3 := by rw [hx3] at hx4; exact (Option.some.inj hx4).symm
       rw [e]
       exact this)
      by_cases hz : (ia + 1 + 1 == a.size) = true
      ·rw [if_pos hz]
       exact wpS_pure ⟨sg3, .inl ⟨_, rfl, J4.last C (by have := beq_iff_eq.mp hz; omega) hl⟩⟩
      ·rw [if_neg hz]
       have hz' : ¬ (ia + 1 + 1 = a.size) := fun z => hz (beq_iff_eq.mpr z)
       by_cases h7 : (decide (0 < 7) && decide (k1 < 7)) = true
       ·rw [if_pos h7]
        exact wpS_pure ⟨sg3, .inr ⟨_, _, _, _, _, _, rfl, J4, by omega, by omega, by omega⟩⟩
       ·rw [if_neg h7]
        exact wpS_pure ⟨sg3, _, _, _, _, _, _, rfl, J4, by omega, by omega, by omega⟩
     ·rw [if_neg hk1]
      obtain rfl : k1 = 0 := by omega
      obtain ⟨x4, hx4⟩ := Ze (xs := a) (i := ia) (by omega)
      refine wpS_bind (Zl hx4 ?_)
      have J4 := J2.pushA C hx4 (fun y hy => by
       have := khi 0 (Nat.le_refl _) (by omega)
       try dsimp only at this
       rw [Nat.add_zero, hy] at this
       have e : x4 = x3 := by rw [hx3] at hx4; exact (Option.some.inj hx4).symm
       rw [e]
       exact this)
      by_cases hz : (ia + 1 + 1 == a.size) = true
      ·rw [if_pos hz]
       exact wpS_pure ⟨sg3, .inl ⟨_, rfl, J4.last C (by have := beq_iff_eq.mp hz; omega) hl⟩⟩
      ·rw [if_neg hz]
       have hz' : ¬ (ia + 1 + 1 = a.size) := fun z => hz (beq_iff_eq.mpr z)
       by_cases h7 : (decide (0 < 7) && decide (0 < 7)) = true
       ·rw [if_pos h7]
        exact wpS_pure ⟨sg3, .inr ⟨_, _, _, _, _, _, rfl, J4, by omega, by omega, by omega⟩⟩
       ·rw [if_neg h7]
        exact wpS_pure ⟨sg3, _, _, _, _, _, _, rfl, J4, by omega, by omega, by omega⟩
   ·rw [if_neg hg1]
    refine wpS_bind (Yw ?_)
    generalize hg3 : SortSt.mk' _ _ _ _ _ = st3
    have sg3 : SG st st3 := by rw [← hg3]; exact sg2
    have hk3 : kindOf st3 = κ := by rw [sg3.1]; exact hk
    obtain ⟨y2, hy2⟩ := Ze (xs := b) (i := ib) (by omega)
    refine wpS_bind (Zl hy2 ?_)
    refine wpS_bind (ZB hc hk3 (fun i => match a[ia + i]? with | some x => !r y2 x | none => false) (fun i hi => ?_) (mb y2 (Zq hy2)) (fun i j hij hj hp => ?_) (by omega) fun k kn klo khi => ?_)
    ·obtain ⟨x, hx⟩ := Ze (xs := a) (i := ia + i) (by omega)
     refine ⟨x, hx, ma x (Zq hx), ?_⟩
     try dsimp only
     rw [hx]
     rfl
    ·obtain ⟨xj, hxj⟩ := Ze (xs := a) (i := ia + j) (by omega)
     obtain ⟨xi, hxi⟩ := Ze (xs := a) (i := ia + i) (by omega)
     try dsimp only at hp ⊢
     rw [hxj] at hp
     rw [hxi]
     rw [Bool.not_eq_true'] at hp ⊢
     exact C.o.ntr _ _ _ (Z7 C.o C.sa (Zt hxi) (Zt hxj) (by omega)) hp
    try dsimp only
    by_cases hk0 : k > 0
    ·rw [if_pos hk0]
     have J1 := J.runA C k (by omega) (fun i hi x y hx hy => by
      rw [hy2] at hy
      cases hy
      have := klo i hi
      try dsimp only at this
      rw [hx, Bool.not_eq_true'] at this
      exact this)
     by_cases hz0 : (ia + k + 1 == a.size) = true
     ·rw [if_pos hz0]
      exact wpS_pure ⟨sg3, .inl ⟨_, rfl, J1.last C (by have := beq_iff_eq.mp hz0; omega) hl⟩⟩
     rw [if_neg hz0]
     by_cases hz1 : (ia + k == a.size) = true
     ·rw [if_pos hz1]
      exact wpS_pure ⟨sg3, .inl ⟨_, rfl, J1.done C (.inl (by have := beq_iff_eq.mp hz1; omega))⟩⟩
     rw [if_neg hz1]
     have hz0' : ¬ (ia + k + 1 = a.size) := fun z => hz0 (beq_iff_eq.mpr z)
     have hz1' : ¬ (ia + k = a.size) := fun z => hz1 (beq_iff_eq.mpr z)
     refine wpS_bind (Zl hy2 ?_)
     have J2 := J1.pushB C hy2 (fun x hx => by
      have := khi k (Nat.le_refl _) (by omega)
      try dsimp only at this
      rw [hx, Bool.not_eq_false'] at this
      exact C.o.asy _ _ this)
     by_cases hz : (ib + 1 == b.size) = true
     ·rw [if_pos hz]
      exact wpS_pure ⟨sg3, .inl ⟨_, rfl, J2.done C (.inr (by have := beq_iff_eq.mp hz; omega))⟩⟩
     rw [if_neg hz]
     have hz' : ¬ (ib + 1 = b.size) := fun z => hz (beq_iff_eq.mpr z)
     obtain ⟨x3, hx3⟩ := Ze (xs := a) (i := ia + k) (by omega)
     refine wpS_bind (Zl hx3 ?_)
     refine wpS_bind (ZB hc hk3 (fun i => match b[ib + 1 + i]? with | some y => r y x3 | none => false) (fun i hi => ?_) (ma x3 (Zq hx3)) (fun i j hij hj hp => ?_) (by omega) fun k1 k1n klo khi => ?_)
     ·obtain ⟨y, hy⟩ := Ze (xs := b) (i := ib + 1 + i) (by omega)
      refine ⟨y, hy, mb y (Zq hy), ?_⟩
      try dsimp only
      rw [hy]
      rfl
     ·obtain ⟨yj, hyj⟩ := Ze (xs := b) (i := ib + 1 + j) (by omega)
      obtain ⟨yi, hyi⟩ := Ze (xs := b) (i := ib + 1 + i) (by omega)
      try dsimp only at hp ⊢
      rw [hyj] at hp
      rw [hyi]
      exact Jg C.o hp (Z7 C.o C.sb (Zt hyi) (Zt hyj) (by omega))
     try dsimp only
     by_cases hk1 : k1 > 0
     ·rw [if_pos hk1]
      have J3 := J2.runB C k1 (by omega) (fun i hi y x hy hx => by
       rw [hx3] at hx
       cases hx
       have := klo i hi
       try dsimp only at this
       rw [hy] at this
       exact C.o.asy _ _ this)
      by_cases hz2 : (ib + 1 + k1 == b.size) = true
      ·rw [if_pos hz2]
       exact wpS_pure ⟨sg3, .inl ⟨_, rfl, J3.done C (.inr (by have := beq_iff_eq.mp hz2; omega))⟩⟩
      rw [if_neg hz2]
      have hz2' : ¬ (ib + 1 + k1 = b.size) := fun z => hz2 (beq_iff_eq.mpr z)
      obtain ⟨x4, hx4⟩ := Ze (xs := a) (i := ia + k) (by omega)
      refine wpS_bind (Zl hx4 ?_)
      have J4 := J3.pushA C hx4 (fun y hy => by
       have := khi k1 (Nat.le_refl _) (by omega)
       try dsimp only at this
       rw [hy] at this
       have e : x4 = x3 := by rw [hx3] at hx4; exact (Option.some.inj hx4).symm
       rw [e]
       exact this)
      by_cases hz : (ia + k + 1 + 1 == a.size) = true
      ·rw [if_pos hz]
       exact wpS_pure ⟨sg3, .inl ⟨_, rfl, J4.last C (by have := beq_iff_eq.mp hz; omega) hl⟩⟩
      ·rw [if_neg hz]
       have hz' : ¬ (ia + k + 1 + 1 = a.size) := fun z => hz (beq_iff_eq.mpr z)
       by_cases h7 : (decide (k < 7) && decide (k1 < 7)) = true
       ·rw [if_pos h7]
        exact wpS_pure ⟨sg3, .inr ⟨_, _, _, _, _, _, rfl, J4, by omega, by omega, by omega⟩⟩
       ·rw [if_neg h7]
        exact wpS_pure ⟨sg3, _, _, _, _, _, _, rfl, J4, by omega, by omega, by omega⟩
     ·rw [if_neg hk1]
      obtain rfl : k1 = 0 := by omega
      obtain ⟨x4, hx4⟩ := Ze (xs := a) (i := ia + k) (by omega)
      refine wpS_bind (Zl hx4 ?_)
      have J4 := J2.pushA C hx4 (fun y hy => by
       have := khi 0 (Nat.le_refl _) (by omega)
       try dsimp only at this
       rw [Nat.add_zero, hy] at this
       have e : x4 = x3 := by rw [hx3] at hx4; exact (Option.some.inj hx4).symm
       rw [e]
       exact this)
      by_cases hz : (ia + k + 1 + 1 == a.size) = true
      ·rw [if_pos hz]
       exact wpS_pure ⟨sg3, .inl ⟨_, rfl, J4.last C (by have := beq_iff_eq.mp hz; omega) hl⟩⟩
      ·rw [if_neg hz]
       have hz' : ¬ (ia + k + 1 + 1 = a.size) := fun z => hz (beq_iff_eq.mpr z)
       by_cases h7 : (decide (k < 7) && decide (0 < 7)) = true
       ·rw [if_pos h7]
        exact wpS_pure ⟨sg3, .inr ⟨_, _, _, _, _, _, rfl, J4, by omega, by omega, by omega⟩⟩
       ·rw [if_neg h7]
        exact wpS_pure ⟨sg3, _, _, _, _, _, _, rfl, J4, by omega, by omega, by omega⟩
    ·rw [if_neg hk0]
     obtain rfl : k = 0 := by omega
     refine wpS_bind (Zl hy2 ?_)
     have J2 := J.pushB C hy2 (fun x hx => by
      have := khi 0 (Nat.le_refl _) (by omega)
      try dsimp only at this
      rw [Nat.add_zero, hx, Bool.not_eq_false'] at this
      exact C.o.asy _ _ this)
     by_cases hz : (ib + 1 == b.size) = true
     ·rw [if_pos hz]
      exact wpS_pure ⟨sg3, .inl ⟨_, rfl, J2.done C (.inr (by have := beq_iff_eq.mp hz; omega))⟩⟩
     rw [if_neg hz]
     have hz' : ¬ (ib + 1 = b.size) := fun z => hz (beq_iff_eq.mpr z)
     obtain ⟨x3, hx3⟩ := Ze (xs := a) (i := ia) (by omega)
     refine wpS_bind (Zl hx3 ?_)
     refine wpS_bind (ZB hc hk3 (fun i => match b[ib + 1 + i]? with | some y => r y x3 | none => false) (fun i hi => ?_) (ma x3 (Zq hx3)) (fun i j hij hj hp => ?_) (by omega) fun k1 k1n klo khi => ?_)
     ·obtain ⟨y, hy⟩ := Ze (xs := b) (i := ib + 1 + i) (by omega)
      refine ⟨y, hy, mb y (Zq hy), ?_⟩
      try dsimp only
      rw [hy]
      rfl
     ·obtain ⟨yj, hyj⟩ := Ze (xs := b) (i := ib + 1 + j) (by omega)
      obtain ⟨yi, hyi⟩ := Ze (xs := b) (i := ib + 1 + i) (by omega)
      try dsimp only at hp ⊢
      rw [hyj] at hp
      rw [hyi]
      exact Jg C.o hp (Z7 C.o C.sb (Zt hyi) (Zt hyj) (by omega))
     try dsimp only
     by_cases hk1 : k1 > 0
     ·rw [if_pos hk1]
      have J3 := J2.runB C k1 (by omega) (fun i hi y x hy hx => by
       rw [hx3] at hx
       cases hx
       have := klo i hi
       try dsimp only at this
       rw [hy] at this
       exact C.o.asy _ _ this)
      by_cases hz2 : (ib + 1 + k1 == b.size) = true
      ·rw [if_pos hz2]
       exact wpS_pure ⟨sg3, .inl ⟨_, rfl, J3.done C (.inr (by have := beq_iff_eq.mp hz2; omega))⟩⟩
      rw [if_neg hz2]
      have hz2' : ¬ (ib + 1 + k1 = b.size) := fun z => hz2 (beq_iff_eq.mpr z)
      obtain ⟨x4, hx4⟩ := Ze (xs := a) (i := ia) (by omega)
      refine wpS_bind (Zl hx4 ?_)
      have J4 := J3.pushA C hx4 (fun y hy => by
       have := khi k1 (Nat.le_refl _) (by omega)
       try dsimp only at this
       rw [hy] at this
       have e : x4 = x3 := by rw [hx3] at hx4; exact (Option.some.inj hx4).symm
       rw [e]
       exact this)
      by_cases hz : (ia + 1 + 1 == a.size) = true
      ·rw [if_pos hz]
       exact wpS_pure ⟨sg3, .inl ⟨_, rfl, J4.last C (by have := beq_iff_eq.mp hz; omega) hl⟩⟩
      ·rw [if_neg hz]
       have hz' : ¬ (ia + 1 + 1 = a.size) := fun z => hz (beq_iff_eq.mpr z)
       by_cases h7 : (decide (0 < 7) && decide (k1 < 7)) = true
       ·rw [if_pos h7]
        exact wpS_pure ⟨sg3, .inr ⟨_, _, _, _, _, _, rfl, J4, by omega, by omega, by omega⟩⟩
       ·rw [if_neg h7]
        exact wpS_pure ⟨sg3, _, _, _, _, _, _, rfl, J4, by omega, by omega, by omega⟩
     ·rw [if_neg hk1]
      obtain rfl : k1 = 0 := by omega
      obtain ⟨x4, hx4⟩ := Ze (xs := a) (i := ia) (by omega)
      refine wpS_bind (Zl hx4 ?_)
      have J4 := J2.pushA C hx4 (fun y hy => by
       have := khi 0 (Nat.le_refl _) (by omega)
       try dsimp only at this
       rw [Nat.add_zero, hy] at this
       have e : x4 = x3 := by rw [hx3] at hx4; exact (Option.some.inj hx4).symm
       rw [e]
       exact this)
      by_cases hz : (ia + 1 + 1 == a.size) = true
      ·rw [if_pos hz]
       exact wpS_pure ⟨sg3, .inl ⟨_, rfl, J4.last C (by have := beq_iff_eq.mp hz; omega) hl⟩⟩
      ·rw [if_neg hz]
       have hz' : ¬ (ia + 1 + 1 = a.size) := fun z => hz (beq_iff_eq.mpr z)
       by_cases h7 : (decide (0 < 7) && decide (0 < 7)) = true
       ·rw [if_pos h7]
        exact wpS_pure ⟨sg3, .inr ⟨_, _, _, _, _, _, rfl, J4, by omega, by omega, by omega⟩⟩
       ·rw [if_neg h7]
        exact wpS_pure ⟨sg3, _, _, _, _, _, _, rfl, J4, by omega, by omega, by omega⟩
  ·rintro c st2 ⟨sg2, out, ia, ib, g, ac, bc, rfl, J, i1, i2, i4⟩
   rw [Nat.max_eq_right (Nat.zero_le _)] at i4
   omega
  rintro c st2 ⟨sg2, ⟨res, ec, gd⟩ | ⟨out, ia2, ib2, g, ac, bc, rfl, J2, k1, k2, k3⟩⟩
  ·rw [ec]
   exact wpS_pure ⟨sg2, res, rfl, gd⟩
  dsimp only
  refine wpS_bind (Yw (wpS_pure ⟨sg2, _, _, _, _, rfl, J2, k1, k2, by omega⟩))
end
end PyProof.Rows.Tim
set_option Elab.async false
set_option linter.all false
set_option maxRecDepth 100000
set_option maxHeartbeats 4000000
namespace PyProof.Rows.Tim
open PySem
def mergeHi' : Array Keyed → Array Keyed → StateT SortSt Sem (Array Keyed) := sortPriv% PySem.Builtin.mergeHi
structure JH (r : Keyed → Keyed → Bool) (a b out : Array Keyed) (na nb : Nat) : Prop where
 la : na ≤ a.size
 lb : nb ≤ b.size
 perm : ((a.toList.take na ++ b.toList.take nb) ++ out.toList.reverse).Perm (a.toList ++ b.toList)
 srt : Pw r out.toList.reverse
 bel : ∀ y ∈ a.toList.take na ++ b.toList.take nb, ∀ x ∈ out.toList, r x y = false
theorem WX {α : Type} {l : List α} {i : Nat} {x : α} (h : l[i]? = some x) : l.take (i + 1) = l.take i ++ [x] := by
 rw [List.take_add_one, h]
 rfl
theorem JJ {r : Keyed → Keyed → Bool} {l : List Keyed} {i : Nat} {x : Keyed} (o : Ord r) (p : Pw r l) (h : l[i]? = some x) : ∀ y ∈ l.take (i + 1), r x y = false := fun y hy => by
 obtain ⟨j, hj, e⟩ := List.getElem_of_mem hy
 rw [List.length_take] at hj
 rw [List.getElem_take] at e
 exact Z7 (i := j) o p (by rw [List.getElem?_eq_getElem (by omega), e]) h (by omega)
theorem ZaD (xs : Array Keyed) (j : Nat) : (xs.extract 0 j).toList = xs.toList.take j := by
 rw [Jx, List.drop_zero, Nat.sub_zero]
section
variable {r : Keyed → Keyed → Bool} {a b out : Array Keyed} {na nb : Nat}
theorem JH.pushA (C : MCx r a b) (J : JH r a b out na nb) {x : Keyed} (h1 : 1 ≤ na) (hx : a[na - 1]? = some x) (h : 1 ≤ nb → ∀ y, b[nb - 1]? = some y → r x y = false) : JH r a b (out.push x) (na - 1) nb := by
 have la := J.la
 have lb := J.lb
 have hx' := Zt hx
 have ht := WX hx'
 rw [Nat.sub_add_cancel h1] at ht
 have mx : x ∈ a.toList.take na := by rw [ht]; simp
 have low : ∀ y ∈ a.toList.take (na - 1) ++ b.toList.take nb, r x y = false := fun y hy => by
  rcases List.mem_append.mp hy with hy | hy
  ·exact JJ C.o C.sa hx' y (by rw [Nat.sub_add_cancel h1, ht]; exact List.mem_append_left _ hy)
  ·have n1 : 1 ≤ nb := by
    rcases Nat.eq_zero_or_pos nb with z | z
    ·rw [z] at hy; cases hy
    ·exact z
   obtain ⟨z, e⟩ := Ze (xs := b) (i := nb - 1) (by omega)
   have := JJ C.o C.sb (Zt e) y (by rw [Nat.sub_add_cancel n1]; exact hy)
   exact C.o.ntr y z x this (h n1 z e)
 refine ⟨by omega, lb, ?_, ?_, fun y hy u hu => ?_⟩
 ·rw [Array.toList_push, List.reverse_append]
  have P := J.perm
  rw [ht] at P
  refine List.Perm.trans ?_ P
  show ((a.toList.take (na - 1) ++ b.toList.take nb) ++ (x :: out.toList.reverse)).Perm (((a.toList.take (na - 1) ++ [x]) ++ b.toList.take nb) ++ out.toList.reverse)
  rw [List.append_assoc, List.append_assoc, List.append_assoc]
  refine List.Perm.append_left _ ?_
  show (b.toList.take nb ++ x :: out.toList.reverse).Perm (x :: (b.toList.take nb ++ out.toList.reverse))
  exact List.perm_middle
 ·rw [Array.toList_push, List.reverse_append]
  refine List.pairwise_cons.mpr ⟨fun u hu => ?_, J.srt⟩
  exact J.bel x (List.mem_append_left _ mx) u (List.mem_reverse.mp hu)
 ·rw [Array.toList_push] at hu
  rcases List.mem_append.mp hu with hu | hu
  ·refine J.bel y ?_ u hu
   rcases List.mem_append.mp hy with hy | hy
   ·exact List.mem_append_left _ (by rw [ht]; exact List.mem_append_left _ hy)
   ·exact List.mem_append_right _ hy
  ·rw [List.mem_singleton.mp hu]
   exact low y hy
theorem JH.pushB (C : MCx r a b) (J : JH r a b out na nb) {y : Keyed} (h1 : 1 ≤ nb) (hy : b[nb - 1]? = some y) (h : 1 ≤ na → ∀ x, a[na - 1]? = some x → r y x = false) : JH r a b (out.push y) na (nb - 1) := by
 have la := J.la
 have lb := J.lb
 have hy' := Zt hy
 have ht := WX hy'
 rw [Nat.sub_add_cancel h1] at ht
 have my : y ∈ b.toList.take nb := by rw [ht]; simp
 have low : ∀ z ∈ a.toList.take na ++ b.toList.take (nb - 1), r y z = false := fun z hz => by
  rcases List.mem_append.mp hz with hz | hz
  ·have n1 : 1 ≤ na := by
    rcases Nat.eq_zero_or_pos na with q | q
    ·rw [q] at hz; cases hz
    ·exact q
   obtain ⟨x, e⟩ := Ze (xs := a) (i := na - 1) (by omega)
   have := JJ C.o C.sa (Zt e) z (by rw [Nat.sub_add_cancel n1]; exact hz)
   exact C.o.ntr z x y this (h n1 x e)
  ·exact JJ C.o C.sb hy' z (by rw [Nat.sub_add_cancel h1, ht]; exact List.mem_append_left _ hz)
 refine ⟨la, by omega, ?_, ?_, fun z hz u hu => ?_⟩
 ·rw [Array.toList_push, List.reverse_append]
  have P := J.perm
  rw [ht] at P
  refine List.Perm.trans ?_ P
  show ((a.toList.take na ++ b.toList.take (nb - 1)) ++ (y :: out.toList.reverse)).Perm ((a.toList.take na ++ (b.toList.take (nb - 1) ++ [y])) ++ out.toList.reverse)
  rw [List.append_assoc, List.append_assoc, List.append_assoc]
  exact .refl _
 ·rw [Array.toList_push, List.reverse_append]
  refine List.pairwise_cons.mpr ⟨fun u hu => ?_, J.srt⟩
  exact J.bel y (List.mem_append_right _ my) u (List.mem_reverse.mp hu)
 ·rw [Array.toList_push] at hu
  rcases List.mem_append.mp hu with hu | hu
  ·refine J.bel z ?_ u hu
   rcases List.mem_append.mp hz with hz | hz
   ·exact List.mem_append_left _ hz
   ·exact List.mem_append_right _ (by rw [ht]; exact List.mem_append_left _ hz)
  ·rw [List.mem_singleton.mp hu]
   exact low z hz
theorem ZaC {xs : Array Keyed} {i n : Nat} {x : Keyed} (hx : xs[i]? = some x) (h : i < n) (hn : n ≤ xs.size) : (xs.extract i n).reverse = (xs.extract (i + 1) n).reverse.push x := by
 apply Array.toList_inj.mp
 rw [Array.toList_reverse, Array.toList_push, Array.toList_reverse, Jx, Jx, YZ (Zt hx), show n - i = (n - (i + 1)) + 1 by omega, List.take_succ_cons, List.reverse_cons]
theorem JH.runA (C : MCx r a b) (J : JH r a b out na nb) : ∀ k, k ≤ na → (∀ i, na - k ≤ i → i < na → ∀ x y, a[i]? = some x → b[nb - 1]? = some y → r x y = false) → JH r a b (out ++ (a.extract (na - k) na).reverse) (na - k) nb
 | 0, _, _ => by
  have e : a.extract (na - 0) na = #[] := by simp; omega
  rw [e]
  simpa using J
 | k + 1, hk, h => by
  have la := J.la
  obtain ⟨x, hx⟩ := Ze (xs := a) (i := na - (k + 1)) (by omega)
  have ih := JH.runA C J k (by omega) fun i h1 h2 => h i (by omega) h2
  have e1 : na - k - 1 = na - (k + 1) := by omega
  have := ih.pushA C (x := x) (by omega) (by rw [e1]; exact hx) fun _ y hy => h (na - (k + 1)) (Nat.le_refl _) (by omega) x y hx hy
  rw [e1] at this
  rw [ZaC hx (by omega) la, show na - (k + 1) + 1 = na - k by omega, Array.append_push]
  exact this
theorem JH.runB (C : MCx r a b) (J : JH r a b out na nb) : ∀ k, k ≤ nb → (∀ i, nb - k ≤ i → i < nb → ∀ y x, b[i]? = some y → a[na - 1]? = some x → r y x = false) → JH r a b (out ++ (b.extract (nb - k) nb).reverse) na (nb - k)
 | 0, _, _ => by
  have e : b.extract (nb - 0) nb = #[] := by simp; omega
  rw [e]
  simpa using J
 | k + 1, hk, h => by
  have lb := J.lb
  obtain ⟨y, hy⟩ := Ze (xs := b) (i := nb - (k + 1)) (by omega)
  have ih := JH.runB C J k (by omega) fun i h1 h2 => h i (by omega) h2
  have e1 : nb - k - 1 = nb - (k + 1) := by omega
  have := ih.pushB C (y := y) (by omega) (by rw [e1]; exact hy) fun _ x hx => h (nb - (k + 1)) (Nat.le_refl _) (by omega) y x hy hx
  rw [e1] at this
  rw [ZaC hy (by omega) lb, show nb - (k + 1) + 1 = nb - k by omega, Array.append_push]
  exact this
theorem JH.runA' (C : MCx r a b) (J : JH r a b out na nb) {m : Nat} (hm : m ≤ na) (h : ∀ i, m ≤ i → i < na → ∀ x y, a[i]? = some x → b[nb - 1]? = some y → r x y = false) : JH r a b (out ++ (a.extract m na).reverse) m nb := by
 have := J.runA C (na - m) (by omega) (fun i h1 h2 => h i (by omega) h2)
 rw [show na - (na - m) = m by omega] at this
 exact this
theorem JH.runB' (C : MCx r a b) (J : JH r a b out na nb) {m : Nat} (hm : m ≤ nb) (h : ∀ i, m ≤ i → i < nb → ∀ y x, b[i]? = some y → a[na - 1]? = some x → r y x = false) : JH r a b (out ++ (b.extract m nb).reverse) na m := by
 have := J.runB C (nb - m) (by omega) (fun i h1 h2 => h i (by omega) h2)
 rw [show nb - (nb - m) = m by omega] at this
 exact this
theorem JH.done (C : MCx r a b) (J : JH r a b out na nb) (h : na = 0 ∨ nb = 0) : Good r a b (a.extract 0 na ++ b.extract 0 nb ++ out.reverse) := by
 unfold Good
 rw [Array.toList_append, Array.toList_append, ZaD, ZaD, Array.toList_reverse]
 refine ⟨J.perm, ?_⟩
 have pa : Pw r (a.toList.take na) := List.Pairwise.sublist (List.take_sublist _ _) C.sa
 have pb : Pw r (b.toList.take nb) := List.Pairwise.sublist (List.take_sublist _ _) C.sb
 refine List.pairwise_append.mpr ⟨?_, J.srt, fun y hy x hx => J.bel y hy x (List.mem_reverse.mp hx)⟩
 rcases h with h | h
 ·rw [h, List.take_zero, List.nil_append]
  exact pb
 ·rw [h, List.take_zero, List.append_nil]
  exact pa
theorem JH.first (C : MCx r a b) (J : JH r a b out na nb) (h : nb = 1) (h0 : ∀ y, b[0]? = some y → ∀ x ∈ a.toList, r x y = false) : Good r a b (b.extract 0 nb ++ a.extract 0 na ++ out.reverse) := by
 have lb := J.lb
 subst h
 unfold Good
 obtain ⟨y, hy⟩ := Ze (xs := b) (i := 0) (by omega)
 have et : b.toList.take 1 = [y] := by rw [show (1 : Nat) = 0 + 1 from rfl, WX (Zt hy)]; rfl
 rw [Array.toList_append, Array.toList_append, ZaD, ZaD, Array.toList_reverse, et]
 have P := J.perm
 have B := J.bel
 rw [et] at P B
 have pa : Pw r (a.toList.take na) := List.Pairwise.sublist (List.take_sublist _ _) C.sa
 refine ⟨List.Perm.trans (List.Perm.append_right _ List.perm_append_comm) P, ?_⟩
 refine List.pairwise_append.mpr ⟨?_, J.srt, fun z hz x hx => B z ?_ x (List.mem_reverse.mp hx)⟩
 ·refine List.pairwise_cons.mpr ⟨fun z hz => h0 y hy z (List.mem_of_mem_take hz), pa⟩
 ·rcases List.mem_append.mp hz with hz | hz
  ·exact List.mem_append_right _ hz
  ·exact List.mem_append_left _ hz
end
section
variable {prog : Program} {w : World} {A : Around} {E : Value → Shared → Prop} {s : Shared} {κ : SortKind} {a₀ : Array Keyed} {r : Keyed → Keyed → Bool}
theorem Uj {a b : Array Keyed} {Q : Array Keyed → SortSt → Prop} {st : SortSt} (hc : Cmp prog w A E s κ a₀ r) (hk : kindOf st = κ) (C : MCx r a b) (ma : ∀ x ∈ a.toList, x ∈ a₀.toList) (mb : ∀ x ∈ b.toList, x ∈ a₀.toList) (na0 : 1 ≤ a.size) (nb0 : 1 ≤ b.size)
  (h0 : ∀ y, b[0]? = some y → ∀ x ∈ a.toList, r x y = false) (hl : ∀ x, a[a.size - 1]? = some x → ∀ y ∈ b.toList, r x y = false)
  (h : ∀ res st', SG st st' → Good r a b res → Q res st') : wpS (model prog w) A E s (mergeHi' a b) Q st := by
 show wpS (model prog w) A E s (_ >>= _) _ _
 dsimp only
 refine wpS_bind (wpS_lift (wpAny_rule ⟨rfl, ?_⟩))
 obtain ⟨x0, hx0⟩ := Ze (xs := a) (i := a.size - 1) (by omega)
 refine wpS_bind (Zl hx0 ?_)
 have J0 : JH r a b #[x0] (a.size - 1) b.size := by
  have e : JH r a b #[] a.size b.size := ⟨Nat.le_refl _, Nat.le_refl _, by simp [← Array.length_toList], .nil, fun y hy x hx => by cases hx⟩
  exact e.pushA C na0 hx0 fun _ y hy => hl x0 hx0 y (Zq hy)
 by_cases hz0 : (a.size - 1 == 0) = true
 ·rw [if_pos hz0]
  exact wpS_pure (h _ _ (SG.refl _) (J0.done C (.inl (beq_iff_eq.mp hz0))))
 rw [if_neg hz0]
 by_cases hz1 : (b.size == 1) = true
 ·rw [if_pos hz1]
  exact wpS_pure (h _ _ (SG.refl _) (J0.first C (beq_iff_eq.mp hz1) h0))
 rw [if_neg hz1]
 have hz0' : ¬ (a.size - 1 = 0) := fun z => hz0 (beq_iff_eq.mpr z)
 have hz1' : ¬ (b.size = 1) := fun z => hz1 (beq_iff_eq.mpr z)
 refine wpS_bind (wpS_get ?_)
 refine wpS_bind (wpS_mono (wpS_forRange (I := fun x c st1 => SG st st1 ∧ ∃ na nb out g, c = (none, na, nb, out, g) ∧ JH r a b out na nb ∧ 1 ≤ na ∧ 2 ≤ nb ∧ na + nb + x + 1 ≤ a.size + b.size) (Q := fun c st1 => SG st st1 ∧ ∃ res, c.fst = some res ∧ Good r a b res) ?step ?fin ⟨SG.refl _, _, _, _, _, rfl, J0, by omega, by omega, by omega⟩) ?post)
 case post =>
  rintro c st1 ⟨sg1, res, ec, gd⟩
  rw [ec]
  exact wpS_pure (h res st1 sg1 gd)
 case fin =>
  rintro c st1 ⟨_, na, nb, out, g, _, _, i1, i2, i3⟩
  rw [Nat.max_eq_right (Nat.zero_le _)] at i3
  omega
 case step =>
  rintro x c st1 _ hx ⟨sg1, na, nb, out, g, rfl, J, i1, i2, i3⟩
  dsimp only
  have hk1 : kindOf st1 = κ := by rw [sg1.1]; exact hk
  refine wpS_bind (wpS_mono (wpS_forRange (I := fun y c st2 => st2 = st1 ∧ ∃ na' nb' out' ac bc, c = (none, na', nb', out', ac, bc) ∧ JH r a b out' na' nb' ∧ 1 ≤ na' ∧ 2 ≤ nb' ∧ na' + nb' + y ≤ na + nb)
   (Q := fun c st2 => st2 = st1 ∧ ((∃ res, c.fst = some res ∧ Good r a b res) ∨ ∃ na' nb' out' ac bc, c = (none, na', nb', out', ac, bc) ∧ JH r a b out' na' nb' ∧ 1 ≤ na' ∧ 2 ≤ nb' ∧ na' + nb' + 1 ≤ na + nb)) ?_ ?_ ⟨rfl, _, _, _, _, _, rfl, J, i1, i2, by omega⟩) ?_)
  ·rintro y c st2 _ hy ⟨rfl, na', nb', out', ac, bc, rfl, J', j1, j2, j3⟩
   dsimp only
   have la := J'.la
   have lb := J'.lb
   obtain ⟨yb, hyb⟩ := Ze (xs := b) (i := nb' - 1) (by omega)
   obtain ⟨xa, hxa⟩ := Ze (xs := a) (i := na' - 1) (by omega)
   refine wpS_bind (Zl hyb (wpS_bind (Zl hxa (wpS_bind (hc _ _ _ _ (mb _ (Zq hyb)) (ma _ (Zq hxa)) hk1 ?_)))))
   dsimp only
   cases hr : r yb xa with
   | true =>
    rw [if_pos rfl]
    refine wpS_bind (Zl hxa ?_)
    have J2 := J'.pushA C j1 hxa (fun _ y hy => by rw [hyb] at hy; cases hy; exact C.o.asy _ _ hr)
    by_cases hz : (na' - 1 == 0) = true
    ·rw [if_pos hz]
     exact wpS_pure ⟨rfl, .inl ⟨_, rfl, J2.done C (.inl (beq_iff_eq.mp hz))⟩⟩
    rw [if_neg hz]
    have hz' : ¬ (na' - 1 = 0) := fun z => hz (beq_iff_eq.mpr z)
    by_cases hg : ac + 1 ≥ g
    ·rw [if_pos hg]
     exact wpS_pure ⟨rfl, .inr ⟨_, _, _, _, _, rfl, J2, by omega, by omega, by omega⟩⟩
    ·rw [if_neg hg]
     exact wpS_pure ⟨rfl, _, _, _, _, _, rfl, J2, by omega, by omega, by omega⟩
   | false =>
    rw [if_neg Bool.false_ne_true]
    refine wpS_bind (Zl hyb ?_)
    have J2 := J'.pushB C (by omega) hyb (fun _ x hx => by rw [hxa] at hx; cases hx; exact hr)
    by_cases hz : (nb' - 1 == 1) = true
    ·rw [if_pos hz]
     exact wpS_pure ⟨rfl, .inl ⟨_, rfl, J2.first C (beq_iff_eq.mp hz) h0⟩⟩
    rw [if_neg hz]
    have hz' : ¬ (nb' - 1 = 1) := fun z => hz (beq_iff_eq.mpr z)
    by_cases hg : bc + 1 ≥ g
    ·rw [if_pos hg]
     exact wpS_pure ⟨rfl, .inr ⟨_, _, _, _, _, rfl, J2, by omega, by omega, by omega⟩⟩
    ·rw [if_neg hg]
     exact wpS_pure ⟨rfl, _, _, _, _, _, rfl, J2, by omega, by omega, by omega⟩
  ·rintro c st2 ⟨rfl, na', nb', out', ac, bc, rfl, J', j1, j2, j3⟩
   rw [Nat.max_eq_right (Nat.zero_le _)] at j3
   have la := J.la
   have lb := J.lb
   omega
  rintro c st2 ⟨rfl, ⟨res, ec, gd⟩ | ⟨na', nb', out', ac, bc, rfl, J', j1, j2, j3⟩⟩
  ·rw [ec]
   exact wpS_pure ⟨sg1, res, rfl, gd⟩
  dsimp only
  refine wpS_bind (wpS_lift (wpAny_rule ⟨rfl, ?_⟩))
  refine wpS_bind (wpS_mono (wpS_forRange (I := fun y c st2 => SG st st2 ∧ ∃ na nb out g ac bc, c = (none, na, nb, out, g, ac, bc) ∧ JH r a b out na nb ∧ 1 ≤ na ∧ 2 ≤ nb ∧ na + nb + y ≤ na' + nb')
   (Q := fun c st2 => SG st st2 ∧ ((∃ res, c.fst = some res ∧ Good r a b res) ∨ ∃ na nb out g ac bc, c = (none, na, nb, out, g, ac, bc) ∧ JH r a b out na nb ∧ 1 ≤ na ∧ 2 ≤ nb ∧ na + nb ≤ na' + nb')) ?_ ?_ ⟨sg1, _, _, _, _, _, _, rfl, J', j1, j2, by omega⟩) ?_)
  ·clear J i1 i2 hk1
   rintro y c st2 _ hy ⟨sg2, na2, nb2, out, g, ac, bc, rfl, J, i1, i2, i4⟩
   dsimp only
   revert J i1 i2 i4
   clear j3 i3
   generalize na2 = na
   generalize nb2 = nb
   intro J i1 i2 i4
   have la := J.la
   have lb := J.lb
   by_cases hg1 : g > 1
   ·rw [if_pos hg1]
    refine wpS_bind (Yw ?_)
    generalize hg3 : SortSt.mk' _ _ _ _ _ = st3
    have sg3 : SG st st3 := by rw [← hg3]; exact sg2
    have hk3 : kindOf st3 = κ := by rw [sg3.1]; exact hk
    obtain ⟨y2, hy2⟩ := Ze (xs := b) (i := nb - 1) (by omega)
    refine wpS_bind (Zl hy2 ?_)
    refine wpS_bind (ZB hc hk3 (fun i => match a[0 + i]? with | some x => !r y2 x | none => false) (fun i hi => ?_) (mb y2 (Zq hy2)) (fun i j hij hj hp => ?_) (by omega) fun at_ kn klo khi => ?_)
    ·obtain ⟨x, hx⟩ := Ze (xs := a) (i := 0 + i) (by omega)
     refine ⟨x, hx, ma x (Zq hx), ?_⟩
     try dsimp only
     rw [hx]
     rfl
    ·obtain ⟨xj, hxj⟩ := Ze (xs := a) (i := 0 + j) (by omega)
     obtain ⟨xi, hxi⟩ := Ze (xs := a) (i := 0 + i) (by omega)
     try dsimp only at hp ⊢
     rw [hxj] at hp
     rw [hxi]
     rw [Bool.not_eq_true'] at hp ⊢
     exact C.o.ntr _ _ _ (Z7 C.o C.sa (Zt hxi) (Zt hxj) (by omega)) hp
    try dsimp only
    by_cases hk0 : na - at_ > 0
    ·rw [if_pos hk0]
     have J1 := J.runA' C (m := at_) (by omega) (fun i hi1 hi2 x y hx hy => by
      rw [hy2] at hy
      cases hy
      have := khi i hi1 hi2
      try dsimp only at this
      rw [Nat.zero_add, hx, Bool.not_eq_false'] at this
      exact C.o.asy _ _ this)
     by_cases hz0 : (at_ == 0) = true
     ·rw [if_pos hz0]
      exact wpS_pure ⟨sg3, .inl ⟨_, rfl, J1.done C (.inl (beq_iff_eq.mp hz0))⟩⟩
     rw [if_neg hz0]
     have hz0' : ¬ (at_ = 0) := fun z => hz0 (beq_iff_eq.mpr z)
     refine wpS_bind (Zl hy2 ?_)
     have J2 := J1.pushB C (by omega) hy2 (fun _ x hx => by
      have := klo (at_ - 1) (by omega)
      try dsimp only at this
      rw [Nat.zero_add, hx, Bool.not_eq_true'] at this
      exact this)
     by_cases hz : (nb - 1 == 1) = true
     ·rw [if_pos hz]
      exact wpS_pure ⟨sg3, .inl ⟨_, rfl, J2.first C (beq_iff_eq.mp hz) h0⟩⟩
     rw [if_neg hz]
     have hz' : ¬ (nb - 1 = 1) := fun z => hz (beq_iff_eq.mpr z)
     obtain ⟨x3, hx3⟩ := Ze (xs := a) (i := at_ - 1) (by omega)
     refine wpS_bind (Zl hx3 ?_)
     refine wpS_bind (ZB hc hk3 (fun i => match b[0 + i]? with | some y => r y x3 | none => false) (fun i hi => ?_) (ma x3 (Zq hx3)) (fun i j hij hj hp => ?_) (by omega) fun k1 k1n klo1 khi1 => ?_)
     ·obtain ⟨y, hy⟩ := Ze (xs := b) (i := 0 + i) (by omega)
      refine ⟨y, hy, mb y (Zq hy), ?_⟩
      try dsimp only
      rw [hy]
      rfl
     ·obtain ⟨yj, hyj⟩ := Ze (xs := b) (i := 0 + j) (by omega)
      obtain ⟨yi, hyi⟩ := Ze (xs := b) (i := 0 + i) (by omega)
      try dsimp only at hp ⊢
      rw [hyj] at hp
      rw [hyi]
      exact Jg C.o hp (Z7 C.o C.sb (Zt hyi) (Zt hyj) (by omega))
     try dsimp only
     by_cases hk1 : nb - 1 - k1 > 0
     ·rw [if_pos hk1]
      have J3 := J2.runB' C (m := k1) (by omega) (fun i hi1 hi2 y x hy hx => by
       rw [hx3] at hx
       cases hx
       have := khi1 i hi1 hi2
       try dsimp only at this
       rw [Nat.zero_add, hy] at this
       exact this)
      by_cases hz2 : (k1 == 1) = true
      ·rw [if_pos hz2]
       exact wpS_pure ⟨sg3, .inl ⟨_, rfl, J3.first C (beq_iff_eq.mp hz2) h0⟩⟩
      rw [if_neg hz2]
      by_cases hz3 : (k1 == 0) = true
      ·rw [if_pos hz3]
       exact wpS_pure ⟨sg3, .inl ⟨_, rfl, J3.done C (.inr (beq_iff_eq.mp hz3))⟩⟩
      rw [if_neg hz3]
      have hz2' : ¬ (k1 = 1) := fun z => hz2 (beq_iff_eq.mpr z)
      have hz3' : ¬ (k1 = 0) := fun z => hz3 (beq_iff_eq.mpr z)
      obtain ⟨x4, hx4⟩ := Ze (xs := a) (i := at_ - 1) (by omega)
      refine wpS_bind (Zl hx4 ?_)
      have J4 := J3.pushA C (by omega) hx4 (fun _ y hy => by
       have := klo1 (k1 - 1) (by omega)
       try dsimp only at this
       rw [Nat.zero_add, hy] at this
       have e : x4 = x3 := by rw [hx3] at hx4; exact (Option.some.inj hx4).symm
       rw [e]
       exact C.o.asy _ _ this)
      by_cases hz : (at_ - 1 == 0) = true
      ·rw [if_pos hz]
       exact wpS_pure ⟨sg3, .inl ⟨_, rfl, J4.done C (.inl (by have := beq_iff_eq.mp hz; omega))⟩⟩
      ·rw [if_neg hz]
       have hz' : ¬ (at_ - 1 = 0) := fun z => hz (beq_iff_eq.mpr z)
       by_cases h7 : (decide (na - at_ < 7) && decide (nb - 1 - k1 < 7)) = true
       ·rw [if_pos h7]
        exact wpS_pure ⟨sg3, .inr ⟨_, _, _, _, _, _, rfl, J4, by omega, by omega, by omega⟩⟩
       ·rw [if_neg h7]
        exact wpS_pure ⟨sg3, _, _, _, _, _, _, rfl, J4, by omega, by omega, by omega⟩
     ·rw [if_neg hk1]
      obtain rfl : k1 = nb - 1 := by omega
      obtain ⟨x4, hx4⟩ := Ze (xs := a) (i := at_ - 1) (by omega)
      refine wpS_bind (Zl hx4 ?_)
      have J4 := J2.pushA C (by omega) hx4 (fun _ y hy => by
       have := klo1 (nb - 1 - 1) (by omega)
       try dsimp only at this
       rw [Nat.zero_add, hy] at this
       have e : x4 = x3 := by rw [hx3] at hx4; exact (Option.some.inj hx4).symm
       rw [e]
       exact C.o.asy _ _ this)
      by_cases hz : (at_ - 1 == 0) = true
      ·rw [if_pos hz]
       exact wpS_pure ⟨sg3, .inl ⟨_, rfl, J4.done C (.inl (by have := beq_iff_eq.mp hz; omega))⟩⟩
      ·rw [if_neg hz]
       have hz' : ¬ (at_ - 1 = 0) := fun z => hz (beq_iff_eq.mpr z)
       by_cases h7 : (decide (na - at_ < 7) && decide (nb - 1 - (nb - 1) < 7)) = true
       ·rw [if_pos h7]
        exact wpS_pure ⟨sg3, .inr ⟨_, _, _, _, _, _, rfl, J4, by omega, by omega, by omega⟩⟩
       ·rw [if_neg h7]
        exact wpS_pure ⟨sg3, _, _, _, _, _, _, rfl, J4, by omega, by omega, by omega⟩
    ·rw [if_neg hk0]
     obtain rfl : at_ = na := by omega
     refine wpS_bind (Zl hy2 ?_)
     have J2 := J.pushB C (by omega) hy2 (fun _ x hx => by
      have := klo (at_ - 1) (by omega)
      try dsimp only at this
      rw [Nat.zero_add, hx, Bool.not_eq_true'] at this
      exact this)
     by_cases hz : (nb - 1 == 1) = true
     ·rw [if_pos hz]
      exact wpS_pure ⟨sg3, .inl ⟨_, rfl, J2.first C (beq_iff_eq.mp hz) h0⟩⟩
     rw [if_neg hz]
     have hz' : ¬ (nb - 1 = 1) := fun z => hz (beq_iff_eq.mpr z)
     obtain ⟨x3, hx3⟩ := Ze (xs := a) (i := at_ - 1) (by omega)
     refine wpS_bind (Zl hx3 ?_)
     refine wpS_bind (ZB hc hk3 (fun i => match b[0 + i]? with | some y => r y x3 | none => false) (fun i hi => ?_) (ma x3 (Zq hx3)) (fun i j hij hj hp => ?_) (by omega) fun k1 k1n klo1 khi1 => ?_)
     ·obtain ⟨y, hy⟩ := Ze (xs := b) (i := 0 + i) (by omega)
      refine ⟨y, hy, mb y (Zq hy), ?_⟩
      try dsimp only
      rw [hy]
      rfl
     ·obtain ⟨yj, hyj⟩ := Ze (xs := b) (i := 0 + j) (by omega)
      obtain ⟨yi, hyi⟩ := Ze (xs := b) (i := 0 + i) (by omega)
      try dsimp only at hp ⊢
      rw [hyj] at hp
      rw [hyi]
      exact Jg C.o hp (Z7 C.o C.sb (Zt hyi) (Zt hyj) (by omega))
     try dsimp only
     by_cases hk1 : nb - 1 - k1 > 0
     ·rw [if_pos hk1]
      have J3 := J2.runB' C (m := k1) (by omega) (fun i hi1 hi2 y x hy hx => by
       rw [hx3] at hx
       cases hx
       have := khi1 i hi1 hi2
       try dsimp only at this
       rw [Nat.zero_add, hy] at this
       exact this)
      by_cases hz2 : (k1 == 1) = true
      ·rw [if_pos hz2]
       exact wpS_pure ⟨sg3, .inl ⟨_, rfl, J3.first C (beq_iff_eq.mp hz2) h0⟩⟩
      rw [if_neg hz2]
      by_cases hz3 : (k1 == 0) = true
      ·rw [if_pos hz3]
       exact wpS_pure ⟨sg3, .inl ⟨_, rfl, J3.done C (.inr (beq_iff_eq.mp hz3))⟩⟩
      rw [if_neg hz3]
      have hz2' : ¬ (k1 = 1) := fun z => hz2 (beq_iff_eq.mpr z)
      have hz3' : ¬ (k1 = 0) := fun z => hz3 (beq_iff_eq.mpr z)
      obtain ⟨x4, hx4⟩ := Ze (xs := a) (i := at_ - 1) (by omega)
      refine wpS_bind (Zl hx4 ?_)
      have J4 := J3.pushA C (by omega) hx4 (fun _ y hy => by
       have := klo1 (k1 - 1) (by omega)
       try dsimp only at this
       rw [Nat.zero_add, hy] at this
       have e : x4 = x3 := by rw [hx3] at hx4; exact (Option.some.inj hx4).symm
       rw [e]
       exact C.o.asy _ _ this)
      by_cases hz : (at_ - 1 == 0) = true
      ·rw [if_pos hz]
       exact wpS_pure ⟨sg3, .inl ⟨_, rfl, J4.done C (.inl (by have := beq_iff_eq.mp hz; omega))⟩⟩
      ·rw [if_neg hz]
       have hz' : ¬ (at_ - 1 = 0) := fun z => hz (beq_iff_eq.mpr z)
       by_cases h7 : (decide (at_ - at_ < 7) && decide (nb - 1 - k1 < 7)) = true
       ·rw [if_pos h7]
        exact wpS_pure ⟨sg3, .inr ⟨_, _, _, _, _, _, rfl, J4, by omega, by omega, by omega⟩⟩
       ·rw [if_neg h7]
        exact wpS_pure ⟨sg3, _, _, _, _, _, _, rfl, J4, by omega, by omega, by omega⟩
     ·rw [if_neg hk1]
      obtain rfl : k1 = nb - 1 := by omega
      obtain ⟨x4, hx4⟩ := Ze (xs := a) (i := at_ - 1) (by omega)
      refine wpS_bind (Zl hx4 ?_)
      have J4 := J2.pushA C (by omega) hx4 (fun _ y hy => by
       have := klo1 (nb - 1 - 1) (by omega)
       try dsimp only at this
       rw [Nat.zero_add, hy] at this
       have e : x4 = x3 := by rw [hx3] at hx4; exact (Option.some.inj hx4).symm
       rw [e]
       exact C.o.asy _ _ this)
      by_cases hz : (at_ - 1 == 0) = true
      ·rw [if_pos hz]
       exact wpS_pure ⟨sg3, .inl ⟨_, rfl, J4.done C (.inl (by have := beq_iff_eq.mp hz; omega))⟩⟩
      ·rw [if_neg hz]
       have hz' : ¬ (at_ - 1 = 0) := fun z => hz (beq_iff_eq.mpr z)
       by_cases h7 : (decide (at_ - at_ < 7) && decide (nb - 1 - (nb - 1) < 7)) = true
       ·rw [if_pos h7]
        exact wpS_pure ⟨sg3, .inr ⟨_, _, _, _, _, _, rfl, J4, by omega, by omega, by omega⟩⟩
       ·rw [if_neg h7]
        exact wpS_pure ⟨sg3, _, _, _, _, _, _, rfl, J4, by omega, by omega, by omega⟩
   ·rw [if_neg hg1]
    refine wpS_bind (Yw ?_)
    generalize hg3 : SortSt.mk' _ _ _ _ _ = st3
    have sg3 : SG st st3 := by rw [← hg3]; exact sg2
    have hk3 : kindOf st3 = κ := by rw [sg3.1]; exact hk
    obtain ⟨y2, hy2⟩ := Ze (xs := b) (i := nb - 1) (by omega)
    refine wpS_bind (Zl hy2 ?_)
    refine wpS_bind (ZB hc hk3 (fun i => match a[0 + i]? with | some x => !r y2 x | none => false) (fun i hi => ?_) (mb y2 (Zq hy2)) (fun i j hij hj hp => ?_) (by omega) fun at_ kn klo khi => ?_)
    ·obtain ⟨x, hx⟩ := Ze (xs := a) (i := 0 + i) (by omega)
     refine ⟨x, hx, ma x (Zq hx), ?_⟩
     try dsimp only
     rw [hx]
     rfl
    ·obtain ⟨xj, hxj⟩ := Ze (xs := a) (i := 0 + j) (by omega)
     obtain ⟨xi, hxi⟩ := Ze (xs := a) (i := 0 + i) (by omega)
     try dsimp only at hp ⊢
     rw [hxj] at hp
     rw [hxi]
     rw [Bool.not_eq_true'] at hp ⊢
     exact C.o.ntr _ _ _ (Z7 C.o C.sa (Zt hxi) (Zt hxj) (by omega)) hp
    try dsimp only
    by_cases hk0 : na - at_ > 0
    ·rw [if_pos hk0]
     have J1 := J.runA' C (m := at_) (by omega) (fun i hi1 hi2 x y hx hy => by
      rw [hy2] at hy
      cases hy
      have := khi i hi1 hi2
      try dsimp only at this
      rw [Nat.zero_add, hx, Bool.not_eq_false'] at this
      exact C.o.asy _ _ this)
     by_cases hz0 : (at_ == 0) = true
     ·rw [if_pos hz0]
      exact wpS_pure ⟨sg3, .inl ⟨_, rfl, J1.done C (.inl (beq_iff_eq.mp hz0))⟩⟩
     rw [if_neg hz0]
     have hz0' : ¬ (at_ = 0) := fun z => hz0 (beq_iff_eq.mpr z)
     refine wpS_bind (Zl hy2 ?_)
     have J2 := J1.pushB C (by omega) hy2 (fun _ x hx => by
      have := klo (at_ - 1) (by omega)
      try dsimp only at this
      rw [Nat.zero_add, hx, Bool.not_eq_true'] at this
      exact this)
     by_cases hz : (nb - 1 == 1) = true
     ·rw [if_pos hz]
      exact wpS_pure ⟨sg3, .inl ⟨_, rfl, J2.first C (beq_iff_eq.mp hz) h0⟩⟩
     rw [if_neg hz]
     have hz' : ¬ (nb - 1 = 1) := fun z => hz (beq_iff_eq.mpr z)
     obtain ⟨x3, hx3⟩ := Ze (xs := a) (i := at_ - 1) (by omega)
     refine wpS_bind (Zl hx3 ?_)
     refine wpS_bind (ZB hc hk3 (fun i => match b[0 + i]? with | some y => r y x3 | none => false) (fun i hi => ?_) (ma x3 (Zq hx3)) (fun i j hij hj hp => ?_) (by omega) fun k1 k1n klo1 khi1 => ?_)
     ·obtain ⟨y, hy⟩ := Ze (xs := b) (i := 0 + i) (by omega)
      refine ⟨y, hy, mb y (Zq hy), ?_⟩
      try dsimp only
      rw [hy]
      rfl
     ·obtain ⟨yj, hyj⟩ := Ze (xs := b) (i := 0 + j) (by omega)
      obtain ⟨yi, hyi⟩ := Ze (xs := b) (i := 0 + i) (by omega)
      try dsimp only at hp ⊢
      rw [hyj] at hp
      rw [hyi]
      exact Jg C.o hp (Z7 C.o C.sb (Zt hyi) (Zt hyj) (by omega))
     try dsimp only
     by_cases hk1 : nb - 1 - k1 > 0
     ·rw [if_pos hk1]
      have J3 := J2.runB' C (m := k1) (by omega) (fun i hi1 hi2 y x hy hx => by
       rw [hx3] at hx
       cases hx
       have := khi1 i hi1 hi2
       try dsimp only at this
       rw [Nat.zero_add, hy] at this
       exact this)
      by_cases hz2 : (k1 == 1) = true
      ·rw [if_pos hz2]
       exact wpS_pure ⟨sg3, .inl ⟨_, rfl, J3.first C (beq_iff_eq.mp hz2) h0⟩⟩
      rw [if_neg hz2]
      by_cases hz3 : (k1 == 0) = true
      ·rw [if_pos hz3]
       exact wpS_pure ⟨sg3, .inl ⟨_, rfl, J3.done C (.inr (beq_iff_eq.mp hz3))⟩⟩
      rw [if_neg hz3]
      have hz2' : ¬ (k1 = 1) := fun z => hz2 (beq_iff_eq.mpr z)
      have hz3' : ¬ (k1 = 0) := fun z => hz3 (beq_iff_eq.mpr z)
      obtain ⟨x4, hx4⟩ := Ze (xs := a) (i := at_ - 1) (by omega)
      refine wpS_bind (Zl hx4 ?_)
      have J4 := J3.pushA C (by omega) hx4 (fun _ y hy => by
       have := klo1 (k1 - 1) (by omega)
       try dsimp only at this
       rw [Nat.zero_add, hy] at this
       have e : x4 = x3 := by rw [hx3] at hx4; exact (Option.some.inj hx4).symm
       rw [e]
       exact C.o.asy _ _ this)
      by_cases hz : (at_ - 1 == 0) = true
      ·rw [if_pos hz]
       exact wpS_pure ⟨sg3, .inl ⟨_, rfl, J4.done C (.inl (by have := beq_iff_eq.mp hz; omega))⟩⟩
      ·rw [if_neg hz]
       have hz' : ¬ (at_ - 1 = 0) := fun z => hz (beq_iff_eq.mpr z)
       by_cases h7 : (decide (na - at_ < 7) && decide (nb - 1 - k1 < 7)) = true
       ·rw [if_pos h7]
        exact wpS_pure ⟨sg3, .inr ⟨_, _, _, _, _, _, rfl, J4, by omega, by omega, by omega⟩⟩
       ·rw [if_neg h7]
        exact wpS_pure ⟨sg3, _, _, _, _, _, _, rfl, J4, by omega, by omega, by omega⟩
     ·rw [if_neg hk1]
      obtain rfl : k1 = nb - 1 := by omega
      obtain ⟨x4, hx4⟩ := Ze (xs := a) (i := at_ - 1) (by omega)
      refine wpS_bind (Zl hx4 ?_)
      have J4 := J2.pushA C (by omega) hx4 (fun _ y hy => by
       have := klo1 (nb - 1 - 1) (by omega)
       try dsimp only at this
       rw [Nat.zero_add, hy] at this
       have e : x4 = x3 := by rw [hx3] at hx4; exact (Option.some.inj hx4).symm
       rw [e]
       exact C.o.asy _ _ this)
      by_cases hz : (at_ - 1 == 0) = true
      ·rw [if_pos hz]
       exact wpS_pure ⟨sg3, .inl ⟨_, rfl, J4.done C (.inl (by have := beq_iff_eq.mp hz; omega))⟩⟩
      ·rw [if_neg hz]
       have hz' : ¬ (at_ - 1 = 0) := fun z => hz (beq_iff_eq.mpr z)
       by_cases h7 : (decide (na - at_ < 7) && decide (nb - 1 - (nb - 1) < 7)) = true
       ·rw [if_pos h7]
        exact wpS_pure ⟨sg3, .inr ⟨_, _, _, _, _, _, rfl, J4, by omega, by omega, by omega⟩⟩
       ·rw [if_neg h7]
        exact wpS_pure ⟨sg3, _, _, _, _, _, _, rfl, J4, by omega, by omega, by omega⟩
    ·rw [if_neg hk0]
     obtain rfl : at_ = na := by omega
     refine wpS_bind (Zl hy2 ?_)
     have J2 := J.pushB C (by omega) hy2 (fun _ x hx => by
      have := klo (at_ - 1) (by omega)
      try dsimp only at this
      rw [Nat.zero_add, hx, Bool.not_eq_true'] at this
      exact this)
     by_cases hz : (nb - 1 == 1) = true
     ·rw [if_pos hz]
      exact wpS_pure ⟨sg3, .inl ⟨_, rfl, J2.first C (beq_iff_eq.mp hz) h0⟩⟩
     rw [if_neg hz]
     have hz' : ¬ (nb - 1 = 1) := fun z => hz (beq_iff_eq.mpr z)
     obtain ⟨x3, hx3⟩ := Ze (xs := a) (i := at_ - 1) (by omega)
     refine wpS_bind (Zl hx3 ?_)
     refine wpS_bind (ZB hc hk3 (fun i => match b[0 + i]? with | some y => r y x3 | none => false) (fun i hi => ?_) (ma x3 (Zq hx3)) (fun i j hij hj hp => ?_) (by omega) fun k1 k1n klo1 khi1 => ?_)
     ·obtain ⟨y, hy⟩ := Ze (xs := b) (i := 0 + i) (by omega)
      refine ⟨y, hy, mb y (Zq hy), ?_⟩
      try dsimp only
      rw [hy]
      rfl
     ·obtain ⟨yj, hyj⟩ := Ze (xs := b) (i := 0 + j) (by omega)
      obtain ⟨yi, hyi⟩ := Ze (xs := b) (i := 0 + i) (by omega)
      try dsimp only at hp ⊢
      rw [hyj] at hp
      rw [hyi]
      exact Jg C.o hp (Z7 C.o C.sb (Zt hyi) (Zt hyj) (by omega))
     try dsimp only
     by_cases hk1 : nb - 1 - k1 > 0
     ·rw [if_pos hk1]
      have J3 := J2.runB' C (m := k1) (by omega) (fun i hi1 hi2 y x hy hx => by
       rw [hx3] at hx
       cases hx
       have := khi1 i hi1 hi2
       try dsimp only at this
       rw [Nat.zero_add, hy] at this
       exact this)
      by_cases hz2 : (k1 == 1) = true
      ·rw [if_pos hz2]
       exact wpS_pure ⟨sg3, .inl ⟨_, rfl, J3.first C (beq_iff_eq.mp hz2) h0⟩⟩
      rw [if_neg hz2]
      by_cases hz3 : (k1 == 0) = true
      ·rw [if_pos hz3]
       exact wpS_pure ⟨sg3, .inl ⟨_, rfl, J3.done C (.inr (beq_iff_eq.mp hz3))⟩⟩
      rw [if_neg hz3]
      have hz2' : ¬ (k1 = 1) := fun z => hz2 (beq_iff_eq.mpr z)
      have hz3' : ¬ (k1 = 0) := fun z => hz3 (beq_iff_eq.mpr z)
      obtain ⟨x4, hx4⟩ := Ze (xs := a) (i := at_ - 1) (by omega)
      refine wpS_bind (Zl hx4 ?_)
      have J4 := J3.pushA C (by omega) hx4 (fun _ y hy => by
       have := klo1 (k1 - 1) (by omega)
       try dsimp only at this
       rw [Nat.zero_add, hy] at this
       have e : x4 = x3 := by rw [hx3] at hx4; exact (Option.some.inj hx4).symm
       rw [e]
       exact C.o.asy _ _ this)
      by_cases hz : (at_ - 1 == 0) = true
      ·rw [if_pos hz]
       exact wpS_pure ⟨sg3, .inl ⟨_, rfl, J4.done C (.inl (by have := beq_iff_eq.mp hz; omega))⟩⟩
      ·rw [if_neg hz]
       have hz' : ¬ (at_ - 1 = 0) := fun z => hz (beq_iff_eq.mpr z)
       by_cases h7 : (decide (at_ - at_ < 7) && decide (nb - 1 - k1 < 7)) = true
       ·rw [if_pos h7]
        exact wpS_pure ⟨sg3, .inr ⟨_, _, _, _, _, _, rfl, J4, by omega, by omega, by omega⟩⟩
       ·rw [if_neg h7]
        exact wpS_pure ⟨sg3, _, _, _, _, _, _, rfl, J4, by omega, by omega, by omega⟩
     ·rw [if_neg hk1]
      obtain rfl : k1 = nb - 1 := by omega
      obtain ⟨x4, hx4⟩ := Ze (xs := a) (i := at_ - 1) (by omega)
      refine wpS_bind (Zl hx4 ?_)
      have J4 := J2.pushA C (by omega) hx4 (fun _ y hy => by
       have := klo1 (nb - 1 - 1) (by omega)
       try dsimp only at this
       rw [Nat.zero_add, hy] at this
       have e : x4 = x3 := by rw [hx3] at hx4; exact (Option.some.inj hx4).symm
       rw [e]
       exact C.o.asy _ _ this)
      by_cases hz : (at_ - 1 == 0) = true
      ·rw [if_pos hz]
       exact wpS_pure ⟨sg3, .inl ⟨_, rfl, J4.done C (.inl (by have := beq_iff_eq.mp hz; omega))⟩⟩
      ·rw [if_neg hz]
       have hz' : ¬ (at_ - 1 = 0) := fun z => hz (beq_iff_eq.mpr z)
       by_cases h7 : (decide (at_ - at_ < 7) && decide (nb - 1 - (nb - 1) < 7)) = true
       ·rw [if_pos h7]
        exact wpS_pure ⟨sg3, .inr ⟨_, _, _, _, _, _, rfl, J4, by omega, by omega, by omega⟩⟩
       ·rw [if_neg h7]
        exact wpS_pure ⟨sg3, _, _, _, _, _, _, rfl, J4, by omega, by omega, by omega⟩
  ·rintro c st2 ⟨sg2, na, nb, out, g, ac, bc, rfl, J, i1, i2, i4⟩
   rw [Nat.max_eq_right (Nat.zero_le _)] at i4
   have la := J'.la
   have lb := J'.lb
   omega
  rintro c st2 ⟨sg2, ⟨res, ec, gd⟩ | ⟨na2, nb2, out, g, ac, bc, rfl, J2, k1, k2, k3⟩⟩
  ·rw [ec]
   exact wpS_pure ⟨sg2, res, rfl, gd⟩
  dsimp only
  refine wpS_bind (Yw (wpS_pure ⟨sg2, _, _, _, _, rfl, J2, k1, k2, by omega⟩))
end
end PyProof.Rows.Tim
set_option Elab.async false
set_option linter.all false
set_option maxRecDepth 100000
set_option maxHeartbeats 4000000
namespace PyProof.Rows.Tim
open PySem
def SI (r : Keyed → Keyed → Bool) (xs : Array Keyed) (lo hi : Nat) : Prop := ∀ i j x y, lo ≤ i → i ≤ j → j < hi → xs[i]? = some x → xs[j]? = some y → r y x = false
def NI (r : Keyed → Keyed → Bool) (xs : Array Keyed) (lo hi : Nat) : Prop := ∀ i j x y, lo ≤ i → i ≤ j → j < hi → xs[i]? = some x → xs[j]? = some y → r x y = false
def EQ (r : Keyed → Keyed → Bool) (xs : Array Keyed) (lo hi : Nat) : Prop := ∀ i j x y, lo ≤ i → i < hi → lo ≤ j → j < hi → xs[i]? = some x → xs[j]? = some y → r x y = false
section
variable {r : Keyed → Keyed → Bool} {xs : Array Keyed} {lo hi : Nat}
theorem SI.one (o : Ord r) : SI r xs lo (lo + 1) := fun i j x y h1 h2 h3 hx hy => by
 obtain rfl : i = j := by omega
 rw [hx] at hy; cases hy; exact o.irr _
theorem NI.one (o : Ord r) : NI r xs lo (lo + 1) := fun i j x y h1 h2 h3 hx hy => by
 obtain rfl : i = j := by omega
 rw [hx] at hy; cases hy; exact o.irr _
theorem EQ.one (o : Ord r) : EQ r xs lo (lo + 1) := fun i j x y h1 h2 h3 h4 hx hy => by
 obtain rfl : i = j := by omega
 rw [hx] at hy; cases hy; exact o.irr _
theorem SI.snoc (o : Ord r) (h : SI r xs lo hi) {p q : Keyed} (hl : lo < hi) (hp : xs[hi - 1]? = some p) (hq : xs[hi]? = some q) (hr : r q p = false) : SI r xs lo (hi + 1) := fun i j x y h1 h2 h3 hx hy => by
 by_cases hj : j < hi
 ·exact h i j x y h1 h2 hj hx hy
 ·obtain rfl : j = hi := by omega
  rw [hq] at hy; cases hy
  by_cases hi' : i = j
  ·subst hi'
   rw [hq] at hx; cases hx; exact o.irr _
  ·exact o.ntr x p q (h i (j - 1) x p h1 (by omega) (by omega) hx hp) hr
theorem NI.snoc (o : Ord r) (h : NI r xs lo hi) {p q : Keyed} (hl : lo < hi) (hp : xs[hi - 1]? = some p) (hq : xs[hi]? = some q) (hr : r p q = false) : NI r xs lo (hi + 1) := fun i j x y h1 h2 h3 hx hy => by
 by_cases hj : j < hi
 ·exact h i j x y h1 h2 hj hx hy
 ·obtain rfl : j = hi := by omega
  rw [hq] at hy; cases hy
  by_cases hi' : i = j
  ·subst hi'
   rw [hq] at hx; cases hx; exact o.irr _
  ·exact o.ntr q p x hr (h i (j - 1) x p h1 (by omega) (by omega) hx hp)
theorem EQ.snoc (o : Ord r) (h : EQ r xs lo hi) {p q : Keyed} (hl : lo < hi) (hp : xs[hi - 1]? = some p) (hq : xs[hi]? = some q) (hr : r p q = false) (hr2 : r q p = false) : EQ r xs lo (hi + 1) := fun i j x y h1 h2 h3 h4 hx hy => by
 have one : ∀ i x, lo ≤ i → i < hi → xs[i]? = some x → r x q = false ∧ r q x = false := fun i x h1 h2 hx =>
  ⟨o.ntr q p x hr (h i (hi - 1) x p h1 h2 (by omega) (by omega) hx hp), o.ntr x p q (h (hi - 1) i p x (by omega) (by omega) h1 h2 hp hx) hr2⟩
 by_cases hj : j < hi
 ·by_cases hi' : i < hi
  ·exact h i j x y h1 hi' h3 hj hx hy
  ·obtain rfl : i = hi := by omega
   rw [hq] at hx; cases hx
   exact (one j y h3 hj hy).2
 ·obtain rfl : j = hi := by omega
  rw [hq] at hy; cases hy
  by_cases hi' : i < j
  ·exact (one i x h1 hi' hx).1
  ·obtain rfl : i = j := by omega
   rw [hq] at hx; cases hx
   exact o.irr _
abbrev mir (xs : Array Keyed) (i j : Nat) : Array Keyed := mirror xs i j ((j - i) / 2)
theorem Wh (hh : hi ≤ xs.size) (k : Nat) : (mir xs lo hi)[k]? = if lo ≤ k ∧ k < hi then xs[lo + hi - 1 - k]? else xs[k]? := getElem?_mirror_all hh k
theorem SI.mir (h : SI r xs lo hi) (hh : hi ≤ xs.size) : NI r (mir xs lo hi) lo hi := fun i j x y h1 h2 h3 hx hy => by
 rw [Wh hh, if_pos ⟨by omega, by omega⟩] at hx hy
 exact h _ _ y x (by omega) (by omega) (by omega) hy hx
theorem NI.mir (h : NI r xs lo hi) (hh : hi ≤ xs.size) : SI r (mir xs lo hi) lo hi := fun i j x y h1 h2 h3 hx hy => by
 rw [Wh hh, if_pos ⟨by omega, by omega⟩] at hx hy
 exact h _ _ y x (by omega) (by omega) (by omega) hy hx
theorem NI.mirEq {m : Nat} (h : NI r xs lo hi) (e : EQ r xs m hi) (hm : lo ≤ m) (hh : hi ≤ xs.size) : NI r (PyProof.Rows.Tim.mir xs m hi) lo hi := fun i j x y h1 h2 h3 hx hy => by
 rw [Wh hh] at hx hy
 by_cases hj : m ≤ j
 ·rw [if_pos ⟨hj, h3⟩] at hy
  by_cases hi' : m ≤ i
  ·rw [if_pos ⟨hi', by omega⟩] at hx
   exact e _ _ x y (by omega) (by omega) (by omega) (by omega) hx hy
  ·rw [if_neg (by omega)] at hx
   exact h i _ x y h1 (by omega) (by omega) hx hy
 ·rw [if_neg (by omega)] at hx hy
  exact h i j x y h1 h2 h3 hx hy
theorem Wg {m : Nat} (hh : hi ≤ xs.size) (hm : m < hi) {p : Keyed} (hp : (mir xs m hi)[hi - 1]? = some p) : xs[m]? = some p := by
 rw [Wh hh, if_pos ⟨by omega, by omega⟩, show m + hi - 1 - (hi - 1) = m by omega] at hp
 exact hp
theorem JL (hh : hi ≤ xs.size) {k : Nat} (h : k < lo ∨ hi ≤ k) : (mir xs lo hi)[k]? = xs[k]? := by rw [Wh hh, if_neg (by omega)]
end
structure CB (a₀ : Array Keyed) (κ : SortKind) (lo : Nat) (st st' : SortSt) : Prop where
 kind : kindOf st' = κ
 pend : pendingOf st' = pendingOf st
 fail : failedOf st' = failedOf st
 perm : (arrOf st').Perm a₀
 pre : ∀ k, k < lo → (arrOf st')[k]? = (arrOf st)[k]?
theorem CB.size {a₀ : Array Keyed} {κ : SortKind} {lo : Nat} {st st' : SortSt} (h : CB a₀ κ lo st st') : (arrOf st').size = a₀.size := h.perm.size_eq
theorem CB.mem {a₀ : Array Keyed} {κ : SortKind} {lo : Nat} {st st' : SortSt} (h : CB a₀ κ lo st st') {i : Nat} {x : Keyed} (hx : (arrOf st')[i]? = some x) : x ∈ a₀.toList := (Array.perm_iff_toList_perm.mp h.perm).mem_iff.mp (Zq hx)
theorem CB.rev {a₀ : Array Keyed} {κ : SortKind} {lo m hi : Nat} {st st' : SortSt} (h : CB a₀ κ lo st st') (hm : lo ≤ m) (hh : hi ≤ a₀.size) : CB a₀ κ lo st (setArr st' (mir (arrOf st') m hi)) :=
 ⟨h.kind, h.pend, h.fail, (mirror_perm _ _ _ _).trans h.perm, fun k hk => by
  show (mir (arrOf st') m hi)[k]? = _
  rw [JL (by rw [h.size]; exact hh) (.inl (by omega))]
  exact h.pre k hk⟩
section
variable {prog : Program} {w : World} {A : Around} {E : Value → Shared → Prop} {s : Shared} {κ : SortKind} {a₀ : Array Keyed} {r : Keyed → Keyed → Bool}
theorem Z2 {st st' : SortSt} {lo i j : Nat} {x y : Keyed} {Q : Option Bool → SortSt → Prop} (hc : Cmp prog w A E s κ a₀ r) (B : CB a₀ κ lo st st') (hx : (arrOf st')[i]? = some x) (hy : (arrOf st')[j]? = some y) (h : Q (some (r x y)) st') : wpS (model prog w) A E s (ltAt' i j) Q st' := by
 rw [ltAt'_eq]
 exact wpS_bind (wpS_get (wpS_bind (Zl hx (wpS_bind (Zl hy (hc _ _ _ _ (B.mem hx) (B.mem hy) B.kind h))))))
theorem Z1 {st : SortSt} {i j : Nat} {Q : Unit → SortSt → Prop} (h : Q () (setArr st (mir (arrOf st) i j))) : wpS (model prog w) A E s (reverseSlice' i j) Q st := by
 rw [reverseSlice'_eq]
 exact wpS_modify h
theorem EQ.one' {xs : Array Keyed} {lo hi : Nat} (o : Ord r) (h : hi = lo + 1) : EQ r xs lo hi := by subst h; exact EQ.one o
theorem Wt {st : SortSt} {lo nrem : Nat} {Q : Option Nat → SortSt → Prop} (o : Ord r) (hc : Cmp prog w A E s κ a₀ r) (B0 : CB a₀ κ lo st st) (h1 : 1 ≤ nrem) (hz : lo + nrem ≤ a₀.size)
  (h : ∀ n st', CB a₀ κ lo st st' → 1 ≤ n → n ≤ nrem → SI r (arrOf st') lo (lo + n) → Q (some n) st') : wpS (model prog w) A E s (countRun' lo nrem) Q st := by
 rw [countRun'_eq]
 dsimp only
 have z0 := B0.size
 refine wpS_bind (wpS_mono (wpS_forRange (I := fun y c st' => st' = st ∧ c = (none, y) ∧ SI r (arrOf st) lo (lo + y))
  (Q := fun c st' => st' = st ∧ ∃ n, c = (none, n) ∧ 1 ≤ n ∧ n ≤ nrem ∧ SI r (arrOf st) lo (lo + n) ∧ (n = nrem ∨ ∃ p q, (arrOf st)[lo + n - 1]? = some p ∧ (arrOf st)[lo + n]? = some q ∧ r q p = true)) ?_ ?_ ⟨rfl, rfl, SI.one o⟩) ?_)
 ·rintro y c st' hy1 hy2 ⟨rfl, rfl, S⟩
  dsimp only
  obtain ⟨p, hp⟩ := Ze (xs := arrOf st') (i := lo + y - 1) (by omega)
  obtain ⟨q, hq⟩ := Ze (xs := arrOf st') (i := lo + y) (by omega)
  refine wpS_bind (Z2 hc B0 hq hp ?_)
  cases hr : r q p with
  | true => exact wpS_pure ⟨rfl, y, rfl, hy1, by omega, S, .inr ⟨p, q, hp, hq, hr⟩⟩
  | false => exact wpS_pure ⟨rfl, rfl, S.snoc (hi := lo + y) o (by omega) hp hq hr⟩
 ·rintro c st' ⟨rfl, rfl, S⟩
  have e9 : max 1 nrem = nrem := Nat.max_eq_right h1
  rw [e9] at S
  exact ⟨rfl, nrem, by rw [e9], h1, Nat.le_refl _, S, .inl rfl⟩
 rintro c st' ⟨rfl, n, rfl, n1, n2, S, hn⟩
 dsimp only
 by_cases hnn : (n == nrem) = true
 ·rw [if_pos hnn]
  exact wpS_pure (h n st' B0 n1 n2 S)
 rw [if_neg hnn]
 have hnn' : ¬ (n = nrem) := fun z => hnn (beq_iff_eq.mpr z)
 rcases hn with hn | ⟨p, q, hp, hq, hr⟩
 ·exact absurd hn hnn'
 by_cases hn1 : n > 1
 ·rw [if_pos hn1]
  obtain ⟨f, hf⟩ := Ze (xs := arrOf st') (i := lo) (by omega)
  refine wpS_bind (Z2 hc B0 hf hp ?_)
  cases hrf : r f p with
  | true => exact wpS_pure (h n st' B0 n1 n2 S)
  | false =>
   dsimp only
   rw [if_neg Bool.false_ne_true]
   refine wpS_bind (Z1 ?_)
   have B1 := B0.rev (m := lo) (hi := lo + n) (Nat.le_refl _) (by omega)
   have N1 : NI r (mir (arrOf st') lo (lo + n)) lo (lo + n) := S.mir (by omega)
   obtain ⟨p1, hp1⟩ := Ze (xs := mir (arrOf st') lo (lo + n)) (i := lo + n - 1) (by rw [mirror_size]; omega)
   have hp1' := Wg (by omega) (by omega) hp1
   rw [hf] at hp1'
   cases hp1'
   have hq1 : (mir (arrOf st') lo (lo + n))[lo + n]? = some q := by rw [JL (by omega) (.inr (Nat.le_refl _))]; exact hq
   have N1' : NI r (arrOf (setArr st' (mir (arrOf st') lo (lo + n)))) lo (lo + (n + 1)) := N1.snoc (hi := lo + n) o (by omega) hp1 hq1 (o.ntr q p f (o.asy _ _ hr) hrf)
   generalize setArr st' (mir (arrOf st') lo (lo + n)) = st1 at B1 N1'
   refine wpS_bind (wpS_lift (wpAny_rule ⟨rfl, ?_⟩))
   refine wpS_bind (wpS_mono (wpS_forRange (I := fun y c stx => CB a₀ κ lo st' stx ∧ ∃ neq, c = (none, y, neq) ∧ NI r (arrOf stx) lo (lo + y) ∧ neq + 1 ≤ y ∧ EQ r (arrOf stx) (lo + y - (neq + 1)) (lo + y))
    (Q := fun c stx => CB a₀ κ lo st' stx ∧ ∃ m neq, c = (none, m, neq) ∧ n + 1 ≤ m ∧ m ≤ nrem ∧ NI r (arrOf stx) lo (lo + m) ∧ neq + 1 ≤ m ∧ EQ r (arrOf stx) (lo + m - (neq + 1)) (lo + m)) ?_ ?_ ⟨B1, 0, rfl, N1', by omega, EQ.one' o (by omega)⟩) ?_)
   ·rintro y c st2 hy1 hy2 ⟨B2, neq, rfl, N2, g1, e2⟩
    dsimp only
    have z2 := B2.size
    obtain ⟨p2, hp2⟩ := Ze (xs := arrOf st2) (i := lo + y - 1) (by omega)
    obtain ⟨q2, hq2⟩ := Ze (xs := arrOf st2) (i := lo + y) (by omega)
    refine wpS_bind (Z2 hc B2 hq2 hp2 ?_)
    cases hr2 : r q2 p2 with
    | true =>
     dsimp only
     rw [if_pos rfl]
     by_cases hq0 : neq > 0
     ·rw [if_pos hq0]
      refine wpS_bind (Z1 ?_)
      have B3 := B2.rev (m := lo + y - (neq + 1)) (hi := lo + y) (by omega) (by omega)
      have N3 : NI r (mir (arrOf st2) (lo + y - (neq + 1)) (lo + y)) lo (lo + y) := N2.mirEq e2 (by omega) (by omega)
      obtain ⟨p3, hp3⟩ := Ze (xs := mir (arrOf st2) (lo + y - (neq + 1)) (lo + y)) (i := lo + y - 1) (by rw [mirror_size]; omega)
      have hp3' := Wg (by omega) (by omega) hp3
      have hq3 : (mir (arrOf st2) (lo + y - (neq + 1)) (lo + y))[lo + y]? = some q2 := by rw [JL (by omega) (.inr (Nat.le_refl _))]; exact hq2
      have h3 : r p3 q2 = false := o.ntr q2 p2 p3 (o.asy _ _ hr2) (e2 _ _ p3 p2 (Nat.le_refl _) (by omega) (by omega) (by omega) hp3' hp2)
      exact wpS_pure ⟨B3, 0, rfl, N3.snoc (hi := lo + y) o (by omega) hp3 hq3 h3, by omega, EQ.one' o (by omega)⟩
     ·rw [if_neg hq0]
      exact wpS_pure ⟨B2, 0, rfl, N2.snoc (hi := lo + y) o (by omega) hp2 hq2 (o.asy _ _ hr2), by omega, EQ.one' o (by omega)⟩
    | false =>
     dsimp only
     rw [if_neg Bool.false_ne_true]
     refine wpS_bind (Z2 hc B2 hp2 hq2 ?_)
     cases hr3 : r p2 q2 with
     | true => exact wpS_pure ⟨B2, y, neq, rfl, by omega, by omega, N2, g1, e2⟩
     | false =>
      refine wpS_pure ⟨B2, neq + 1, rfl, N2.snoc (hi := lo + y) o (by omega) hp2 hq2 hr3, by omega, ?_⟩
      have := e2.snoc (hi := lo + y) o (by omega) hp2 hq2 hr3 hr2
      rw [show lo + (y + 1) - (neq + 1 + 1) = lo + y - (neq + 1) by omega]
      exact this
   ·rintro c st2 ⟨B2, neq, rfl, N2, g1, e2⟩
    have e9 : max (n + 1) nrem = nrem := Nat.max_eq_right (by omega)
    rw [e9] at N2 g1 e2
    exact ⟨B2, nrem, neq, by rw [e9], by omega, by omega, N2, g1, e2⟩
   rintro c st3 ⟨B3, m, neq, rfl, m1, m2, N3, g3, e3⟩
   dsimp only
   have z3 := B3.size
   by_cases hq0 : neq > 0
   ·rw [if_pos hq0]
    refine wpS_bind (Z1 ?_)
    have B4 := B3.rev (m := lo + m - (neq + 1)) (hi := lo + m) (by omega) (by omega)
    have N4 : NI r (arrOf (setArr st3 (mir (arrOf st3) (lo + m - (neq + 1)) (lo + m)))) lo (lo + m) := N3.mirEq e3 (by omega) (by omega)
    generalize setArr st3 (mir (arrOf st3) (lo + m - (neq + 1)) (lo + m)) = st4 at B4 N4
    refine wpS_bind (Z1 ?_)
    have B9 := B4.rev (m := lo) (hi := lo + m) (Nat.le_refl _) (by omega)
    have S9 : SI r (arrOf (setArr st4 (mir (arrOf st4) lo (lo + m)))) lo (lo + m) := NI.mir N4 (by rw [B4.size]; omega)
    generalize setArr st4 (mir (arrOf st4) lo (lo + m)) = st9 at B9 S9
    have z9 := B9.size
    refine wpS_bind (wpS_forRange (I := fun y c stx => stx = st9 ∧ c = (none, y) ∧ SI r (arrOf st9) lo (lo + y)) ?_ ?_ ⟨rfl, rfl, S9⟩)
    ·rintro y c stx hy1 hy2 ⟨rfl, rfl, S⟩
     dsimp only
     obtain ⟨p9, hp9⟩ := Ze (xs := arrOf stx) (i := lo + y - 1) (by omega)
     obtain ⟨q9, hq9⟩ := Ze (xs := arrOf stx) (i := lo + y) (by omega)
     refine wpS_bind (Z2 hc B9 hq9 hp9 ?_)
     cases hr9 : r q9 p9 with
     | true => exact wpS_pure (wpS_pure (h y stx B9 (by omega) (by omega) S))
     | false => exact wpS_pure ⟨rfl, rfl, S.snoc (hi := lo + y) o (by omega) hp9 hq9 hr9⟩
    ·rintro c stx ⟨rfl, rfl, S⟩
     rw [Nat.max_eq_right (by omega)] at S
     have e9 : max m nrem = nrem := Nat.max_eq_right (by omega)
     dsimp only
     rw [e9]
     exact wpS_pure (h nrem stx B9 (by omega) (by omega) S)
   ·rw [if_neg hq0]
    refine wpS_bind (Z1 ?_)
    have B9 := B3.rev (m := lo) (hi := lo + m) (Nat.le_refl _) (by omega)
    have S9 : SI r (arrOf (setArr st3 (mir (arrOf st3) lo (lo + m)))) lo (lo + m) := NI.mir N3 (by rw [B3.size]; omega)
    generalize setArr st3 (mir (arrOf st3) lo (lo + m)) = st9 at B9 S9
    have z9 := B9.size
    refine wpS_bind (wpS_forRange (I := fun y c stx => stx = st9 ∧ c = (none, y) ∧ SI r (arrOf st9) lo (lo + y)) ?_ ?_ ⟨rfl, rfl, S9⟩)
    ·rintro y c stx hy1 hy2 ⟨rfl, rfl, S⟩
     dsimp only
     obtain ⟨p9, hp9⟩ := Ze (xs := arrOf stx) (i := lo + y - 1) (by omega)
     obtain ⟨q9, hq9⟩ := Ze (xs := arrOf stx) (i := lo + y) (by omega)
     refine wpS_bind (Z2 hc B9 hq9 hp9 ?_)
     cases hr9 : r q9 p9 with
     | true => exact wpS_pure (wpS_pure (h y stx B9 (by omega) (by omega) S))
     | false => exact wpS_pure ⟨rfl, rfl, S.snoc (hi := lo + y) o (by omega) hp9 hq9 hr9⟩
    ·rintro c stx ⟨rfl, rfl, S⟩
     rw [Nat.max_eq_right (by omega)] at S
     have e9 : max m nrem = nrem := Nat.max_eq_right (by omega)
     dsimp only
     rw [e9]
     exact wpS_pure (h nrem stx B9 (by omega) (by omega) S)
 ·rw [if_neg hn1]
  obtain rfl : n = 1 := by omega
  have N1' : NI r (arrOf st') lo (lo + (1 + 1)) := (NI.one o).snoc (hi := lo + 1) o (by omega) hp hq (o.asy _ _ hr)
  refine wpS_bind (wpS_lift (wpAny_rule ⟨rfl, ?_⟩))
  refine wpS_bind (wpS_mono (wpS_forRange (I := fun y c stx => CB a₀ κ lo st' stx ∧ ∃ neq, c = (none, y, neq) ∧ NI r (arrOf stx) lo (lo + y) ∧ neq + 1 ≤ y ∧ EQ r (arrOf stx) (lo + y - (neq + 1)) (lo + y))
   (Q := fun c stx => CB a₀ κ lo st' stx ∧ ∃ m neq, c = (none, m, neq) ∧ 1 + 1 ≤ m ∧ m ≤ nrem ∧ NI r (arrOf stx) lo (lo + m) ∧ neq + 1 ≤ m ∧ EQ r (arrOf stx) (lo + m - (neq + 1)) (lo + m)) ?_ ?_ ⟨B0, 0, rfl, N1', by omega, EQ.one' o (by omega)⟩) ?_)
  ·rintro y c st2 hy1 hy2 ⟨B2, neq, rfl, N2, g1, e2⟩
   dsimp only
   have z2 := B2.size
   obtain ⟨p2, hp2⟩ := Ze (xs := arrOf st2) (i := lo + y - 1) (by omega)
   obtain ⟨q2, hq2⟩ := Ze (xs := arrOf st2) (i := lo + y) (by omega)
   refine wpS_bind (Z2 hc B2 hq2 hp2 ?_)
   cases hr2 : r q2 p2 with
   | true =>
    dsimp only
    rw [if_pos rfl]
    by_cases hq0 : neq > 0
    ·rw [if_pos hq0]
     refine wpS_bind (Z1 ?_)
     have B3 := B2.rev (m := lo + y - (neq + 1)) (hi := lo + y) (by omega) (by omega)
     have N3 : NI r (mir (arrOf st2) (lo + y - (neq + 1)) (lo + y)) lo (lo + y) := N2.mirEq e2 (by omega) (by omega)
     obtain ⟨p3, hp3⟩ := Ze (xs := mir (arrOf st2) (lo + y - (neq + 1)) (lo + y)) (i := lo + y - 1) (by rw [mirror_size]; omega)
     have hp3' := Wg (by omega) (by omega) hp3
     have hq3 : (mir (arrOf st2) (lo + y - (neq + 1)) (lo + y))[lo + y]? = some q2 := by rw [JL (by omega) (.inr (Nat.le_refl _))]; exact hq2
     have h3 : r p3 q2 = false := o.ntr q2 p2 p3 (o.asy _ _ hr2) (e2 _ _ p3 p2 (Nat.le_refl _) (by omega) (by omega) (by omega) hp3' hp2)
     exact wpS_pure ⟨B3, 0, rfl, N3.snoc (hi := lo + y) o (by omega) hp3 hq3 h3, by omega, EQ.one' o (by omega)⟩
    ·rw [if_neg hq0]
     exact wpS_pure ⟨B2, 0, rfl, N2.snoc (hi := lo + y) o (by omega) hp2 hq2 (o.asy _ _ hr2), by omega, EQ.one' o (by omega)⟩
   | false =>
    dsimp only
    rw [if_neg Bool.false_ne_true]
    refine wpS_bind (Z2 hc B2 hp2 hq2 ?_)
    cases hr3 : r p2 q2 with
    | true => exact wpS_pure ⟨B2, y, neq, rfl, by omega, by omega, N2, g1, e2⟩
    | false =>
     refine wpS_pure ⟨B2, neq + 1, rfl, N2.snoc (hi := lo + y) o (by omega) hp2 hq2 hr3, by omega, ?_⟩
     have := e2.snoc (hi := lo + y) o (by omega) hp2 hq2 hr3 hr2
     rw [show lo + (y + 1) - (neq + 1 + 1) = lo + y - (neq + 1) by omega]
     exact this
  ·rintro c st2 ⟨B2, neq, rfl, N2, g1, e2⟩
   have e9 : max (1 + 1) nrem = nrem := Nat.max_eq_right (by omega)
   rw [e9] at N2 g1 e2
   exact ⟨B2, nrem, neq, by rw [e9], by omega, by omega, N2, g1, e2⟩
  rintro c st3 ⟨B3, m, neq, rfl, m1, m2, N3, g3, e3⟩
  dsimp only
  have z3 := B3.size
  by_cases hq0 : neq > 0
  ·rw [if_pos hq0]
   refine wpS_bind (Z1 ?_)
   have B4 := B3.rev (m := lo + m - (neq + 1)) (hi := lo + m) (by omega) (by omega)
   have N4 : NI r (arrOf (setArr st3 (mir (arrOf st3) (lo + m - (neq + 1)) (lo + m)))) lo (lo + m) := N3.mirEq e3 (by omega) (by omega)
   generalize setArr st3 (mir (arrOf st3) (lo + m - (neq + 1)) (lo + m)) = st4 at B4 N4
   refine wpS_bind (Z1 ?_)
   have B9 := B4.rev (m := lo) (hi := lo + m) (Nat.le_refl _) (by omega)
   have S9 : SI r (arrOf (setArr st4 (mir (arrOf st4) lo (lo + m)))) lo (lo + m) := NI.mir N4 (by rw [B4.size]; omega)
   generalize setArr st4 (mir (arrOf st4) lo (lo + m)) = st9 at B9 S9
   have z9 := B9.size
   refine wpS_bind (wpS_forRange (I := fun y c stx => stx = st9 ∧ c = (none, y) ∧ SI r (arrOf st9) lo (lo + y)) ?_ ?_ ⟨rfl, rfl, S9⟩)
   ·rintro y c stx hy1 hy2 ⟨rfl, rfl, S⟩
    dsimp only
    obtain ⟨p9, hp9⟩ := Ze (xs := arrOf stx) (i := lo + y - 1) (by omega)
    obtain ⟨q9, hq9⟩ := Ze (xs := arrOf stx) (i := lo + y) (by omega)
    refine wpS_bind (Z2 hc B9 hq9 hp9 ?_)
    cases hr9 : r q9 p9 with
    | true => exact wpS_pure (wpS_pure (h y stx B9 (by omega) (by omega) S))
    | false => exact wpS_pure ⟨rfl, rfl, S.snoc (hi := lo + y) o (by omega) hp9 hq9 hr9⟩
   ·rintro c stx ⟨rfl, rfl, S⟩
    rw [Nat.max_eq_right (by omega)] at S
    have e9 : max m nrem = nrem := Nat.max_eq_right (by omega)
    dsimp only
    rw [e9]
    exact wpS_pure (h nrem stx B9 (by omega) (by omega) S)
  ·rw [if_neg hq0]
   refine wpS_bind (Z1 ?_)
   have B9 := B3.rev (m := lo) (hi := lo + m) (Nat.le_refl _) (by omega)
   have S9 : SI r (arrOf (setArr st3 (mir (arrOf st3) lo (lo + m)))) lo (lo + m) := NI.mir N3 (by rw [B3.size]; omega)
   generalize setArr st3 (mir (arrOf st3) lo (lo + m)) = st9 at B9 S9
   have z9 := B9.size
   refine wpS_bind (wpS_forRange (I := fun y c stx => stx = st9 ∧ c = (none, y) ∧ SI r (arrOf st9) lo (lo + y)) ?_ ?_ ⟨rfl, rfl, S9⟩)
   ·rintro y c stx hy1 hy2 ⟨rfl, rfl, S⟩
    dsimp only
    obtain ⟨p9, hp9⟩ := Ze (xs := arrOf stx) (i := lo + y - 1) (by omega)
    obtain ⟨q9, hq9⟩ := Ze (xs := arrOf stx) (i := lo + y) (by omega)
    refine wpS_bind (Z2 hc B9 hq9 hp9 ?_)
    cases hr9 : r q9 p9 with
    | true => exact wpS_pure (wpS_pure (h y stx B9 (by omega) (by omega) S))
    | false => exact wpS_pure ⟨rfl, rfl, S.snoc (hi := lo + y) o (by omega) hp9 hq9 hr9⟩
   ·rintro c stx ⟨rfl, rfl, S⟩
    rw [Nat.max_eq_right (by omega)] at S
    have e9 : max m nrem = nrem := Nat.max_eq_right (by omega)
    dsimp only
    rw [e9]
    exact wpS_pure (h nrem stx B9 (by omega) (by omega) S)
end
end PyProof.Rows.Tim
set_option Elab.async false
set_option linter.all false
set_option maxRecDepth 100000
set_option maxHeartbeats 4000000
namespace PyProof.Rows.Tim
open PySem
section
variable {prog : Program} {w : World} {A : Around} {E : Value → Shared → Prop} {s : Shared} {κ : SortKind} {a₀ : Array Keyed} {r : Keyed → Keyed → Bool}
theorem ZdC {x y z : Keyed} (o : Ord r) (h : r z x = true) (h2 : r y x = false) : r z y = true := by
 cases e : r z y with
 | true => rfl
 | false =>
  have := o.ntr x y z h2 e
  rw [h] at this
  cases this
theorem ZaL {st : SortSt} {i j : Nat} {Q : Unit → SortSt → Prop} (h : Q () (setArr st (bubble (arrOf st) i (i - j)))) : wpS (model prog w) A E s (moveDown' i j) Q st := by
 rw [moveDown'_eq]
 exact wpS_modify h
theorem SI.put {xs : Array Keyed} {lo k l : Nat} {q : Keyed} (o : Ord r) (S : SI r xs lo (lo + k)) (hq : xs[lo + k]? = some q) (hl : l ≤ k) (h1 : ∀ i x, i < l → xs[lo + i]? = some x → r q x = false) (h2 : ∀ i x, l ≤ i → i < k → xs[lo + i]? = some x → r q x = true) : SI r (bubble xs (lo + k) (lo + k - (lo + l))) lo (lo + (k + 1)) := by
 have hs : lo + k < xs.size := (Array.getElem?_eq_some_iff.mp hq).1
 intro i j x y g1 g2 g3 hx hy
 rw [getElem?_bubble hs _ (by omega)] at hx hy
 rw [show lo + k - (lo + k - (lo + l)) = lo + l by omega] at hx hy
 by_cases ei : i = lo + l
 ·rw [if_pos ei, hq] at hx
  cases hx
  by_cases ej : j = lo + l
  ·rw [if_pos ej, hq] at hy
   cases hy
   exact o.irr _
  ·rw [if_neg ej, if_pos (by omega)] at hy
   exact o.asy _ _ (h2 (j - 1 - lo) y (by omega) (by omega) (by rw [show lo + (j - 1 - lo) = j - 1 by omega]; exact hy))
 ·rw [if_neg ei] at hx
  by_cases ej : j = lo + l
  ·rw [if_pos ej, hq] at hy
   cases hy
   rw [if_neg (by omega)] at hx
   exact h1 (i - lo) x (by omega) (by rw [show lo + (i - lo) = i by omega]; exact hx)
  ·rw [if_neg ej] at hy
   by_cases gi : lo + l < i
   ·rw [if_pos (by omega)] at hx hy
    exact S (i - 1) (j - 1) x y (by omega) (by omega) (by omega) hx hy
   ·rw [if_neg (by omega)] at hx
    by_cases gj : lo + l < j
    ·rw [if_pos (by omega)] at hy
     exact S i (j - 1) x y (by omega) (by omega) (by omega) hx hy
    ·rw [if_neg (by omega)] at hy
     exact S i j x y (by omega) (by omega) (by omega) hx hy
theorem JE {st st0 : SortSt} {lo n ok : Nat} {Q : Bool → SortSt → Prop} (o : Ord r) (hc : Cmp prog w A E s κ a₀ r) (B0 : CB a₀ κ lo st0 st) (h1 : 1 ≤ ok) (hn : ok ≤ n) (hz : lo + n ≤ a₀.size) (S0 : SI r (arrOf st) lo (lo + ok))
  (h : ∀ st', CB a₀ κ lo st0 st' → SI r (arrOf st') lo (lo + n) → Q true st') : wpS (model prog w) A E s (binarySort' lo n ok) Q st := by
 rw [binarySort'_eq]
 dsimp only
 rw [Nat.max_eq_left h1]
 refine wpS_bind (wpS_forRange (I := fun k c st' => c = (none, ()) ∧ CB a₀ κ lo st0 st' ∧ SI r (arrOf st') lo (lo + k)) ?_ ?_ ⟨rfl, B0, S0⟩)
 ·rintro k c st1 hk1 hk2 ⟨rfl, B1, S1⟩
  try dsimp only
  have z1 := B1.size
  obtain ⟨q, hq⟩ := Ze (xs := arrOf st1) (i := lo + k) (by omega)
  refine wpS_bind (wpS_mono (wpS_forRange (I := fun y c st' => st' = st1 ∧ ∃ l u, c = (none, l, u) ∧ l ≤ u ∧ u ≤ k ∧ (∀ i x, i < l → (arrOf st1)[lo + i]? = some x → r q x = false) ∧ (∀ i x, u ≤ i → i < k → (arrOf st1)[lo + i]? = some x → r q x = true) ∧ u - l ≤ k - y)
   (Q := fun c st' => st' = st1 ∧ ∃ l u, c = (none, l, u) ∧ l ≤ k ∧ (∀ i x, i < l → (arrOf st1)[lo + i]? = some x → r q x = false) ∧ (∀ i x, l ≤ i → i < k → (arrOf st1)[lo + i]? = some x → r q x = true)) ?_ ?_ ⟨rfl, 0, k, rfl, by omega, by omega, fun i x hi => absurd hi (by omega), fun i x g1 g2 => absurd g2 (by omega), by omega⟩) ?_)
  ·rintro y c st' _ hy ⟨rfl, l, u, rfl, g1, g2, g3, g4, g5⟩
   dsimp only
   by_cases hge : l ≥ u
   ·rw [if_pos hge]
    exact wpS_pure ⟨rfl, l, u, rfl, by omega, g3, fun i x g6 => g4 i x (by omega)⟩
   ·rw [if_neg hge]
    have hm : (l + u) / 2 < u := by omega
    have hm2 : l ≤ (l + u) / 2 := by omega
    generalize (l + u) / 2 = m at hm hm2
    obtain ⟨p, hp⟩ := Ze (xs := arrOf st') (i := lo + m) (by omega)
    refine wpS_bind (Z2 hc B1 hq hp ?_)
    cases hr : r q p with
    | true =>
     refine wpS_pure ⟨rfl, l, m, rfl, hm2, by omega, g3, fun i x g6 g7 hx => ?_, by omega⟩
     exact ZdC o hr (S1 (lo + m) (lo + i) p x (by omega) (by omega) (by omega) hp hx)
    | false =>
     refine wpS_pure ⟨rfl, m + 1, u, rfl, by omega, g2, fun i x g6 hx => ?_, g4, by omega⟩
     exact o.ntr x p q (S1 (lo + i) (lo + m) x p (by omega) (by omega) (by omega) hx hp) hr
  ·rintro c st' ⟨rfl, l, u, rfl, g1, g2, g3, g4, g5⟩
   rw [Nat.max_eq_right (Nat.zero_le _)] at g5
   exact ⟨rfl, l, u, rfl, by omega, g3, fun i x g6 => g4 i x (by omega)⟩
  rintro c st' ⟨rfl, l, u, rfl, g1, g3, g4⟩
  dsimp only
  refine wpS_bind (ZaL (wpS_pure ⟨rfl, ⟨B1.kind, B1.pend, B1.fail, (bubble_perm _ _ _).trans B1.perm, fun i hi => ?_⟩, S1.put o hq g1 g3 g4⟩))
  show (bubble (arrOf st') (lo + k) (lo + k - (lo + l)))[i]? = _
  rw [getElem?_bubble (by omega) _ (by omega), if_neg (by omega), if_neg (by omega)]
  exact B1.pre i hi
 ·rintro c st1 ⟨rfl, B1, S1⟩
  rw [Nat.max_eq_right hn] at S1
  exact wpS_pure (h st1 B1 S1)
end
end PyProof.Rows.Tim
set_option Elab.async false
set_option linter.all false
set_option maxRecDepth 100000
set_option maxHeartbeats 4000000
namespace PyProof.Rows.Tim
open PySem
def seg (L : List Keyed) (s n : Nat) : List Keyed := (L.drop s).take n
theorem YM {L : List Keyed} {s n i : Nat} (h : i < n) : (seg L s n)[i]? = L[s + i]? := by
 unfold seg
 rw [List.getElem?_take_of_lt h, List.getElem?_drop]
theorem Zas {L : List Keyed} {s n : Nat} (h : s + n ≤ L.length) : (seg L s n).length = n := by
 unfold seg
 rw [List.length_take, List.length_drop]; omega
theorem SI.pw {r : Keyed → Keyed → Bool} {xs : Array Keyed} {lo n : Nat} (h : SI r xs lo (lo + n)) : Pw r (seg xs.toList lo n) := by
 unfold Pw
 rw [List.pairwise_iff_getElem]
 intro i j hi hj hij
 have hn : j < n := by unfold seg at hj; rw [List.length_take] at hj; omega
 have e1 : (seg xs.toList lo n)[i]? = some (seg xs.toList lo n)[i] := List.getElem?_eq_getElem hi
 have e2 : (seg xs.toList lo n)[j]? = some (seg xs.toList lo n)[j] := List.getElem?_eq_getElem hj
 rw [YM (by omega), Array.getElem?_toList] at e1
 rw [YM hn, Array.getElem?_toList] at e2
 exact h (lo + i) (lo + j) _ _ (by omega) (by omega) (by omega) e1 e2
def Runs (r : Keyed → Keyed → Bool) (L : List Keyed) : List (Nat × Nat × Nat) → Nat → Nat → Prop
 | [], p, q => p = q
 | x :: rest, p, q => x.1 = p ∧ 1 ≤ x.2.1 ∧ Pw r (seg L x.1 x.2.1) ∧ Runs r L rest (p + x.2.1) q
section
variable {r : Keyed → Keyed → Bool} {L L' : List Keyed}
theorem Runs.le : ∀ {ps : List (Nat × Nat × Nat)} {p q : Nat}, Runs r L ps p q → p + ps.length ≤ q
 | [], _, _, h => by cases h; exact Nat.le_refl _
 | x :: ps, p, q, h => by
  have := Runs.le h.2.2.2
  have := h.2.1
  rw [List.length_cons]
  omega
theorem Runs.app : ∀ {l1 l2 : List (Nat × Nat × Nat)} {p q : Nat}, Runs r L (l1 ++ l2) p q ↔ ∃ m, Runs r L l1 p m ∧ Runs r L l2 m q
 | [], l2, p, q => ⟨fun h => ⟨p, rfl, h⟩, fun ⟨m, h1, h2⟩ => by cases h1; exact h2⟩
 | x :: l1, l2, p, q => by
  constructor
  ·rintro ⟨h1, h2, h3, h4⟩
   obtain ⟨m, g1, g2⟩ := Runs.app.mp h4
   exact ⟨m, ⟨h1, h2, h3, g1⟩, g2⟩
  ·rintro ⟨m, ⟨h1, h2, h3, g1⟩, g2⟩
   exact ⟨h1, h2, h3, Runs.app.mpr ⟨m, g1, g2⟩⟩
theorem Runs.congr : ∀ {ps : List (Nat × Nat × Nat)} {p q : Nat}, Runs r L ps p q → (∀ s n, p ≤ s → s + n ≤ q → seg L s n = seg L' s n) → Runs r L' ps p q
 | [], _, _, h, _ => h
 | x :: ps, p, q, ⟨h1, h2, h3, h4⟩, e => by
  have := Runs.le h4
  refine ⟨h1, h2, ?_, Runs.congr h4 fun s n g1 g2 => e s n (by omega) g2⟩
  rw [← e x.1 x.2.1 (by omega) (by omega)]
  exact h3
theorem Zar {m s n : Nat} (h : L.take m = L'.take m) (hs : s + n ≤ m) : seg L s n = seg L' s n := by
 have key : ∀ M : List Keyed, seg M s n = seg (M.take m) s n := fun M => by
  unfold seg
  rw [List.drop_take, List.take_take, Nat.min_eq_left (by omega)]
 rw [key L, key L', h]
theorem JV {m s n : Nat} (h : L.drop m = L'.drop m) (hs : m ≤ s) : seg L s n = seg L' s n := by
 have key : ∀ M : List Keyed, seg M s n = ((M.drop m).drop (s - m)).take n := fun M => by
  unfold seg
  rw [List.drop_drop, show m + (s - m) = s by omega]
 rw [key L, key L', h]
theorem Zbb {A B M : List Keyed} {k n : Nat} (o : Ord r) (sA : Pw r A) (sB : Pw r B) (hM : M.Perm (A.drop k ++ B.take n)) (sM : Pw r M) (h1 : ∀ x ∈ A.take k, ∀ y ∈ B, r y x = false) (h2 : ∀ z ∈ A, ∀ w ∈ B.drop n, r w z = false) : Pw r (A.take k ++ (M ++ B.drop n)) := by
 have pa : Pw r (A.take k) := List.Pairwise.sublist (List.take_sublist _ _) sA
 have pb : Pw r (B.drop n) := List.Pairwise.sublist (List.drop_sublist _ _) sB
 have sA' : Pw r (A.take k ++ A.drop k) := by rw [List.take_append_drop]; exact sA
 have sB' : Pw r (B.take n ++ B.drop n) := by rw [List.take_append_drop]; exact sB
 refine List.pairwise_append.mpr ⟨pa, List.pairwise_append.mpr ⟨sM, pb, fun z hz w hw => ?_⟩, fun x hx z hz => ?_⟩
 ·rcases List.mem_append.mp (hM.mem_iff.mp hz) with hz | hz
  ·exact h2 z (List.mem_of_mem_drop hz) w hw
  ·exact (List.pairwise_append.mp sB').2.2 z hz w hw
 ·rcases List.mem_append.mp hz with hz | hz
  ·rcases List.mem_append.mp (hM.mem_iff.mp hz) with hz | hz
   ·exact (List.pairwise_append.mp sA').2.2 x hx z hz
   ·exact h1 x hx z (List.mem_of_mem_take hz)
  ·exact h1 x hx z (List.mem_of_mem_drop hz)
theorem Zat (off : Nat) : ∀ (M : List Keyed) (j : Nat) (xs : Array Keyed), off + j + M.length ≤ xs.size → ((M.zipIdx j).foldl (fun a x => a.setIfInBounds (off + x.snd) x.fst) xs).toList = xs.toList.take (off + j) ++ (M ++ xs.toList.drop (off + j + M.length))
 | [], j, xs, _ => by
  show xs.toList = _
  rw [List.nil_append, List.length_nil, Nat.add_zero, List.take_append_drop]
 | m :: M, j, xs, h => by
  rw [List.length_cons] at h
  rw [List.zipIdx_cons, List.foldl_cons, Zat off M (j + 1) _ (by rw [Array.size_setIfInBounds]; omega), Array.toList_setIfInBounds]
  have hl : off + j < xs.toList.length := by rw [Array.length_toList]; omega
  rw [List.drop_set_of_lt (by omega), ← Nat.add_assoc, List.take_add_one, List.take_set_of_le (Nat.le_refl _), List.getElem?_set_self hl]
  rw [List.append_assoc, List.length_cons, show off + j + 1 + M.length = off + j + (M.length + 1) by omega]
  rfl
end
section
variable {prog : Program} {w : World} {A : Around} {E : Value → Shared → Prop} {s : Shared} {κ : SortKind} {a₀ : Array Keyed} {r : Keyed → Keyed → Bool}
theorem Zcv {st st' : SortSt} {Q : PUnit → SortSt → Prop} (h : Q ⟨⟩ st') : wpS (model prog w) A E s (set st' : StateT SortSt Sem PUnit) Q st := by
 unfold wpS
 exact wpAny_pure ⟨rfl, h⟩
theorem Zcw {α : Type} {m : StateT SortSt Sem α} {Q : α → SortSt → Prop} {st : SortSt} (P : SortSt → Prop) (hp : P st) (h : ∀ st0, P st0 → wpS (model prog w) A E s m Q st0) : wpS (model prog w) A E s m Q st := h st hp
theorem Uk {st : SortSt} {i : Nat} {Q : Bool → SortSt → Prop} (o : Ord r) (hc : Cmp prog w A E s κ a₀ r) (hk : kindOf st = κ) (hP : (arrOf st).Perm a₀) (hF : failedOf st = none) {pre post : List (Nat × Nat × Nat)} {sa na pw sb nb pw2 : Nat}
  (hp : (pendingOf st).toList = pre ++ (sa, na, pw) :: (sb, nb, pw2) :: post) (hi : pre.length = i) (sbE : sb = sa + na) (n1 : 1 ≤ na) (n2 : 1 ≤ nb) (hz : sb + nb ≤ a₀.size) (SA : Pw r (seg (arrOf st).toList sa na)) (SB : Pw r (seg (arrOf st).toList sb nb))
  (h : ∀ st', kindOf st' = κ → (arrOf st').Perm a₀ → failedOf st' = none → (pendingOf st').toList = pre ++ (sa, na + nb, pw) :: post → (arrOf st').toList.take sa = (arrOf st).toList.take sa → (arrOf st').toList.drop (sb + nb) = (arrOf st).toList.drop (sb + nb) → Pw r (seg (arrOf st').toList sa (na + nb)) → Q true st') :
  wpS (model prog w) A E s (mergeAt' i) Q st := by
 have hsz : (arrOf st).size = a₀.size := hP.size_eq
 have e1 : (pendingOf st)[i]? = some (sa, na, pw) := by
  rw [← Array.getElem?_toList, hp, ← hi]
  simp
 have e2 : (pendingOf st)[i + 1]? = some (sb, nb, pw2) := by
  rw [← Array.getElem?_toList, hp, ← hi, List.getElem?_append_right (by omega), show pre.length + 1 - pre.length = 1 by omega]
  rfl
 have hpend : (((pendingOf st).setIfInBounds i (sa, na + nb, pw)).eraseIdxIfInBounds (i + 1)).toList = pre ++ (sa, na + nb, pw) :: post := by
  rw [Array.toList_eraseIdxIfInBounds, Array.toList_setIfInBounds, hp, ← hi, List.set_append_right _ _ (Nat.le_refl _), Nat.sub_self, List.set_cons_zero, List.eraseIdx_append_of_length_le (by omega), show pre.length + 1 - pre.length = 1 by omega]
  rfl
 show wpS (model prog w) A E s (_ >>= _) _ _
 obtain ⟨kd, xs, pd, ga, fl⟩ := st
 refine wpS_bind (wpS_get ?_)
 replace e1 : pd[i]? = some (sa, na, pw) := e1
 replace e2 : pd[i + 1]? = some (sb, nb, pw2) := e2
 dsimp only
 rw [e1, e2]
 dsimp only
 refine wpS_bind (Zcv ?_)
 refine Zcw (fun st0 => kindOf st0 = κ ∧ arrOf st0 = xs ∧ (pendingOf st0).toList = pre ++ (sa, na + nb, pw) :: post ∧ failedOf st0 = none) ⟨hk, rfl, hpend, hF⟩ ?_
 rintro st0 ⟨g1, g2, g3, g4⟩
 clear hpend e1 e2
 replace hP : xs.Perm a₀ := hP
 replace hsz : xs.size = a₀.size := hsz
 replace SA : Pw r (seg xs.toList sa na) := SA
 replace SB : Pw r (seg xs.toList sb nb) := SB
 have mm : ∀ {j : Nat} {x : Keyed}, xs[j]? = some x → x ∈ a₀.toList := fun hx => (Array.perm_iff_toList_perm.mp hP).mem_iff.mp (Zq hx)
 have lA : (seg xs.toList sa na).length = na := Zas (by rw [Array.length_toList]; omega)
 have lB : (seg xs.toList sb nb).length = nb := Zas (by rw [Array.length_toList]; omega)
 have atA : ∀ {j : Nat} {x : Keyed}, j < na → xs[sa + j]? = some x → (seg xs.toList sa na)[j]? = some x := fun hj hx => by rw [YM hj, Array.getElem?_toList]; exact hx
 have atB : ∀ {j : Nat} {x : Keyed}, j < nb → xs[sb + j]? = some x → (seg xs.toList sb nb)[j]? = some x := fun hj hx => by rw [YM hj, Array.getElem?_toList]; exact hx
 have atA' : ∀ {j : Nat} {x : Keyed}, (seg xs.toList sa na)[j]? = some x → j < na ∧ xs[sa + j]? = some x := fun {j x} hx => by
  have hj : j < na := by have := (List.getElem?_eq_some_iff.mp hx).1; omega
  exact ⟨hj, by rw [YM hj, Array.getElem?_toList] at hx; exact hx⟩
 have atB' : ∀ {j : Nat} {x : Keyed}, (seg xs.toList sb nb)[j]? = some x → j < nb ∧ xs[sb + j]? = some x := fun {j x} hx => by
  have hj : j < nb := by have := (List.getElem?_eq_some_iff.mp hx).1; omega
  exact ⟨hj, by rw [YM hj, Array.getElem?_toList] at hx; exact hx⟩
 have fin : ∀ (k n : Nat) (M : List Keyed) (st' : SortSt), k ≤ na → n ≤ nb → kindOf st' = κ → failedOf st' = none → (pendingOf st').toList = pre ++ (sa, na + nb, pw) :: post → M.Perm ((seg xs.toList sa na).drop k ++ (seg xs.toList sb nb).take n) → Pw r M →
   (∀ x ∈ (seg xs.toList sa na).take k, ∀ y ∈ seg xs.toList sb nb, r y x = false) → (∀ z ∈ seg xs.toList sa na, ∀ w ∈ (seg xs.toList sb nb).drop n, r w z = false) →
   (arrOf st').toList = xs.toList.take (sa + k) ++ (M ++ xs.toList.drop (sa + k + M.length)) → Q true st' := fun k n M st' hkn hnn f1 f2 f3 f4 f5 f6 f7 f8 => by
  have lM : M.length = (na - k) + n := by
   rw [f4.length_eq, List.length_append, List.length_drop, List.length_take, lA, lB, Nat.min_eq_left hnn]
  have hL : xs.toList.length = a₀.size := by rw [Array.length_toList]; exact hsz
  have eA : xs.toList.take (sa + k) = xs.toList.take sa ++ (seg xs.toList sa na).take k := by
   rw [List.take_add]
   unfold seg
   rw [List.take_take, Nat.min_eq_left hkn]
  have eB : xs.toList.drop (sa + k + M.length) = (seg xs.toList sb nb).drop n ++ xs.toList.drop (sb + nb) := by
   rw [lM, show sa + k + (na - k + n) = sb + n by omega, ← List.drop_drop]
   have : xs.toList.drop sb = seg xs.toList sb nb ++ xs.toList.drop (sb + nb) := by
    unfold seg
    rw [← List.drop_drop, List.take_append_drop]
   rw [this, List.drop_append_of_le_length (by rw [lB]; exact hnn)]
  have eAll : xs.toList = xs.toList.take sa ++ ((seg xs.toList sa na ++ seg xs.toList sb nb) ++ xs.toList.drop (sb + nb)) := by
   have a1 : xs.toList.drop sa = seg xs.toList sa na ++ xs.toList.drop sb := by
    unfold seg
    rw [sbE, ← List.drop_drop, List.take_append_drop]
   have a2 : xs.toList.drop sb = seg xs.toList sb nb ++ xs.toList.drop (sb + nb) := by
    unfold seg
    rw [← List.drop_drop, List.take_append_drop]
   rw [List.append_assoc, ← a2, ← a1, List.take_append_drop]
  have eN : (arrOf st').toList = xs.toList.take sa ++ (((seg xs.toList sa na).take k ++ (M ++ (seg xs.toList sb nb).drop n)) ++ xs.toList.drop (sb + nb)) := by
   rw [f8, eA, eB]
   simp only [List.append_assoc]
  have lX : (xs.toList.take sa).length = sa := by rw [List.length_take]; omega
  have lY : ((seg xs.toList sa na).take k ++ (M ++ (seg xs.toList sb nb).drop n)).length = na + nb := by
   rw [List.length_append, List.length_append, List.length_take, List.length_drop, lA, lB, lM]; omega
  have pY : ((seg xs.toList sa na).take k ++ (M ++ (seg xs.toList sb nb).drop n)).Perm (seg xs.toList sa na ++ seg xs.toList sb nb) := by
   refine List.Perm.trans (List.Perm.append_left _ (List.Perm.append_right _ f4)) ?_
   rw [List.append_assoc, List.take_append_drop, ← List.append_assoc, List.take_append_drop]
  refine h st' f1 ?_ f2 f3 ?_ ?_ ?_
  ·refine Array.perm_iff_toList_perm.mpr (List.Perm.trans ?_ (Array.perm_iff_toList_perm.mp hP))
   rw [eN]
   refine List.Perm.trans (List.Perm.append_left _ (List.Perm.append_right _ pY)) ?_
   rw [← eAll]
  ·rw [eN, List.take_left' lX]
  ·rw [eN, ← List.append_assoc, List.drop_left' (by rw [List.length_append, lX, lY]; omega)]
  ·have : seg (arrOf st').toList sa (na + nb) = (seg xs.toList sa na).take k ++ (M ++ (seg xs.toList sb nb).drop n) := by
    rw [eN]
    show List.take (na + nb) (List.drop sa (xs.toList.take sa ++ (((seg xs.toList sa na).take k ++ (M ++ (seg xs.toList sb nb).drop n)) ++ xs.toList.drop (sb + nb)))) = _
    rw [List.drop_left' lX, List.take_left' lY]
   rw [this]
   exact Zbb o SA SB f4 f5 f6 f7
 obtain ⟨y0, hy0⟩ := Ze (xs := xs) (i := sb) (by omega)
 refine wpS_bind (Zl hy0 ?_)
 have hB0 : ∀ y ∈ seg xs.toList sb nb, r y y0 = false := fun y hy => by
  obtain ⟨j, hj⟩ := List.getElem?_of_mem hy
  exact Z7 o SB (atB (j := 0) (by omega) hy0) hj (Nat.zero_le _)
 refine wpS_bind (ZB hc g1 (fun i => match xs[sa + i]? with | some x => !r y0 x | none => false) (fun i hi => ?_) (mm hy0) (fun i j hij hj hp => ?_) (by omega) fun k kn klo khi => ?_)
 ·obtain ⟨x, hx⟩ := Ze (xs := xs) (i := sa + i) (by omega)
  refine ⟨x, hx, mm hx, ?_⟩
  try dsimp only
  rw [hx]
  rfl
 ·obtain ⟨xj, hxj⟩ := Ze (xs := xs) (i := sa + j) (by omega)
  obtain ⟨xi, hxi⟩ := Ze (xs := xs) (i := sa + i) (by omega)
  try dsimp only at hp ⊢
  rw [hxj] at hp
  rw [hxi]
  rw [Bool.not_eq_true'] at hp ⊢
  exact o.ntr _ _ _ (Z7 o SA (atA (by omega) hxi) (atA (by omega) hxj) hij) hp
 dsimp only
 have low : ∀ x ∈ (seg xs.toList sa na).take k, ∀ y ∈ seg xs.toList sb nb, r y x = false := fun x hx y hy => by
  obtain ⟨j, hj⟩ := List.getElem?_of_mem hx
  have hjk : j < k := by have := (List.getElem?_eq_some_iff.mp hj).1; rw [List.length_take] at this; omega
  rw [List.getElem?_take_of_lt hjk] at hj
  obtain ⟨hj1, hj2⟩ := atA' hj
  have := klo j hjk
  try dsimp only at this
  rw [hj2, Bool.not_eq_true'] at this
  exact o.ntr x y0 y this (hB0 y hy)
 by_cases hz0 : (na - k == 0) = true
 ·rw [if_pos hz0]
  have ek : k = na := by have := beq_iff_eq.mp hz0; omega
  subst ek
  refine wpS_pure (fin k 0 [] st0 (Nat.le_refl _) (Nat.zero_le _) g1 g4 g3 (by rw [List.drop_eq_nil_of_le (by omega)]; exact .refl _) .nil low (fun z hz w hw => ?_) ?_)
  ·exact low z (by rw [List.take_of_length_le (by omega)]; exact hz) w (List.mem_of_mem_drop hw)
  ·rw [g2, List.nil_append, List.length_nil, Nat.add_zero, List.take_append_drop]
 rw [if_neg hz0]
 have hz0' : ¬ (na - k = 0) := fun z => hz0 (beq_iff_eq.mpr z)
 obtain ⟨x0, hx0⟩ := Ze (xs := xs) (i := sa + k + (na - k) - 1) (by omega)
 refine wpS_bind (Zl hx0 ?_)
 have hx0' : xs[sa + (na - 1)]? = some x0 := by rw [← hx0]; congr 1; omega
 have hA0 : ∀ x ∈ seg xs.toList sa na, r x0 x = false := fun x hx => by
  obtain ⟨j, hj⟩ := List.getElem?_of_mem hx
  exact Z7 o SA hj (atA (j := na - 1) (by omega) hx0') (by have := (atA' hj).1; omega)
 refine wpS_bind (ZB hc g1 (fun i => match xs[sb + i]? with | some y => r y x0 | none => false) (fun i hi => ?_) (mm hx0) (fun i j hij hj hp => ?_) (by omega) fun n nn nlo nhi => ?_)
 ·obtain ⟨y, hy⟩ := Ze (xs := xs) (i := sb + i) (by omega)
  refine ⟨y, hy, mm hy, ?_⟩
  try dsimp only
  rw [hy]
  rfl
 ·obtain ⟨yj, hyj⟩ := Ze (xs := xs) (i := sb + j) (by omega)
  obtain ⟨yi, hyi⟩ := Ze (xs := xs) (i := sb + i) (by omega)
  try dsimp only at hp ⊢
  rw [hyj] at hp
  rw [hyi]
  exact Jg o hp (Z7 o SB (atB (by omega) hyi) (atB (by omega) hyj) hij)
 dsimp only
 have high : ∀ z ∈ seg xs.toList sa na, ∀ w ∈ (seg xs.toList sb nb).drop n, r w z = false := fun z hz w hw => by
  obtain ⟨j, hj⟩ := List.getElem?_of_mem hw
  rw [List.getElem?_drop] at hj
  obtain ⟨hj1, hj2⟩ := atB' hj
  have := nhi (n + j) (by omega) hj1
  try dsimp only at this
  rw [hj2] at this
  exact o.ntr z x0 w (hA0 z hz) this
 by_cases hz1 : (n == 0) = true
 ·rw [if_pos hz1]
  have en : n = 0 := beq_iff_eq.mp hz1
  subst en
  refine wpS_pure (fin na 0 [] st0 (Nat.le_refl _) (Nat.zero_le _) g1 g4 g3 (by rw [List.drop_eq_nil_of_le (by omega)]; exact .refl _) .nil (fun x hx y hy => ?_) high ?_)
  ·exact high x (List.mem_of_mem_take hx) y (by rw [List.drop_zero]; exact hy)
  ·rw [g2, List.nil_append, List.length_nil, Nat.add_zero, List.take_append_drop]
 rw [if_neg hz1]
 have hz1' : ¬ (n = 0) := fun z => hz1 (beq_iff_eq.mpr z)
 have xA : (xs.extract (sa + k) sb).toList = (seg xs.toList sa na).drop k := by
  rw [Jx]
  unfold seg
  rw [List.drop_take, List.drop_drop, show sb - (sa + k) = na - k by omega]
 have xB : (xs.extract sb (sb + n)).toList = (seg xs.toList sb nb).take n := by
  rw [Jx, show sb + n - sb = n by omega]
  unfold seg
  rw [List.take_take, Nat.min_eq_left nn]
 have sizeA : (xs.extract (sa + k) sb).size = na - k := by rw [← Array.length_toList, xA, List.length_drop, lA]
 have sizeB : (xs.extract sb (sb + n)).size = n := by rw [← Array.length_toList, xB, List.length_take, lB]; omega
 have C : MCx r (xs.extract (sa + k) sb) (xs.extract sb (sb + n)) := ⟨o, by rw [xA]; exact List.Pairwise.sublist (List.drop_sublist _ _) SA, by rw [xB]; exact List.Pairwise.sublist (List.take_sublist _ _) SB⟩
 have mA : ∀ x ∈ (xs.extract (sa + k) sb).toList, x ∈ a₀.toList := fun x hx => by
  rw [xA] at hx
  obtain ⟨j, hj⟩ := List.getElem?_of_mem (List.mem_of_mem_drop hx)
  exact mm (atA' hj).2
 have mB : ∀ x ∈ (xs.extract sb (sb + n)).toList, x ∈ a₀.toList := fun x hx => by
  rw [xB] at hx
  obtain ⟨j, hj⟩ := List.getElem?_of_mem (List.mem_of_mem_take hx)
  exact mm (atB' hj).2
 have m0 : ∀ y, (xs.extract sb (sb + n))[0]? = some y → ∀ x ∈ (xs.extract (sa + k) sb).toList, r x y = false := fun y hy x hx => by
  have hy1 := Zt hy
  rw [xB, List.getElem?_take_of_lt (by omega), YM (by omega), Nat.add_zero, Array.getElem?_toList, hy0] at hy1
  cases hy1
  rw [xA] at hx
  obtain ⟨j, hj⟩ := List.getElem?_of_mem hx
  rw [List.getElem?_drop] at hj
  obtain ⟨hj1, hj2⟩ := atA' hj
  have := khi (k + j) (by omega) hj1
  try dsimp only at this
  rw [hj2, Bool.not_eq_false'] at this
  exact o.asy _ _ this
 have ml : ∀ x, (xs.extract (sa + k) sb)[(xs.extract (sa + k) sb).size - 1]? = some x → ∀ y ∈ (xs.extract sb (sb + n)).toList, r x y = false := fun x hx y hy => by
  have hx1 := Zt hx
  rw [sizeA, xA, List.getElem?_drop, YM (by omega), Array.getElem?_toList, show sa + (k + (na - k - 1)) = sa + (na - 1) by omega, hx0'] at hx1
  cases hx1
  rw [xB] at hy
  obtain ⟨j, hj⟩ := List.getElem?_of_mem hy
  have hjn : j < n := by have := (List.getElem?_eq_some_iff.mp hj).1; rw [List.length_take] at this; omega
  rw [List.getElem?_take_of_lt hjn] at hj
  obtain ⟨hj1, hj2⟩ := atB' hj
  have := nlo j hjn
  try dsimp only at this
  rw [hj2] at this
  exact o.asy _ _ this
 have done : ∀ (res : Array Keyed) (st1 : SortSt), SG st0 st1 → Good r (xs.extract (sa + k) sb) (xs.extract sb (sb + n)) res → Q true (setArr st1 (List.foldl (fun a x => a.setIfInBounds (sa + k + x.snd) x.fst) (arrOf st1) res.toList.zipIdx)) := fun res st1 sg gd => by
  have p1 := gd.1
  rw [xA, xB] at p1
  have lR : res.toList.length = na - k + n := by rw [p1.length_eq, List.length_append, List.length_drop, List.length_take, lA, lB]; omega
  refine fin k n res.toList _ kn nn (by show kindOf st1 = κ; rw [sg.1]; exact g1) (by show failedOf st1 = none; rw [sg.2.2.2]; exact g4) (by show (pendingOf st1).toList = _; rw [sg.2.2.1]; exact g3) p1 gd.2 low high ?_
  show (List.foldl (fun a x => a.setIfInBounds (sa + k + x.snd) x.fst) (arrOf st1) res.toList.zipIdx).toList = _
  rw [sg.2.1, g2]
  exact Zat (sa + k) res.toList 0 xs (by rw [lR]; omega)
 by_cases hle : na - k ≤ n
 ·rw [if_pos hle]
  refine wpS_bind (Ui hc g1 C mA mB (by omega) (by omega) m0 ml fun res st1 sg gd => ?_)
  refine wpS_bind (wpS_modify (wpS_bind (wpS_get ?_)))
  have ef : (failedOf (setArr st1 (List.foldl (fun a x => a.setIfInBounds (sa + k + x.snd) x.fst) (arrOf st1) res.toList.zipIdx))).isNone = true := by
   show (failedOf st1).isNone = true
   rw [sg.2.2.2, g4]
   rfl
  rw [ef]
  exact wpS_pure (done res st1 sg gd)
 ·rw [if_neg hle]
  refine wpS_bind (Uj hc g1 C mA mB (by omega) (by omega) m0 ml fun res st1 sg gd => ?_)
  refine wpS_bind (wpS_modify (wpS_bind (wpS_get ?_)))
  have ef : (failedOf (setArr st1 (List.foldl (fun a x => a.setIfInBounds (sa + k + x.snd) x.fst) (arrOf st1) res.toList.zipIdx))).isNone = true := by
   show (failedOf st1).isNone = true
   rw [sg.2.2.2, g4]
   rfl
  rw [ef]
  exact wpS_pure (done res st1 sg gd)
end
end PyProof.Rows.Tim
set_option Elab.async false
set_option linter.all false
set_option maxRecDepth 100000
set_option maxHeartbeats 4000000
namespace PyProof.Rows.Tim
open PySem
section
variable {prog : Program} {w : World} {A : Around} {E : Value → Shared → Prop} {s : Shared} {κ : SortKind} {a₀ : Array Keyed} {r : Keyed → Keyed → Bool}
structure RS (a₀ : Array Keyed) (κ : SortKind) (r : Keyed → Keyed → Bool) (st : SortSt) (lo : Nat) : Prop where
 kind : kindOf st = κ
 perm : (arrOf st).Perm a₀
 fail : failedOf st = none
 runs : Runs r (arrOf st).toList (pendingOf st).toList 0 lo
 le : lo ≤ a₀.size
theorem cut2 {α : Type} {l : List α} {i : Nat} (h : i + 1 < l.length) : ∃ pre a b post, l = pre ++ a :: b :: post ∧ pre.length = i := by
 refine ⟨l.take i, l[i], l[i + 1], l.drop (i + 2), ?_, by rw [List.length_take]; omega⟩
 rw [← List.drop_eq_getElem_cons h, ← List.drop_eq_getElem_cons (by omega), List.take_append_drop]
theorem RS.merge {st : SortSt} {lo i : Nat} {Q : Bool → SortSt → Prop} (o : Ord r) (hc : Cmp prog w A E s κ a₀ r) (R : RS a₀ κ r st lo) (hi : i + 1 < (pendingOf st).size)
  (h : ∀ st', RS a₀ κ r st' lo → (pendingOf st').size + 1 = (pendingOf st).size → (arrOf st').toList.drop lo = (arrOf st).toList.drop lo → Q true st') : wpS (model prog w) A E s (mergeAt' i) Q st := by
 obtain ⟨pre, ⟨sa, na, pw⟩, ⟨sb, nb, pw2⟩, post, hp, hl⟩ := cut2 (l := (pendingOf st).toList) (i := i) (by rw [Array.length_toList]; exact hi)
 have hr := R.runs
 rw [hp] at hr
 obtain ⟨m, h1, h2⟩ := Runs.app.mp hr
 obtain ⟨a1, a2, a3, h3⟩ := h2
 obtain ⟨b1, b2, b3, h4⟩ := h3
 dsimp only at a1 a2 a3 b1 b2 b3 h4
 subst a1
 have l4 := h4.le
 have l1 := h1.le
 have le := R.le
 refine Uk o hc R.kind R.perm R.fail hp hl b1 a2 b2 (by omega) a3 b3 fun st' g1 g2 g3 g4 g5 g6 g7 => ?_
 refine h st' ⟨g1, g2, g3, ?_, le⟩ ?_ ?_
 ·rw [g4]
  refine Runs.app.mpr ⟨sa, h1.congr fun s n q1 q2 => Zar g5.symm q2, rfl, (show 1 ≤ na + nb by omega), g7, ?_⟩
  show Runs r (arrOf st').toList post (sa + (na + nb)) lo
  rw [← Nat.add_assoc]
  exact h4.congr fun s n q1 q2 => JV (m := sb + nb) g6.symm (by omega)
 ·rw [← Array.length_toList, ← Array.length_toList, g4, hp]
  simp only [List.length_append, List.length_cons]
  omega
 ·have key : ∀ M : List Keyed, M.drop lo = (M.drop (sb + nb)).drop (lo - (sb + nb)) := fun M => by
   rw [List.drop_drop]
   congr 1
   omega
  rw [key, key (arrOf st).toList, g6]
theorem RS.push {st : SortSt} {lo n : Nat} (R : RS a₀ κ r st lo) (n1 : 1 ≤ n) (hz : lo + n ≤ a₀.size) (S : Pw r (seg (arrOf st).toList lo n)) : RS a₀ κ r (setPending st ((pendingOf st).push (lo, n, 0))) (lo + n) := by
 refine ⟨R.kind, R.perm, R.fail, ?_, hz⟩
 show Runs r (arrOf st).toList ((pendingOf st).push (lo, n, 0)).toList 0 (lo + n)
 rw [Array.toList_push]
 exact Runs.app.mpr ⟨lo, R.runs, rfl, n1, S, rfl⟩
theorem Uq {L : List Keyed} {pw : Nat} : ∀ {ps : List (Nat × Nat × Nat)} {i p q : Nat}, Runs r L ps p q → Runs r L (ps.modify i fun x => (x.fst, x.2.fst, pw)) p q
 | [], i, p, q, h => by rw [List.modify_nil]; exact h
 | x :: ps, 0, p, q, h => by
  rw [List.modify_zero_cons]
  exact h
 | x :: ps, i + 1, p, q, ⟨h1, h2, h3, h4⟩ => by
  rw [List.modify_succ_cons]
  exact ⟨h1, h2, h3, Uq h4⟩
theorem RS.pow {st : SortSt} {lo i pw : Nat} (R : RS a₀ κ r st lo) : RS a₀ κ r (setPending st ((pendingOf st).modify i fun x => (x.fst, x.2.fst, pw))) lo := by
 refine ⟨R.kind, R.perm, R.fail, ?_, R.le⟩
 show Runs r (arrOf st).toList ((pendingOf st).modify i fun x => (x.fst, x.2.fst, pw)).toList 0 lo
 rw [Array.toList_modify]
 exact Uq R.runs
theorem Zbp {xs ys : Array Keyed} {lo : Nat} (h : ∀ k, k < lo → xs[k]? = ys[k]?) : xs.toList.take lo = ys.toList.take lo := by
 refine List.ext_getElem? fun k => ?_
 by_cases hk : k < lo
 ·rw [List.getElem?_take_of_lt hk, List.getElem?_take_of_lt hk, Array.getElem?_toList, Array.getElem?_toList]
  exact h k hk
 ·rw [List.getElem?_eq_none (by rw [List.length_take]; omega), List.getElem?_eq_none (by rw [List.length_take]; omega)]
theorem CB.rs {st st' : SortSt} {lo : Nat} (R : RS a₀ κ r st lo) (B : CB a₀ κ lo st st') : RS a₀ κ r st' lo := by
 refine ⟨B.kind, B.perm, B.fail.trans R.fail, ?_, R.le⟩
 rw [B.pend]
 exact R.runs.congr fun s n q1 q2 => Zar (Zbp fun k hk => (B.pre k hk).symm) q2
theorem Ws {st : SortSt} {Q : Unit → SortSt → Prop} (o : Ord r) (hc : Cmp prog w A E s κ a₀ r) (h2 : 2 ≤ a₀.size) (k0 : kindOf st = κ) (p0 : (arrOf st).Perm a₀) (f0 : failedOf st = none) (e0 : pendingOf st = #[])
  (h : ∀ st', (arrOf st').Perm a₀ → failedOf st' = none → Pw r (arrOf st').toList → Q () st') : wpS (model prog w) A E s sortRuns' Q st := by
 rw [sortRuns'_eq]
 dsimp only
 refine wpS_bind (wpS_get ?_)
 have z0 : (arrOf st).size = a₀.size := p0.size_eq
 rw [z0]
 generalize minRun' a₀.size a₀.size 0 = mr
 refine wpS_bind (wpS_mono (wpS_forRange (I := fun x c st1 => ∃ lo, c = (none, lo) ∧ RS a₀ κ r st1 lo ∧ x ≤ lo) (Q := fun c st1 => c = (none, a₀.size) ∧ RS a₀ κ r st1 a₀.size) ?step ?fin ⟨0, rfl, ⟨k0, p0, f0, by rw [e0]; exact rfl, Nat.zero_le _⟩, Nat.le_refl _⟩) ?post)
 case fin =>
  rintro c st1 ⟨lo, rfl, R, hx⟩
  rw [Nat.max_eq_right (Nat.zero_le _)] at hx
  have := R.le
  obtain rfl : lo = a₀.size := by omega
  exact ⟨rfl, R⟩
 case step =>
  rintro x c st1 _ hx ⟨lo, rfl, R1, hxl⟩
  dsimp only
  by_cases hge : lo ≥ a₀.size
  ·rw [if_pos hge]
   have := R1.le
   obtain rfl : lo = a₀.size := by omega
   exact wpS_pure ⟨rfl, R1⟩
  rw [if_neg hge]
  refine wpS_bind (Wt o hc (st := st1) ⟨R1.kind, rfl, rfl, R1.perm, fun _ _ => rfl⟩ (by omega) (by omega) fun found st2 B2 f1 f2 S => ?_)
  dsimp only
  by_cases hlt : found < mr
  ·rw [if_pos hlt]
   refine wpS_bind (wpS_lift (wpAny_rule ⟨rfl, ?_⟩))
   have hfn : found ≤ min (a₀.size - lo) mr := by omega
   have hfz : min (a₀.size - lo) mr ≤ a₀.size - lo := by omega
   generalize min (a₀.size - lo) mr = n at hfn hfz
   refine wpS_bind (JE o hc B2 f1 hfn (by omega) S fun st3 B3 S3 => ?_)
   rw [if_neg (by decide)]
   have R2 := CB.rs R1 B3
   have S2 := S3.pw
   have n1 : 1 ≤ n := by omega
   clear S3 B3 B2 S
   clear st2
   revert R2 S2
   generalize st3 = st2
   intro R2 S2
   refine wpS_bind (wpS_get ?_)
   cases hb : (pendingOf st2).back? with
   | none =>
    try dsimp only
    exact wpS_bind (wpS_modify (wpS_pure ⟨_, rfl, R2.push n1 (by omega) S2, by omega⟩))
   | some z =>
    obtain ⟨s1, m1, p1⟩ := z
    try dsimp only
    refine wpS_bind (wpS_mono (wpS_forRange (I := fun _ c st' => c = (none, ()) ∧ RS a₀ κ r st' lo ∧ (arrOf st').toList.drop lo = (arrOf st2).toList.drop lo) (Q := fun c st' => c = (none, ()) ∧ RS a₀ κ r st' lo ∧ (arrOf st').toList.drop lo = (arrOf st2).toList.drop lo) ?_ (fun c st' hh => hh) ⟨rfl, R2, rfl⟩) ?_)
    ·rintro y c st' _ _ ⟨rfl, R, hd⟩
     refine wpS_bind (wpS_get ?_)
     by_cases hs : (pendingOf st').size > 1
     ·rw [if_pos hs]
      cases hq : (pendingOf st')[(pendingOf st').size - 2]? with
      | none => exact wpS_pure ⟨rfl, R, hd⟩
      | some z =>
       obtain ⟨z1, z2, older⟩ := z
       dsimp only
       split
       ·exact wpS_pure ⟨rfl, R, hd⟩
       ·refine wpS_bind (R.merge o hc (by omega) fun st'' R'' _ hd'' => ?_)
        rw [if_neg (by decide)]
        exact wpS_pure ⟨rfl, R'', hd''.trans hd⟩
     ·rw [if_neg hs]
      exact wpS_pure ⟨rfl, R, hd⟩
    rintro c st' ⟨rfl, R, hd⟩
    dsimp only
    refine wpS_bind (wpS_modify (wpS_bind (wpS_modify (wpS_pure ⟨_, rfl, R.pow.push n1 (by omega) ?_, by omega⟩))))
    show Pw r (seg (arrOf st').toList lo _)
    rw [JV (L' := (arrOf st2).toList) hd (Nat.le_refl _)]
    exact S2
  ·rw [if_neg hlt]
   have R2 := CB.rs R1 B2
   have S2 := S.pw
   have n1 := f1
   clear S B2
   clear R1
   refine wpS_bind (wpS_get ?_)
   cases hb : (pendingOf st2).back? with
   | none =>
    try dsimp only
    exact wpS_bind (wpS_modify (wpS_pure ⟨_, rfl, R2.push n1 (by omega) S2, by omega⟩))
   | some z =>
    obtain ⟨s1, m1, p1⟩ := z
    try dsimp only
    refine wpS_bind (wpS_mono (wpS_forRange (I := fun _ c st' => c = (none, ()) ∧ RS a₀ κ r st' lo ∧ (arrOf st').toList.drop lo = (arrOf st2).toList.drop lo) (Q := fun c st' => c = (none, ()) ∧ RS a₀ κ r st' lo ∧ (arrOf st').toList.drop lo = (arrOf st2).toList.drop lo) ?_ (fun c st' hh => hh) ⟨rfl, R2, rfl⟩) ?_)
    ·rintro y c st' _ _ ⟨rfl, R, hd⟩
     refine wpS_bind (wpS_get ?_)
     by_cases hs : (pendingOf st').size > 1
     ·rw [if_pos hs]
      cases hq : (pendingOf st')[(pendingOf st').size - 2]? with
      | none => exact wpS_pure ⟨rfl, R, hd⟩
      | some z =>
       obtain ⟨z1, z2, older⟩ := z
       dsimp only
       split
       ·exact wpS_pure ⟨rfl, R, hd⟩
       ·refine wpS_bind (R.merge o hc (by omega) fun st'' R'' _ hd'' => ?_)
        rw [if_neg (by decide)]
        exact wpS_pure ⟨rfl, R'', hd''.trans hd⟩
     ·rw [if_neg hs]
      exact wpS_pure ⟨rfl, R, hd⟩
    rintro c st' ⟨rfl, R, hd⟩
    dsimp only
    refine wpS_bind (wpS_modify (wpS_bind (wpS_modify (wpS_pure ⟨_, rfl, R.pow.push n1 (by omega) ?_, by omega⟩))))
    show Pw r (seg (arrOf st').toList lo _)
    rw [JV (L' := (arrOf st2).toList) hd (Nat.le_refl _)]
    exact S2
 case post =>
  rintro c st1 ⟨rfl, R1⟩
  dsimp only
  refine wpS_bind (wpS_mono (wpS_forRange (I := fun x c st' => c = (none, ()) ∧ RS a₀ κ r st' a₀.size ∧ (pendingOf st').size + x ≤ a₀.size) (Q := fun c st' => c = (none, ()) ∧ RS a₀ κ r st' a₀.size ∧ (pendingOf st').size ≤ 1) ?_ ?_ ⟨rfl, R1, by have := R1.runs.le; rw [Array.length_toList] at this; omega⟩) ?_)
  ·rintro x c st' _ _ ⟨rfl, R, hx⟩
   refine wpS_bind (wpS_get ?_)
   by_cases hs : (pendingOf st').size ≤ 1
   ·rw [if_pos hs]
    exact wpS_pure ⟨rfl, R, hs⟩
   rw [if_neg hs]
   have idx : ∀ c : Prop, ∀ _ : Decidable c, (if c then (pendingOf st').size - 2 - 1 else (pendingOf st').size - 2) + 1 < (pendingOf st').size := fun c _ => by split <;> omega
   refine wpS_bind (R.merge o hc (idx _ _) fun st'' R'' z'' _ => ?_)
   rw [if_neg (by decide)]
   exact wpS_pure ⟨rfl, R'', by omega⟩
  ·rintro c st' ⟨rfl, R, hx⟩
   rw [Nat.max_eq_right (Nat.zero_le _)] at hx
   exact ⟨rfl, R, by omega⟩
  rintro c st' ⟨rfl, R, hs⟩
  refine wpS_pure (h st' R.perm R.fail ?_)
  have hr := R.runs
  have hl : (pendingOf st').toList.length ≤ 1 := by rw [Array.length_toList]; exact hs
  match hp : (pendingOf st').toList, hl with
  | [], _ =>
   rw [hp] at hr
   have : 0 = a₀.size := hr
   omega
  | [x], _ =>
   rw [hp] at hr
   obtain ⟨q1, q2, q3, q4⟩ := hr
   have q4' : 0 + x.2.1 = a₀.size := q4
   rw [q1] at q3
   have : seg (arrOf st').toList 0 x.2.1 = (arrOf st').toList := by
    unfold seg
    rw [List.drop_zero, List.take_of_length_le (by rw [Array.length_toList, R.perm.size_eq]; omega)]
   rw [this] at q3
   exact q3
  | _ :: _ :: _, h => simp at h
end
end PyProof.Rows.Tim
set_option Elab.async false
set_option linter.all false
set_option maxRecDepth 100000
set_option maxHeartbeats 4000000
namespace PyProof.Rows.Tim
open PySem PySem.W
section
variable {prog : Program} {w : World} {A : Around} {E : Value → Shared → Prop} {s : Shared} {κ : SortKind} {r : Keyed → Keyed → Bool}
def Asks (prog : Program) (w : World) (A : Around) (E : Value → Shared → Prop) (κ : SortKind) (r : Keyed → Keyed → Bool) (a : Addr) (h : Heap) (vs : List Value) : Prop :=
 ∀ s6 : Shared, (∀ b o, b ≠ a → h.get? b = some o → s6.heap.get? b = some o) → (2 ≤ vs.length → ∀ Q : SortKind → Shared → Prop, Q κ s6 → wpAny (model prog w) A (keyKind' vs.toArray) Q E s6) ∧ Cmp prog w A E s6 κ (pairsOf vs) r
theorem UC (o : Ord r) {a : Addr} {vs : List Value} {n : Nat} {P : PySem.Fin → Shared → Prop} (ho : s.heap.get? a = some (seqObj "list" vs.toArray n)) (hc : Asks prog w A E κ r a s.heap vs) (hz : vs.length ≤ 1000)
  (h : ∀ xs : Array Keyed, xs.Perm (pairsOf vs) → Pw r xs.toList → P (.done (.ret .none)) { s with heap := sortedHeap s.heap a vs (xs.map (·.2)) }) :
  wpAny (model prog w) A (Builtin.«list.sort» ⟨[.ref a], []⟩) P E s := by
 rw [list_sort_plain]
 have ha : a < s.heap.objs.size := Heap.lt_size ho
 have hszl : vs.toArray.size ≤ sizeLine := by rw [List.size_toArray, sizeLine_eq]; omega
 refine wpAny_bind (listItems_at ho rfl ?_)
 refine wpAny_bind (listUpdate_at ho rfl ?_ hszl)
 obtain ⟨e1, ho1⟩ : ∃ e1, (s.heap.update a (Obj.mapSeq fun _ => #[])).get? a = some (seqObj "list" #[] e1) := ⟨_, get?_update_seq ho (fun _ => #[])⟩
 refine wpAny_bind (seqEpoch_at ho1 rfl ?_)
 refine wpAny_bind (wpAny_newTuple ?_ (by simpa using hszl))
 refine wpAny_bind (wpAny_newList ?_)
 refine wpAny_holding ?_
 have ho6 : (((s.heap.update a (Obj.mapSeq fun _ => #[])).push (seqObj "tuple" vs.toArray 0)).push (seqObj "list" #[] 0)).get? a = some (seqObj "list" #[] e1) := by
  rw [Heap.get?_push_ne _ _ _ (by rw [size_push', Heap.size_update]; exact Nat.ne_of_lt (Nat.lt_succ_of_lt ha)), Heap.get?_push_ne _ _ _ (by rw [Heap.size_update]; exact Nat.ne_of_lt ha)]
  exact ho1
 show wpAny (model prog w) A _ P E { s with heap := ((s.heap.update a (Obj.mapSeq fun _ => #[])).push (seqObj "tuple" vs.toArray 0)).push (seqObj "list" #[] 0) }
 dsimp only
 have keep : ∀ b o, b ≠ a → s.heap.get? b = some o → ((((s.heap.update a (Obj.mapSeq fun _ => #[])).push (seqObj "tuple" vs.toArray 0)).push (seqObj "list" #[] 0))).get? b = some o := fun b ob hb e =>
  Heap.get?_push_of_some _ (Heap.get?_push_of_some _ (by rw [Heap.get?_update_ne _ _ _ _ hb]; exact e))
 obtain ⟨hk, hcm⟩ := hc { s with heap := ((s.heap.update a (Obj.mapSeq fun _ => #[])).push (seqObj "tuple" vs.toArray 0)).push (seqObj "list" #[] 0) } keep
 have hsz : vs.toArray.size = vs.length := by simp
 by_cases h2 : vs.toArray.size < 2
 ·rw [if_pos h2, if_pos h2]
  refine wpAny_bind (wpAny_pure ?_)
  rw [StateT.run_pure]
  refine wpAny_bind (wpAny_pure ?_)
  dsimp only
  refine wpAny_bind (seqEpoch_at ho6 rfl ?_)
  refine wpAny_bind (listUpdate_at ho6 rfl ?_ (hsz2 := by rw [Array.size_map]; show (pairsOf vs).size ≤ _; rw [pairsOf_size, sizeLine_eq]; omega))
  simp only [bne_self_eq_false, Bool.false_eq_true, if_false]
  refine wpAny_pure (h (pairsOf vs) (Array.Perm.refl _) ?_)
  have hl : (pairsOf vs).toList.length < 2 := by rw [Array.length_toList, pairsOf_size]; omega
  match (pairsOf vs).toList, hl with
  | [], _ => exact .nil
  | [x], _ => exact List.pairwise_singleton _ _
  | _ :: _ :: _, h => exact absurd h (by simp)
 ·rw [if_neg h2, if_neg h2]
  refine wpAny_bind (hk (by omega) _ ?_)
  refine wpAny_bind (wpAny_mono (Ws (κ := κ) (r := r) (a₀ := pairsOf vs) (st := SortSt.mk' κ (vs.toArray.zip vs.toArray) #[] 7 none)
   (Q := fun _ st' => (arrOf st').Perm (pairsOf vs) ∧ failedOf st' = none ∧ Pw r (arrOf st').toList) o hcm (by rw [pairsOf_size]; omega) rfl (Array.Perm.refl _) rfl rfl fun st' a1 a2 a3 => ⟨a1, a2, a3⟩) ?_ fun _ _ e => e)
  rintro ⟨⟨⟩, st'⟩ s' ⟨rfl, hp, hf, hs⟩
  dsimp only
  refine wpAny_bind (seqEpoch_at ho6 rfl ?_)
  refine wpAny_bind (listUpdate_at ho6 rfl ?_ (hsz2 := by refine Nat.le_trans (Nat.le_of_eq ((Array.size_map ..).trans (hp.size_eq.trans (pairsOf_size _)))) ?_; rw [sizeLine_eq]; omega))
  rw [hf]
  simp only [bne_self_eq_false, Bool.false_eq_true, if_false]
  exact wpAny_pure (h _ hp hs)
theorem Zbq (o : Ord r) {l : Addr} {vs : List Value} {Q : Value → Shared → Prop} (hl : s.heap.IsList l vs.toArray) (hc : ∀ h' a, (∀ b ob, s.heap.get? b = some ob → h'.get? b = some ob) → (∀ b ob, s.heap.get? b = some ob → b ≠ a) → Asks prog w A.in1.in1 (fun _ _ => False) κ r a h' vs) (hz : vs.length ≤ 1000)
  (h : ∀ xs : Array Keyed, xs.Perm (pairsOf vs) → Pw r xs.toList → Q (.ref (s.heap.objs.size + 1)) { s with heap := sortedAll s.heap vs (xs.map (·.2)) }) :
  wpAny (model prog w) A (call (.builtin "sorted") [.ref l]) Q E s := by
 have hszl : vs.length ≤ sizeLine := by rw [sizeLine_eq]; omega
 refine Calls.call_function_entry kind_sorted plain_sorted entry_sorted (args_sorted1 _) ?_
 unfold Builtin.«sorted»
 refine wpAny_bind (m := checkCount "sorted" 1 1 _) (wpAny_pure ?_)
 refine wpAny_bind (collect_list hl ?_ hszl)
 refine wpAny_bind (wpAny_newList ?_ hszl)
 have hsz : ((s.heap.push (seqObj "list" #[] 0)).update s.heap.objs.size (Obj.mapSeq (· ++ vs.toArray))).objs.size = s.heap.objs.size + 1 := by
  rw [Heap.size_update, size_push']
 have hoL : (((s.heap.push (seqObj "list" #[] 0)).update s.heap.objs.size (Obj.mapSeq (· ++ vs.toArray))).push (seqObj "list" vs.toArray 0)).get? (s.heap.objs.size + 1) = some (seqObj "list" vs.toArray 0) := by
  rw [← hsz]; exact Heap.get?_push_size _ rfl
 show wpAny _ _ _ _ _ { s with heap := ((s.heap.push (seqObj "list" #[] 0)).update s.heap.objs.size (Obj.mapSeq (· ++ vs.toArray))).push (seqObj "list" vs.toArray 0) }
 rw [hsz]
 have asks := hc (((s.heap.push (seqObj "list" #[] 0)).update s.heap.objs.size (Obj.mapSeq (· ++ vs.toArray))).push (seqObj "list" vs.toArray 0)) (s.heap.objs.size + 1)
  (fun b ob e => Heap.get?_push_of_some _ (by rw [Heap.get?_update_ne _ _ _ _ (Nat.ne_of_lt (Heap.lt_size e))]; exact Heap.get?_push_of_some _ e)) (fun b ob e => Nat.ne_of_lt (Nat.lt_succ_of_lt (Heap.lt_size e)))
 have asksE : Asks prog w A.in1.in1 E κ r (s.heap.objs.size + 1) (((s.heap.push (seqObj "list" #[] 0)).update s.heap.objs.size (Obj.mapSeq (· ++ vs.toArray))).push (seqObj "list" vs.toArray 0)) vs := fun s6 h6 => by
  obtain ⟨q1, q2⟩ := asks s6 h6
  refine ⟨fun g Q hq => wpAny_mono (q1 g Q hq) (fun _ _ x => x) fun _ _ x => x.elim, fun x y st Q m1 m2 hk hq => ?_⟩
  exact wpAny_mono (q2 x y st Q m1 m2 hk hq) (fun _ _ x => x) fun _ _ x => x.elim
 refine wpAny_bind (wpAny_holding (wpAny_call_entry slot_list_sort ⟨_, hoL, rfl⟩ entry_list_sort (UC o hoL asksE hz fun xs a1 a2 => ⟨_, rfl, ?_⟩) (args_list_sort _)))
 exact wpAny_pure ⟨_, rfl, h xs a1 a2⟩
end
def lexB : List Int → List Int → Bool
 | [], [] => false
 | [], _ :: _ => true
 | _ :: _, [] => false
 | a :: l, b :: m => if a = b then lexB l m else decide (a < b)
theorem Z8 : ∀ x y, lexB x y = true → lexB y x = false
 | [], [], h => by cases h
 | [], _ :: _, _ => rfl
 | _ :: _, [], h => by cases h
 | a :: l, b :: m, h => by
  unfold lexB at h ⊢
  by_cases e : a = b
  ·rw [if_pos e] at h
   rw [if_pos e.symm]
   exact Z8 l m h
  ·rw [if_neg e] at h
   rw [if_neg (Ne.symm e)]
   have := of_decide_eq_true h
   exact decide_eq_false (by omega)
theorem YB : ∀ x y z, lexB y x = false → lexB z y = false → lexB z x = false
 | [], [], [], _, _ => rfl
 | [], [], _ :: _, _, _ => rfl
 | [], _ :: _, [], _, h => by cases h
 | [], _ :: _, _ :: _, _, _ => rfl
 | _ :: _, [], _, h, _ => by cases h
 | _ :: _, _ :: _, [], _, h => by cases h
 | a :: l, b :: m, c :: n, h1, h2 => by
  unfold lexB at h1 h2 ⊢
  by_cases e1 : b = a
  ·rw [if_pos e1] at h1
   by_cases e2 : c = b
   ·rw [if_pos e2] at h2
    rw [if_pos (e2.trans e1)]
    exact YB l m n h1 h2
   ·rw [if_neg e2] at h2
    have := of_decide_eq_false h2
    rw [if_neg (by omega)]
    exact decide_eq_false (by omega)
  ·rw [if_neg e1] at h1
   have q1 := of_decide_eq_false h1
   by_cases e2 : c = b
   ·rw [if_neg (by omega)]
    exact decide_eq_false (by omega)
   ·rw [if_neg e2] at h2
    have q2 := of_decide_eq_false h2
    rw [if_neg (by omega)]
    exact decide_eq_false (by omega)
theorem Jh : ∀ x y, lexB x y = false → lexB y x = false → x = y
 | [], [], _, _ => rfl
 | [], _ :: _, h, _ => by cases h
 | _ :: _, [], _, h => by cases h
 | a :: l, b :: m, h1, h2 => by
  unfold lexB at h1 h2
  by_cases e : a = b
  ·rw [if_pos e] at h1
   rw [if_pos e.symm] at h2
   rw [e, Jh l m h1 h2]
  ·rw [if_neg e] at h1
   rw [if_neg (Ne.symm e)] at h2
   have q1 := of_decide_eq_false h1
   have q2 := of_decide_eq_false h2
   omega
theorem ZcI (key : Value → List Int) : Ord fun x y : Keyed => lexB (key x.1) (key y.1) := ⟨fun _ _ => Z8 _ _, fun _ _ _ => YB _ _ _⟩
section
variable {prog : Program} {w : World} {A : Around} {s : Shared} {b : Bool} {Q : Bool → Shared → Prop}
theorem ZcL {c : Bool} {x y : Int} {t u : Tok} (h : Q (decide (x < y)) s) : wpAny (model prog w) A (oneLt' c (.int x t) (.int y u)) Q (fun _ _ => False) s := by
 cases c with
 | true => exact oneLt_int h
 | false => exact kat_one _ _ (lt_int (Q := PySem.W.BoolBack Q) h)
theorem UF {fin : Bool} : ∀ {us vs : List Value} {xs ys : List Int} {i : Nat}, IntsAre us xs → IntsAre vs ys → fin = decide (xs.length < ys.length) → Q (lexB xs ys) s → KatLex prog w A b fin Q (us.zip vs) i s
 | _, _, _, _, i, .nil, .nil, hf, h => by
  subst hf
  exact h
 | _, _, _, _, i, .nil, .cons _ _ _, hf, h => by
  subst hf
  exact h
 | _, _, _, _, i, .cons _ _ _, .nil, hf, h => by
  subst hf
  exact h
 | _, _, _, _, i, .cons x t ix, .cons y u iy, hf, h => by
  rw [List.zip_cons_cons]
  refine kat_cons (SeqAt.EqAt.int_int (A := A) (s := s) x t y u _ _ _ _ ?_)
  unfold lexB at h
  by_cases e : x = y
  ·rw [if_pos e] at h
   rw [beq_iff_eq.mpr e]
   exact kat_yes (UF ix iy (by rw [hf]; exact decide_eq_decide.mpr (by simp only [List.length_cons]; omega)) h)
  ·rw [if_neg e] at h
   rw [beq_eq_false_iff_ne.mpr e]
   exact kat_no (ZcL h)
end
end PyProof.Rows.Tim
set_option Elab.async false
set_option linter.all false
set_option maxRecDepth 100000
set_option maxHeartbeats 40000000
namespace L2
open PySem PySem.Spec PyProof.Rows PyProof.Rows.Tim
def TpAt (H : Hp) (v : V) (k : List Int) : Prop := ∃ t : Addr, v = .ref t ∧ H t = some (.tup (k.map V.int))
def keyAt (h : Heap) : Value → List Int
 | .ref t => match h.get? t with
  | some o => match o.data with
   | .seq its _ => its.toList.map numOf
   | _ => []
  | none => []
 | _ => []
theorem YO {h : Heap} {t : Addr} {o : Obj} {its : Array Value} {n : Nat} {k : List Int} (e : h.get? t = some o) (d : o.data = .seq its n) (i : IntsAre its.toList k) : keyAt h (.ref t) = k := by
 unfold keyAt
 dsimp only
 rw [e]
 dsimp only
 rw [d]
 dsimp only
 clear d e
 generalize its.toList = us at i
 induction i with
 | nil => rfl
 | cons x t _ ih => rw [List.map_cons, ih]; rfl
def toV : Value → V
 | .ref t => .ref t
 | _ => .non
def TupI (h : Heap) (u : Value) (k : List Int) : Prop := ∃ (t : Addr) (o : Obj) (its : Array Value) (n : Nat), u = .ref t ∧ h.get? t = some o ∧ o.cls = .type "tuple" ∧ o.data = .seq its n ∧ IntsAre its.toList k
theorem YH {α β : Type} {R : α → β → Prop} : ∀ {xs : List α} {ys : List β} {x : α}, Paired R xs ys → x ∈ xs → ∃ y ∈ ys, R x y
 | _, _, _, .cons h r, m => by
  rcases List.mem_cons.mp m with rfl | m
  ·exact ⟨_, List.mem_cons_self, h⟩
  ·obtain ⟨y, hy, q⟩ := YH r m
   exact ⟨y, List.mem_cons_of_mem _ hy, q⟩
theorem Y2 {α β : Type} {R : α → β → Prop} {f : α → β} : ∀ {xs : List α} {ys : List β}, Paired R xs ys → (∀ x y, R x y → f x = y) → xs.map f = ys
 | _, _, .nil, _ => rfl
 | _, _, .cons h r, e => by rw [List.map_cons, e _ _ h, Y2 r e]
theorem Js {vs : List Value} {p : Keyed} (h : p ∈ (pairsOf vs).toList) : p.1 ∈ vs ∧ p.2 = p.1 := by
 unfold pairsOf at h
 rw [Array.toList_zip, List.toList_toArray] at h
 have : ∀ (l : List Value), p ∈ l.zip l → p.1 ∈ l ∧ p.2 = p.1 := fun l => by
  induction l with
  | nil => intro h; cases h
  | cons a l ih =>
   intro h
   rw [List.zip_cons_cons] at h
   rcases List.mem_cons.mp h with rfl | h
   ·exact ⟨List.mem_cons_self, rfl⟩
   ·exact ⟨List.mem_cons_of_mem _ (ih h).1, (ih h).2⟩
 exact this vs h
end L2
set_option Elab.async false
set_option linter.all false
set_option maxRecDepth 100000
namespace U
open PySem L2 PyProof.Rows
def top (i : Nat) : Stmt := PySem.Challenge.pw_unlikesteps_k03_steps_told.main.body.getD i (.Pass ⟨0, 0, 0, 0⟩)
structure Gs (mg : Str → Option Value) : Prop where
 isinstance : mg "isinstance" = none
 int : mg "int" = none
 bool : mg "bool" = none
 tuple : mg "tuple" = none
 list : mg "list" = none
 len : mg "len" = none
 all : mg "all" = none
 set : mg "set" = none
 range : mg "range" = none
 max : mg "max" = none
 min : mg "min" = none
 enumerate : mg "enumerate" = none
 zip : mg "zip" = none
 sorted : mg "sorted" = none
 sum : mg "sum" = none
 longest : ∃ t, mg "LONGEST_SIDE" = some (.int 12 t)
section
variable {P : Program} {w : World} {K : PySem.W.Frag} {mg : Str → Option Value} {base : Heap}
abbrev sWhole : Stmt := top 19
def spWhole (K : PySem.W.Frag) : Sp := fun vs H Q _ => ∃ x, vs = [x] ∧ PlT K H x ∧ Q (.bl (whole x)) H
theorem scWhole : FnScope ["thing"] ["thing"] (defScope sWhole) := ⟨rfl, rfl, rfl, by decide +kernel, rfl, by decide +kernel, by decide +kernel⟩
theorem ZbO {f : Addr} {fd : FuncData} (F : Fun K "is_whole" "is_whole" sWhole f fd) (G : Gs mg) : FnOk P w K mg base CX0 1 f fd ["thing"] (spWhole K) := by
 refine F.ok scWhole (fun vs H Q E h => ?_) (fun cdv A outer s H vs Q E hr h => ?_)
 ·obtain ⟨x, rfl, _⟩ := h
  rfl
 ·obtain ⟨x, rfl, ⟨T, t⟩, q⟩ := h
  refine ⟨_, Zm (Zx (YG (Zj (Zy (c := "int")) rfl G.isinstance boot_isinstance (Za (pv 0) (Za (ZI (v := .ty "int") rfl G.int boot_int rfl) Zc)))
   (YF (Zdq (Zj (Zy (c := "bool")) rfl G.isinstance boot_isinstance (Za (pv 0) (Za (ZI (v := .ty "bool") rfl G.bool boot_bool rfl) Zc))))))), ?_⟩
  refine ⟨x, rfl, x, _, _, rfl, t, Zc2 t, _, rfl, ?_⟩
  rw [UG] at q
  cases e : isIntV x with
  | false => rw [e] at q; exact iteF q
  | true => rw [e] at q; exact iteT ⟨x, rfl, x, _, _, rfl, t, Zb8 t, _, rfl, q⟩
abbrev sWithin : Stmt := top 20
def spWithin (K : PySem.W.Frag) : Sp := fun vs H Q _ => ∃ x a b, vs = [x, .int a, .int b] ∧ PlT K H x ∧ Q (.bl (wholeIn x a b)) H
theorem scWithin : FnScope ["thing", "least", "most"] ["thing", "least", "most"] (defScope sWithin) := ⟨rfl, rfl, rfl, by decide +kernel, rfl, by decide +kernel, by decide +kernel⟩
theorem ZaX {f : Addr} {fd : FuncData} (F : Fun K "is_whole_within" "is_whole_within" sWithin f fd) (D1 : Def P w K mg base 1 "is_whole" ["thing"] (spWhole K)) : FnOk P w K mg base CX0 2 f fd ["thing", "least", "most"] (spWithin K) := by
 refine F.ok scWithin (fun vs H Q E h => ?_) (fun cdv A outer s H vs Q E hr h => ?_)
 ·obtain ⟨x, a, b, rfl, _⟩ := h
  rfl
 ·obtain ⟨x, a, b, rfl, t, q⟩ := h
  refine ⟨_, Zm (Zx (YG (Zk D1 hr (Za (pv 0) Zc)) (YF (ZbJ Zdf Zdf (pv 1) (pv 0) (pv 2))))), ?_⟩
  refine ⟨x, rfl, x, rfl, t, _, rfl, ?_⟩
  cases x with
  | int i =>
   refine iteT ⟨_, rfl, _, rfl, _, _, rfl, rfl, _, rfl, ?_⟩
   have e : wholeIn (.int i) a b = (decide (a ≤ i) && decide (i ≤ b)) := rfl
   rw [e] at q
   cases e1 : decide (a ≤ i) with
   | false => rw [e1] at q; exact iteF q
   | true => rw [e1] at q; exact iteT ⟨_, rfl, _, _, rfl, rfl, q⟩
  | _ => exact iteF q
abbrev sTupOf : Stmt := top 21
def spTupOf (K : PySem.W.Frag) : Sp := fun vs H Q _ => ∃ x n, vs = [x, .int n] ∧ PlT K H x ∧ Q (.bl (match tupOf H x with | some xs => decide ((xs.length : Int) = n) | none => false)) H
theorem scTupOf : FnScope ["thing", "many"] ["thing", "many"] (defScope sTupOf) := ⟨rfl, rfl, rfl, by decide +kernel, rfl, by decide +kernel, by decide +kernel⟩
theorem ZbP {f : Addr} {fd : FuncData} (F : Fun K "is_tuple_of" "is_tuple_of" sTupOf f fd) (G : Gs mg) : FnOk P w K mg base CX0 1 f fd ["thing", "many"] (spTupOf K) := by
 refine F.ok scTupOf (fun vs H Q E h => ?_) (fun cdv A outer s H vs Q E hr h => ?_)
 ·obtain ⟨x, n, rfl, _⟩ := h
  rfl
 ·obtain ⟨x, n, rfl, ⟨T, t⟩, q⟩ := h
  refine ⟨_, Zm (Zx (YG (Zj (Zy (c := "tuple")) rfl G.isinstance boot_isinstance (Za (pv 0) (Za (ZI (v := .ty "tuple") rfl G.tuple boot_tuple rfl) Zc)))
   (YF (Yq Wc (Zj Zr rfl G.len boot_len (Za (pv 0) Zc)) (pv 1) (nomark _))))), ?_⟩
  refine ⟨x, rfl, x, _, _, rfl, t, Zbd t, _, rfl, ?_⟩
  cases e : tupOf H x with
  | none => rw [e] at q; exact iteF q
  | some xs =>
   rw [e] at q
   obtain ⟨a, rfl, ha⟩ := ZF e
   refine iteT ⟨_, rfl, a, xs, rfl, .inr (SqT.of ha), _, rfl, rfl, ?_⟩
   have z : decide (V.int (xs.length : Int) = V.int n) = decide ((xs.length : Int) = n) := by simp
   rw [z]
   exact q
abbrev sBoard : Stmt := top 22
def isBoardL : Option (List V) → Bool
 | some [a, b] => wholeIn a 1 12 && wholeIn b 1 12
 | _ => false
def Pl1 (K : PySem.W.Frag) (H : Hp) (x : V) : Prop := PlT K H x ∧ ∀ xs, tupOf H x = some xs → ∀ y ∈ xs, PlT K H y
def spBoard (K : PySem.W.Frag) : Sp := fun vs H Q _ => ∃ x, vs = [x] ∧ Pl1 K H x ∧ ∀ H', Same H H' → Q (.bl (isBoardL (tupOf H x))) H'
theorem scBoard : FnScope ["thing"] ["thing"] (defScope sBoard) := ⟨rfl, rfl, rfl, by decide +kernel, rfl, by decide +kernel, by decide +kernel⟩
theorem ZbY {f : Addr} {fd : FuncData} (F : Fun K "is_board" "is_board" sBoard f fd) (G : Gs mg) (D1 : Def P w K mg base 1 "is_tuple_of" ["thing", "many"] (spTupOf K)) (D2 : Def P w K mg base 2 "is_whole_within" ["thing", "least", "most"] (spWithin K)) :
  FnOk P w K mg base CX0 3 f fd ["thing"] (spBoard K) := by
 obtain ⟨tk, hL⟩ := G.longest
 refine F.ok scBoard (fun vs H Q E h => ?_) (fun cdv A outer s H vs Q E hr h => ?_)
 ·obtain ⟨x, rfl, _⟩ := h
  rfl
 ·obtain ⟨x, rfl, ⟨t, hi⟩, q⟩ := h
  refine ⟨_, Zm (Zx (YG (Zk D1 (hr.mono (by decide)) (Za (pv 0) (Za Zi Zc)))
   (YF (Zj Jo rfl G.all boot_all (Za (Yb ["side"] 1 [] (U5 (pv 0)) (fun C s H fp => pb 0) (fun C s H fp => Yp)
    (fun C s H fp D => ZJ rfl (Zk D2 (hr.mono (by decide)) (Za (pv 0) (Za Zi (Za (ZH (v := .int 12) rfl hL ⟨_, rfl⟩) Zc)))))) Zc))))), ?_⟩
  refine ⟨x, rfl, x, 2, rfl, t, _, rfl, ?_⟩
  cases e : tupOf H x with
  | none => rw [e] at q; exact iteF (q H (Same.refl H))
  | some xs =>
   rw [e] at q
   obtain ⟨a, rfl, ha⟩ := ZF e
   show if decide ((xs.length : Int) = 2) = true then _ else _
   by_cases h2 : xs.length = 2
   ·rw [decide_eq_true (show (xs.length : Int) = 2 by omega)]
    refine iteT ⟨_, rfl, a, rfl, ⟨xs, SqT.of ha⟩, ?_⟩
    refine We (xs := xs) (fun i ys σ H2 => ys = (xs.take i).map (fun y => V.bl (wholeIn y 1 12)) ∧ H2 = H ∧ ∃ v, σ = [v]) ⟨rfl, rfl, none, rfl⟩ (fun i ys σ H2 _ ⟨_, e2, _⟩ => by rw [e2]; exact SqT.of ha) ?_ ?_
    ·rintro i y ys σ H2 hy ⟨rfl, rfl, v, rfl⟩
     have my : y ∈ xs := List.mem_of_getElem? hy
     refine ⟨y, rfl, y, 1, 12, rfl, hi xs e y my, ?_, ?_⟩
     ·rw [List.length_map, sizeLine_eq, List.length_take]; omega
     ·refine ⟨?_, rfl, _, rfl⟩
      rw [List.take_add_one, hy, List.map_append]
      rfl
    ·rintro ys σ H2 ⟨rfl, rfl, v, rfl⟩ p hp
     rw [List.take_length]
     refine ⟨p, xs.map (fun y => wholeIn y 1 12), rfl, ?_, ?_⟩
     ·rw [List.map_map]; exact SqL.of Zb
     ·have e3 : isBoardL (some xs) = (xs.map (fun y => wholeIn y 1 12)).all id := by
       match xs, h2 with
       | [a, b], _ => simp [isBoardL]
      rw [← e3]
      exact q _ fun b o hb => by rw [Zf (Zd hb hp)]; exact hb
   ·rw [decide_eq_false (show ¬ (xs.length : Int) = 2 by omega)]
    have e3 : isBoardL (some xs) = false := by
     match xs, h2 with
     | [], _ => rfl
     | [a], _ => rfl
     | [a, b], h => exact absurd rfl h
     | a :: b :: c :: r, _ => rfl
    rw [e3] at q
    exact iteF (q H (Same.refl H))
end
end U
set_option Elab.async false
set_option linter.all false
set_option maxRecDepth 100000
namespace U
open PySem L2 PyProof.Rows
theorem YR (val : Nat → Int) : ∀ n, ((PyProof.Rows.firstMet val n).length = n ↔ ((List.range n).map val).Nodup)
 | 0 => by simp [PyProof.Rows.firstMet_zero]
 | n + 1 => by
  have ih := YR val n
  have le := PyProof.Rows.firstMet_length_le val n
  rw [PyProof.Rows.firstMet_succ, PyProof.Rows.step_length, PyProof.Rows.firstMet_any, List.range_succ, List.map_append]
  have e : (((List.range n).map val).any (· == val n)) = true ↔ val n ∈ (List.range n).map val := by
   rw [List.any_eq_true]
   constructor
   ·rintro ⟨x, hx, q⟩
    have : x = val n := by simpa using q
    rw [← this]; exact hx
   ·intro h; exact ⟨_, h, by simp⟩
  have nd : ((List.range n).map val ++ List.map val [n]).Nodup ↔ ((List.range n).map val).Nodup ∧ ¬ val n ∈ (List.range n).map val := by
   rw [List.nodup_append]
   constructor
   ·rintro ⟨h1, _, h3⟩
    exact ⟨h1, fun m => h3 _ m (val n) (by simp) rfl⟩
   ·rintro ⟨h1, h2⟩
    refine ⟨h1, by simp, fun a ha b hb q => h2 ?_⟩
    have hb' : b = val n := by simpa using hb
    rw [← hb', ← q]; exact ha
  rw [nd, ← ih]
  by_cases m : val n ∈ (List.range n).map val
  ·rw [if_pos (e.mpr m)]
   constructor
   ·intro h; omega
   ·rintro ⟨_, h⟩; exact absurd m h
  ·rw [if_neg (fun z => m (e.mp z))]
   constructor
   ·intro h; exact ⟨by omega, m⟩
   ·rintro ⟨h, _⟩; omega
theorem U0 (ns : List Int) : setN ns = ns.length ↔ ns.Nodup := by
 unfold setN
 rw [YR]
 have e : (List.range ns.length).map (fun i => ns.getD i 0) = ns := by
  refine List.ext_getElem (by simp) fun i h1 h2 => ?_
  rw [List.getElem_map, List.getElem_range, List.getD_eq_getElem?_getD, List.getElem?_eq_getElem h2, Option.getD_some]
 rw [e]
def rowsOf (xs : List V) : List V := xs.filter fun x => !decide (x = .non)
def isLayV (wd hg : Int) : Option (List V) → Bool
 | some xs => decide ((xs.length : Int) = wd) && ((rowsOf xs).all fun r => wholeIn r 0 (hg - 1)) && decide (rowsOf xs).Nodup
 | none => false
def BoardAt (H : Hp) (x : V) (wd hg : Int) : Prop := tupOf H x = some [.int wd, .int hg] ∧ 1 ≤ wd ∧ wd ≤ 12 ∧ 1 ≤ hg ∧ hg ≤ 12
theorem BoardAt.same {H H' : Hp} {x : V} {wd hg : Int} (b : BoardAt H x wd hg) (s : Same H H') : BoardAt H' x wd hg := ⟨s.tupOf b.1, b.2⟩
theorem BoardAt.is {H : Hp} {x : V} {wd hg : Int} (b : BoardAt H x wd hg) : isBoardL (tupOf H x) = true := by
 obtain ⟨h, h1, h2, h3, h4⟩ := b
 rw [h]
 show (decide (1 ≤ wd) && decide (wd ≤ 12) && (decide (1 ≤ hg) && decide (hg ≤ 12))) = true
 simp [h1, h2, h3, h4]
theorem BoardAt.pl {K : PySem.W.Frag} {H : Hp} {x : V} {wd hg : Int} (b : BoardAt H x wd hg) : Pl1 K H x := by
 obtain ⟨a, rfl, ha⟩ := ZF b.1
 refine ⟨⟨_, .tup ha⟩, fun xs e y hy => ?_⟩
 rw [b.1] at e
 cases e
 rcases List.mem_cons.mp hy with z | hy
 ·rw [z]; exact ⟨_, .int wd⟩
 ·rw [List.mem_singleton.mp hy]; exact ⟨_, .int hg⟩
theorem UH {xs : List V} {lo hi : Int} (h : (xs.all fun r => wholeIn r lo hi) = true) : ∃ ns : List Int, xs = ns.map V.int := by
 induction xs with
 | nil => exact ⟨[], rfl⟩
 | cons x xs ih =>
  rw [List.all_cons, Bool.and_eq_true] at h
  obtain ⟨ns, e⟩ := ih h.2
  cases x with
  | int i => exact ⟨i :: ns, by rw [e]; rfl⟩
  | _ => cases h.1
theorem WJ (ns : List Int) : (ns.map V.int).Nodup ↔ ns.Nodup := by
 induction ns with
 | nil => simp
 | cons n ns ih => rw [List.map_cons, List.nodup_cons, List.nodup_cons, ih]; simp
section
variable {P : Program} {w : World} {K : PySem.W.Frag} {mg : Str → Option Value} {base : Heap}
abbrev sNeedBoard : Stmt := top 23
def spNeedBoard (K : PySem.W.Frag) : Sp := fun vs H Q _ => ∃ x wd hg, vs = [x] ∧ BoardAt H x wd hg ∧ ∀ H', Same H H' → Q .non H'
theorem scNeedBoard : FnScope ["board"] ["board"] (defScope sNeedBoard) := ⟨rfl, rfl, rfl, by decide +kernel, rfl, by decide +kernel, by decide +kernel⟩
theorem W8 {f : Addr} {fd : FuncData} (F : Fun K "need_board" "need_board" sNeedBoard f fd) (D1 : Def P w K mg base 3 "is_board" ["thing"] (spBoard K)) : FnOk P w K mg base CX0 4 f fd ["board"] (spNeedBoard K) := by
 refine F.ok scNeedBoard (fun vs H Q E h => ?_) (fun cdv A outer s H vs Q E hr h => ?_)
 ·obtain ⟨x, wd, hg, rfl, _⟩ := h
  rfl
 ·obtain ⟨x, wd, hg, rfl, b, q⟩ := h
  refine ⟨_, Zm (ZS (Yh (ZU (Zk D1 hr (Za (pv 0) Zc)))) ZE ZC), ?_⟩
  refine ⟨x, rfl, x, rfl, b.pl, fun H' sm => ⟨_, rfl, ?_⟩⟩
  rw [b.is]
  exact iteF (q H' sm)
abbrev sLay : Stmt := top 24
def spLay (K : PySem.W.Frag) : Sp := fun vs H Q _ => ∃ x y wd hg, vs = [x, y] ∧ BoardAt H x wd hg ∧ Pl1 K H y ∧ ∀ H', Same H H' → Q (.bl (isLayV wd hg (tupOf H y))) H'
theorem scLay : FnScope ["board", "thing", "wide", "high", "rows"] ["board", "thing"] (defScope sLay) := ⟨rfl, rfl, rfl, by decide +kernel, rfl, by decide +kernel, by decide +kernel⟩
theorem ZdA {f : Addr} {fd : FuncData} (F : Fun K "is_lay" "is_lay" sLay f fd) (G : Gs mg) (D1 : Def P w K mg base 4 "need_board" ["board"] (spNeedBoard K)) (D2 : Def P w K mg base 1 "is_tuple_of" ["thing", "many"] (spTupOf K))
  (D3 : Def P w K mg base 2 "is_whole_within" ["thing", "least", "most"] (spWithin K)) : FnOk P w K mg base CX0 5 f fd ["board", "thing"] (spLay K) := by
 refine F.ok scLay (fun vs H Q E h => ?_) (fun cdv A outer s H vs Q E hr h => ?_)
 ·obtain ⟨x, y, wd, hg, rfl, _⟩ := h
  rfl
 ·obtain ⟨x, y, wd, hg, rfl, b, ⟨ty, hy⟩, q⟩ := h
  refine ⟨_, Zh (Ya (Zk D1 hr (Za (pv 0) Zc)))
   (Zh (J7 (pv 0) (ZT rfl (Zn (Zz (i := 2) scLay.nd rfl (Or.inl rfl)) (Zn (Zz (i := 3) scLay.nd rfl (Or.inr rfl)) ZK))))
   (Zh (ZS (Yh (ZU (Zk D2 (hr.mono (by decide)) (Za (pv 1) (Za (pv 2) Zc))))) (Zm (Zx WH)) ZC)
   (Zh (YV ["row"] 1 [] (i := 4) scLay.nd rfl (Or.inl rfl) (U5 (pv 1)) (fun C s H fp => pb 0) (fun C s H fp => Yo (Y5 (Jd (pv 0)))) (fun C s H fp D => ZJ rfl (pv 0)))
   (Zm (Zx (YG (Zj Jo rfl G.all boot_all (Za (Yb ["row", "high"] 1 [3] (ZX (pv 4)) (fun C s H fp => pb 0) (fun C s H fp => Yp)
     (fun C s H fp D => ZJ rfl (Zk D3 (hr.mono (by decide)) (Za (pv 0) (Za Zi (Za (Zp YI (pv 1) Zi) Zc)))))) Zc))
    (YF (Yq Wc (Zj WC rfl G.len boot_len (Za (Yz WA rfl G.set boot_set (Za (pv 4) Zc)) Zc)) (Zj Zr rfl G.len boot_len (Za (pv 4) Zc)) (nomark _))))))))), ?_⟩
  refine ⟨x, rfl, x, wd, hg, rfl, b, fun H1 s1 => ?_⟩
  have b1 := b.same s1
  obtain ⟨a, rfl, ha⟩ := ZF b1.1
  refine ⟨_, rfl, a, _, rfl, SqT.of ha, rfl, _, _, rfl, _, _, rfl, rfl, ?_⟩
  refine ⟨y, rfl, _, rfl, y, wd, rfl, s1.plT ty, _, rfl, ?_⟩
  cases e : tupOf H y with
  | none =>
   have e1 : tupOf H1 y = none := by
    obtain ⟨T, t⟩ := ty
    cases t with
    | tup e2 => rw [Zu e2] at e; cases e
    | lst e2 => rw [Zw, s1 _ _ e2]; rfl
    | frz e2 => rw [Zw, s1 _ _ e2]; rfl
    | dK e2 => rw [Zw, s1 _ _ e2]; rfl
    | dT e2 => rw [Zw, s1 _ _ e2]; rfl
    | _ => rfl
   rw [e1]
   rw [e] at q
   exact iteT (q H1 s1)
  | some xs =>
   have e1 := s1.tupOf e
   rw [e1]
   rw [e] at q
   obtain ⟨l, rfl, hl⟩ := ZF e1
   by_cases hw : (xs.length : Int) = wd
   ·refine (show if (!decide ((xs.length : Int) = wd)) = true then _ else _ from ?_)
    rw [decide_eq_true hw]
    refine iteF ?_
    have hwd := b.2.2.1
    have hlen : xs.length ≤ 12 := by omega
    refine ⟨_, rfl, l, rfl, ⟨xs, SqT.of hl⟩, ?_⟩
    refine We (xs := xs) (fun i ys σ H2 => ys = rowsOf (xs.take i) ∧ H2 = H1 ∧ ∃ v, σ = [v]) ⟨rfl, rfl, none, rfl⟩ (fun i ys σ H2 _ ⟨_, e2, _⟩ => by rw [e2]; exact SqT.of hl) ?_ ?_
    ·rintro i r ys σ H2 hr' ⟨rfl, rfl, v, rfl⟩
     have et : rowsOf (xs.take (i + 1)) = rowsOf (xs.take i) ++ (if (!decide (r = V.non)) = true then [r] else []) := by
      unfold rowsOf
      rw [List.take_add_one, hr', List.filter_append]
      cases hh : (!decide (r = V.non)) with
      | true => simp [hh]
      | false => simp [hh]
     refine ⟨r, rfl, _, rfl, ?_⟩
     cases hh : (!decide (r = V.non)) with
     | true =>
      rw [hh] at et
      refine iteT ?_
      refine ⟨r, rfl, ?_, ?_⟩
      ·have := List.length_filter_le (fun x => !decide (x = V.non)) (xs.take i)
       unfold rowsOf
       rw [sizeLine_eq]
       rw [List.length_take] at this
       omega
      ·exact ⟨by rw [et, if_pos rfl], rfl, _, rfl⟩
     | false =>
      rw [hh] at et
      exact iteF ⟨by rw [et, if_neg Bool.false_ne_true, List.append_nil], rfl, _, rfl⟩
    ·rintro ys σ H2 ⟨rfl, rfl, v, rfl⟩ p hp
     rw [List.take_length]
     have hrl : (rowsOf xs).length ≤ 12 := Nat.le_trans (List.length_filter_le _ _) hlen
     have s2 : Same H2 (upd H2 p (.lst (rowsOf xs))) := fun b o hb => by rw [Zf (Zd hb hp)]; exact hb
     refine ⟨_, rfl, p, rfl, ⟨rowsOf xs, SqL.of Zb⟩, ?_⟩
     generalize hH3 : upd H2 p (HO.lst (rowsOf xs)) = H3 at s2
     have hp3 : H3 p = some (.lst (rowsOf xs)) := by rw [← hH3]; exact Zb
     refine Yf (xs := rowsOf xs) (fun i ys σ H4 => ys = ((rowsOf xs).take i).map (fun r => V.bl (wholeIn r 0 (hg - 1))) ∧ H4 = H3 ∧ ∃ v, σ = [v, some (.int hg)]) ⟨rfl, rfl, none, rfl⟩ (fun i ys σ H4 _ ⟨_, e2, _⟩ => by rw [e2]; exact SqL.of hp3) ?_ ?_
     ·rintro i r ys σ H4 hr' ⟨rfl, rfl, v, rfl⟩
      have mr : r ∈ xs := (List.mem_filter.mp (List.mem_of_getElem? hr')).1
      refine ⟨r, rfl, _, rfl, _, _, rfl, rfl, r, 0, hg - 1, rfl, (s1.trans s2).plT (hy xs e r mr), ?_, ?_⟩
      ·rw [List.length_map, sizeLine_eq, List.length_take]; omega
      ·refine ⟨?_, rfl, _, rfl⟩
       rw [List.take_add_one, hr', List.map_append]
       rfl
     ·rintro ys σ H4 ⟨rfl, rfl, v, rfl⟩ p' hp'
      rw [List.take_length]
      have s3 : ∀ o, Same H4 (upd H4 p' o) := fun o b u hb => by rw [Zf (Zd hb hp')]; exact hb
      refine ⟨p', (rowsOf xs).map (fun r => wholeIn r 0 (hg - 1)), rfl, ?_, ?_⟩
      ·rw [List.map_map]; exact SqL.of Zb
      ·have eall : ((rowsOf xs).map (fun r => wholeIn r 0 (hg - 1))).all id = (rowsOf xs).all fun r => wholeIn r 0 (hg - 1) := by rw [List.all_map]; rfl
       rw [eall]
       have elay : isLayV wd hg (some xs) = (((rowsOf xs).all fun r => wholeIn r 0 (hg - 1)) && decide (rowsOf xs).Nodup) := by
        show (decide ((xs.length : Int) = wd) && _ && _) = _
        rw [decide_eq_true hw, Bool.true_and]
       rw [elay] at q
       refine ⟨_, rfl, ?_⟩
       cases hall : ((rowsOf xs).all fun r => wholeIn r 0 (hg - 1)) with
       | false =>
        rw [hall] at q
        exact iteF (q _ (s1.trans (s2.trans (s3 _))))
       | true =>
        rw [hall, Bool.true_and] at q
        obtain ⟨ns, en⟩ := UH hall
        have hpl : (upd H4 p' (.lst (((rowsOf xs).map (fun r => V.bl (wholeIn r 0 (hg - 1))))))) p = some (.lst (rowsOf xs)) := s3 _ _ _ hp3
        refine iteT ?_
        have hnl : ns.length = (rowsOf xs).length := by rw [en, List.length_map]
        refine ⟨_, rfl, p, ns, rfl, by rw [← en]; exact SqL.of hpl, by omega, fun q2 S hq2 => ⟨q2, S, setN ns, rfl, Zb, _, rfl, p, rowsOf xs, rfl, .inl (SqL.of ?_), rfl, ?_⟩⟩
        ·rw [Zf (Zd hpl hq2)]; exact hpl
        ·have ed : decide (V.int (setN ns : Int) = V.int ((rowsOf xs).length : Int)) = decide (rowsOf xs).Nodup := by
          rw [decide_eq_decide]
          rw [en, WJ, ← U0, List.length_map]
          constructor
          ·intro h; injection h with h; omega
          ·intro h; rw [h]
         rw [ed]
         exact q _ (s1.trans (s2.trans ((s3 _).trans fun b o hb => by rw [Zf (Zd hb hq2)]; exact hb)))
   ·refine (show if (!decide ((xs.length : Int) = wd)) = true then _ else _ from ?_)
    rw [decide_eq_false hw]
    have e3 : isLayV wd hg (some xs) = false := by
     show (decide ((xs.length : Int) = wd) && _ && _) = false
     rw [decide_eq_false hw, Bool.false_and, Bool.false_and]
    rw [e3] at q
    exact iteT (q H1 s1)
end
end U
set_option Elab.async false
set_option linter.all false
set_option maxRecDepth 100000
namespace U
open PySem L2 PyProof.Rows
section
variable {P : Program} {w : World} {K : PySem.W.Frag} {mg : Str → Option Value} {base : Heap}
abbrev sCell : Stmt := top 33
def spCell (K : PySem.W.Frag) : Sp := fun vs H Q _ => ∃ (a : Addr) (ns : List Int) (k : Nat), vs = [.ref a, .int k] ∧ SqL K H a (ns.map V.int) ∧ ∀ n : Int, Q (.int n) H
theorem scCell : FnScope ["_law_script", "_law_k"] ["_law_script", "_law_k"] (defScope sCell) := ⟨rfl, rfl, rfl, by decide +kernel, rfl, by decide +kernel, by decide +kernel⟩
theorem ZcP {f : Addr} {fd : FuncData} (F : Fun K "_law_cell_at" "_law_cell_at" sCell f fd) (G : Gs mg) : FnOk P w K mg base CX0 1 f fd ["_law_script", "_law_k"] (spCell K) := by
 refine F.ok scCell (fun vs H Q E h => ?_) (fun cdv A outer s H vs Q E hr h => ?_)
 ·obtain ⟨a, ns, k, rfl, _⟩ := h
  rfl
 ·obtain ⟨a, ns, k, rfl, hs, q⟩ := h
  refine ⟨_, Zh (ZS (ZG Zde (pv 1) (Zj Zr rfl G.len boot_len (Za (pv 0) Zc)) (nomark _)) (Zm (Zx (ZP ZM (pv 0) (pv 1) (fun _ _ => rfl)))) ZC) (Zm (Zx Zi)), ?_⟩
  refine ⟨_, rfl, _, rfl, a, ns.map V.int, rfl, .inl hs, _, _, rfl, rfl, _, rfl, ?_⟩
  by_cases hk : k < ns.length
  ·rw [decide_eq_true (by rw [List.length_map]; omega)]
   refine iteT ⟨_, rfl, _, rfl, a, ns.map V.int, k, V.int ns[k], rfl, rfl, hs, ZY ?_, q _⟩
   rw [List.getElem?_map, List.getElem?_eq_getElem hk]
   rfl
  ·rw [decide_eq_false (by rw [List.length_map]; omega)]
   exact iteF (q 0)
def StAt (H : Hp) (p : Addr) : Prop := ∃ u v : Int, H p = some (.lst [.int u, .int v]) ∧ 0 ≤ u ∧ 0 ≤ v ∧ v < 2147483647
abbrev sState : Stmt := top 34
def spState (K : PySem.W.Frag) : Sp := fun vs H Q _ => ∃ (a : Addr) (ns : List Int) (k : Nat), vs = [.ref a, .int k] ∧ SqL K H a (ns.map V.int) ∧ ∀ p H', H p = none → Same H H' → StAt H' p → Q (.ref p) H'
theorem scState : FnScope ["_law_script", "_law_k", "_law_cell"] ["_law_script", "_law_k"] (defScope sState) := ⟨rfl, rfl, rfl, by decide +kernel, rfl, by decide +kernel, by decide +kernel⟩
theorem ZbR {f : Addr} {fd : FuncData} (F : Fun K "_law_state" "_law_state" sState f fd) (G : Gs mg) (D1 : Def P w K mg base 1 "_law_cell_at" ["_law_script", "_law_k"] (spCell K)) : FnOk P w K mg base CX0 2 f fd ["_law_script", "_law_k"] (spState K) := by
 refine F.ok scState (fun vs H Q E h => ?_) (fun cdv A outer s H vs Q E hr h => ?_)
 ·obtain ⟨a, ns, k, rfl, _⟩ := h
  rfl
 ·obtain ⟨a, ns, k, rfl, hs, q⟩ := h
  refine ⟨_, Zh (Zs (i := 2) scState.nd rfl (Or.inl rfl) (Zk D1 hr (Za (pv 0) (Za (pv 1) Zc))))
   (Zm (Zx (ZD (Za (Zj (WR rfl) rfl G.max boot_max (Za Zi (Za (Zp YI (pv 2) (Zp ZbK Zi Zi)) Zc))) (Za (Zp Yk (pv 2) Zi) Zc))))), ?_⟩
  refine ⟨_, rfl, _, rfl, a, ns, k, rfl, hs, fun n => ?_⟩
  refine ⟨_, rfl, _, _, rfl, rfl, ⟨by decide, by decide, by decide⟩, _, _, rfl, rfl, _, _, rfl, ?_⟩
  refine ⟨_, rfl, _, _, rfl, rfl, (by show (0 : Int) < 2147483647; decide), (by show 2 ≤ sizeLine; decide), fun p hp => q p _ hp (fun b o hb => by rw [Zf (Zd hb hp)]; exact hb) ?_⟩
  refine ⟨_, _, Zb, ?_, Int.emod_nonneg _ (by decide), Int.emod_lt_of_pos _ (by decide)⟩
  split <;> omega
abbrev sTake : Stmt := top 35
def spTake : Sp := fun vs H Q _ => ∃ (p : Addr) (m : Int), vs = [.ref p, .int m] ∧ StAt H p ∧ 0 < m ∧ m < 1000 ∧ ∀ r o, 0 ≤ r → r < m → StAt (upd H p o) p → Q (.int r) (upd H p o)
theorem scTake : FnScope ["_law_state_here", "_law_many", "_law_found", "_law_stirred"] ["_law_state_here", "_law_many"] (defScope sTake) := ⟨rfl, rfl, rfl, by decide +kernel, rfl, by decide +kernel, by decide +kernel⟩
theorem at0 {x y : V} : atI [x, y] 0 = some x := rfl
theorem at1 {x y : V} : atI [x, y] 1 = some y := rfl
theorem ZcN {f : Addr} {fd : FuncData} (F : Fun K "_law_take" "_law_take" sTake f fd) : FnOk P w K mg base CX0 1 f fd ["_law_state_here", "_law_many"] spTake := by
 refine F.ok scTake (fun vs H Q E h => ?_) (fun cdv A outer s H vs Q E hr h => ?_)
 ·obtain ⟨p, m, rfl, _⟩ := h
  rfl
 ·obtain ⟨p, m, rfl, ⟨u, v, hp, hu, hv, hv2⟩, hm, hm2, q⟩ := h
  refine ⟨_, Zh (ZS (ZG Zdg (ZP ZM (pv 0) Zi (fun _ _ => rfl)) Zi (nomark _))
    (Zh (Zs (i := 2) scTake.nd rfl (Or.inl rfl) (Zp Yk (ZP ZM (pv 0) Zi (fun _ _ => rfl)) (pv 1)))
    (Zh (J7 (Zp Zay (ZP ZM (pv 0) Zi (fun _ _ => rfl)) (pv 1)) (ZbE (pv 0) Zi Up)) (Zm (Zx (pv 2))))) ZC)
   (Zh (J7 (Zp Yk (Zp Yt (Zp Wb (ZP ZM (pv 0) Zi (fun _ _ => rfl)) Zi) Zi) Zi) (ZbE (pv 0) Zi Up))
   (Zh (Zs (i := 3) scTake.nd rfl (Or.inl rfl) (Zp Yk (Zp Yt (Zp Yt (Zp Wb (ZP ZM (pv 0) Zi (fun _ _ => rfl)) (ZP ZM (pv 0) Zi (fun _ _ => rfl))) (Zp Wb Zi (ZP ZM (pv 0) Zi (fun _ _ => rfl)))) Zi) Zi))
   (Zh (Zs (i := 3) scTake.nd rfl (Or.inl rfl) (Zp Yk (Zp Yt (Zp Wb (pv 3) (pv 3)) (Zp Wb Zi (pv 3))) Zi))
   (Zm (Zx (Zp Yk (Zp Zay (pv 3) Zi) (pv 1))))))), ?_⟩
  have s0 := SqL.of (K := K) hp
  refine ⟨_, rfl, p, _, _, _, rfl, rfl, s0, at0, _, _, rfl, rfl, _, rfl, ?_⟩
  by_cases h0 : 0 < u
  ·rw [decide_eq_true h0]
   refine iteT ?_
   refine ⟨_, rfl, p, _, _, _, rfl, rfl, s0, at0, _, rfl, _, _, rfl, rfl, hm, ?_⟩
   refine ⟨_, rfl, p, _, _, _, rfl, rfl, s0, at0, _, rfl, _, _, rfl, rfl, ⟨hm, by omega⟩, ?_⟩
   refine ⟨_, rfl, p, _, 0, 0, rfl, rfl, hp, rfl, ?_⟩
   refine ⟨_, rfl, q _ _ (Int.emod_nonneg _ (by omega)) (Int.emod_lt_of_pos _ hm) ?_⟩
   exact ⟨u / m, v, Zb, Int.ediv_nonneg hu (by omega), hv, hv2⟩
  ·rw [decide_eq_false h0]
   refine iteF ?_
   refine ⟨_, rfl, p, _, _, _, rfl, rfl, s0, at1, _, _, rfl, rfl, .inr ⟨by decide, by decide⟩, _, _, rfl, rfl, _, _, rfl, rfl, (by show (0 : Int) < 2147483647; decide), ?_⟩
   refine ⟨_, rfl, p, _, 1, 1, rfl, rfl, hp, rfl, ?_⟩
   have b1 : 0 ≤ ((v * 48271 + 29) % 2147483647) := Int.emod_nonneg _ (by decide)
   have b2 : ((v * 48271 + 29) % 2147483647) < 2147483647 := Int.emod_lt_of_pos _ (by decide)
   have s1 : SqL K (upd H p (.lst (([V.int u, V.int v] : List V).set 1 (V.int ((v * 48271 + 29) % 2147483647))))) p [.int u, .int ((v * 48271 + 29) % 2147483647)] := SqL.of Zb
   have lo : ∀ {t : Int}, 0 ≤ t → -(2 ^ 64) < t := fun h => Int.lt_of_lt_of_le (by decide) h
   have hi : ∀ {t : Int}, t < 2147483647 → t < 2 ^ 64 := fun h => Int.lt_trans h (by decide)
   refine ⟨_, rfl, p, _, _, _, rfl, rfl, s1, at1, _, rfl, p, _, _, _, rfl, rfl, s1, at1, _, _, rfl, rfl, .inl ⟨lo b1, hi b2⟩, ?_⟩
   refine ⟨_, rfl, p, _, _, _, rfl, rfl, s1, at1, _, _, rfl, rfl, .inl ⟨by decide, by decide⟩, _, _, rfl, rfl, _, _, rfl, rfl, _, _, rfl, rfl, (by show (0 : Int) < 2147483629; decide), ?_⟩
   have c1 : 0 ≤ ((((v * 48271 + 29) % 2147483647) * ((v * 48271 + 29) % 2147483647) + 39373 * ((v * 48271 + 29) % 2147483647) + 7) % 2147483629) := Int.emod_nonneg _ (by decide)
   have c2 : ((((v * 48271 + 29) % 2147483647) * ((v * 48271 + 29) % 2147483647) + 39373 * ((v * 48271 + 29) % 2147483647) + 7) % 2147483629) < 2147483647 := Int.lt_trans (Int.emod_lt_of_pos _ (by decide)) (by decide)
   refine ⟨_, rfl, _, rfl, _, _, rfl, rfl, .inl ⟨lo c1, hi c2⟩, _, rfl, _, _, rfl, rfl, .inl ⟨by decide, by decide⟩, _, _, rfl, rfl, _, _, rfl, rfl, (by show (0 : Int) < 2147483587; decide), ?_⟩
   refine ⟨_, rfl, _, _, rfl, rfl, ⟨by decide, by decide⟩, _, rfl, _, _, rfl, rfl, hm, ?_⟩
   refine q _ _ (Int.emod_nonneg _ (by omega)) (Int.emod_lt_of_pos _ hm) ?_
   exact ⟨u, _, Zb, hu, b1, b2⟩
end
end U
set_option Elab.async false
set_option linter.all false
set_option maxRecDepth 100000
namespace U
open PySem L2 PyProof.Rows
section
variable {P : Program} {w : World} {K : PySem.W.Frag} {mg : Str → Option Value} {base : Heap}
abbrev sDrawB : Stmt := top 37
def spDrawB : Sp := fun vs H Q _ => ∃ (p : Addr) (m : Int), vs = [.ref p, .int m] ∧ StAt H p ∧ 0 < m ∧ m < 1000 ∧
 ∀ (b : Addr) (H' : Hp) (wd hg : Int), 1 ≤ wd → wd ≤ m → 1 ≤ hg → hg ≤ m → SameX p H H' → StAt H' p → H' b = some (.tup [.int wd, .int hg]) → b ≠ p → Q (.ref b) H'
theorem scDrawB : FnScope ["_law_state_here", "_law_upto", "_law_way", "_law_wide", "_law_high"] ["_law_state_here", "_law_upto"] (defScope sDrawB) := ⟨rfl, rfl, rfl, by decide +kernel, rfl, by decide +kernel, by decide +kernel⟩
theorem ZbX {f : Addr} {fd : FuncData} (F : Fun K "_law_board" "_law_board" sDrawB f fd) (D1 : Def P w K mg base 1 "_law_take" ["_law_state_here", "_law_many"] spTake) : FnOk P w K mg base CX0 2 f fd ["_law_state_here", "_law_upto"] spDrawB := by
 refine F.ok scDrawB (fun vs H Q E h => ?_) (fun cdv A outer s H vs Q E hr h => ?_)
 ·obtain ⟨p, m, rfl, _⟩ := h
  rfl
 ·obtain ⟨p, m, rfl, st, hm, hm2, q⟩ := h
  refine ⟨_, Zh (W1 (i := 2) (j := 3) (k := 4) rfl scDrawB.nd rfl rfl rfl rfl rfl rfl
    (Za (Zk D1 hr (Za (pv 0) (Za Zi Zc))) (Za (Zp Yt Zi (Zk D1 hr (Za (pv 0) (Za (pv 1) Zc)))) (Za (Zp Yt Zi (Zk D1 hr (Za (pv 0) (Za (pv 1) Zc)))) Zc))))
   (Zm (Zx (ZbG (ZG Wc (pv 2) Zi (nomark _)) (Zv (Za (pv 3) (Za (pv 3) Zc))) (Zv (Za (pv 3) (Za (pv 4) Zc)))))), ?_⟩
  refine ⟨_, rfl, p, 3, rfl, st, by decide, by decide, fun r1 o1 h1 h1' st1 => ?_⟩
  refine ⟨_, rfl, _, rfl, p, m, rfl, st1, hm, hm2, fun r2 o2 h2 h2' st2 => ⟨_, _, rfl, rfl, ?_⟩⟩
  refine ⟨_, rfl, _, rfl, p, m, rfl, st2, hm, hm2, fun r3 o3 h3 h3' st3 => ⟨_, _, rfl, rfl, _, _, _, rfl, ?_⟩⟩
  have sx : SameX p H (upd (upd (upd H p o1) p o2) p o3) := (SameX.upd.trans SameX.upd).trans SameX.upd
  have fin : ∀ wd hg : Int, 1 ≤ wd → wd ≤ m → 1 ≤ hg → hg ≤ m → ∀ b, upd (upd (upd H p o1) p o2) p o3 b = none → Q (.ref b) (upd (upd (upd (upd H p o1) p o2) p o3) b (.tup [.int wd, .int hg])) := fun wd hg a1 a2 a3 a4 b hb => by
   obtain ⟨u, v, e, x1, x2, x3⟩ := st3
   have hpb : p ≠ b := Zd e hb
   exact q b _ wd hg a1 a2 a3 a4 (fun c o hc hn => by rw [Zf (Zd (sx c o hc hn) hb)]; exact sx c o hc hn) ⟨u, v, by rw [Zf hpb]; exact e, x1, x2, x3⟩ Zb hpb.symm
  refine ⟨_, rfl, rfl, _, rfl, ?_⟩
  refine ite2 (fun _ => ?_) (fun _ => ?_)
  ·exact ⟨_, rfl, _, rfl, (by show 2 ≤ sizeLine; decide), fun b hb => fin (1 + r2) (1 + r2) (by omega) (by omega) (by omega) (by omega) b hb⟩
  ·exact ⟨_, rfl, _, rfl, (by show 2 ≤ sizeLine; decide), fun b hb => fin (1 + r2) (1 + r3) (by omega) (by omega) (by omega) (by omega) b hb⟩
structure IsLay (wd hg : Int) (xs : List V) : Prop where
 len : (xs.length : Int) = wd
 row : ∀ r ∈ rowsOf xs, wholeIn r 0 (hg - 1) = true
 nd : (rowsOf xs).Nodup
theorem IsLay.is {wd hg : Int} {xs : List V} (h : IsLay wd hg xs) : isLayV wd hg (some xs) = true := by
 show (decide ((xs.length : Int) = wd) && ((rowsOf xs).all fun r => wholeIn r 0 (hg - 1)) && decide (rowsOf xs).Nodup) = true
 rw [decide_eq_true h.len, decide_eq_true h.nd, List.all_eq_true.mpr h.row]
 rfl
abbrev sDrawL : Stmt := top 39
def spDrawL (K : PySem.W.Frag) : Sp := fun vs H Q _ => ∃ (p b : Addr) (wd hg : Int), vs = [.ref p, .ref b] ∧ StAt H p ∧ BoardAt H (.ref b) wd hg ∧
 ∀ (l : Addr) (H' : Hp) (xs : List V), SameX p H H' → StAt H' p → H' l = some (.tup xs) → l ≠ p → IsLay wd hg xs → Q (.ref l) H'
theorem scDrawL : FnScope ["_law_state_here", "_law_board_here", "_law_way", "_law_left", "_law_found", "_law_line", "_law_share", "_law_spot"] ["_law_state_here", "_law_board_here"] (defScope sDrawL) := ⟨rfl, rfl, rfl, by decide +kernel, rfl, by decide +kernel, by decide +kernel⟩
theorem five {v : Int} (h : 0 ≤ v) (h' : v < 5) : ∃ c : Int, atI ([V.int 4, .int 4, .int 3, .int 1, .int 0] : List V) v = some (.int c) := by
 have : v = 0 ∨ v = 1 ∨ v = 2 ∨ v = 3 ∨ v = 4 := by omega
 rcases this with rfl | rfl | rfl | rfl | rfl <;> exact ⟨_, rfl⟩
theorem ZdO {n : Nat} {i : Int} (h : 0 ≤ i) (h' : i < n) : seqIndex? i n = some i.toNat := by
 have e : ixN n i = some i.toNat := by unfold ixN; rw [if_pos h, if_pos h']
 exact (Ud e).1
theorem ZZ (xs : List V) (y : V) : rowsOf (xs ++ [y]) = rowsOf xs ++ (if (!decide (y = V.non)) = true then [y] else []) := by
 unfold rowsOf
 rw [List.filter_append]
 cases hh : (!decide (y = V.non)) <;> simp [hh]
theorem J8 : ∀ (l : List V) (k : Nat) (h : k < l.length), (l[k] :: l.eraseIdx k).Perm l
 | x :: l, 0, _ => .refl _
 | x :: l, k + 1, h => by
  have h' : k < l.length := by simpa using h
  show (l[k] :: x :: l.eraseIdx k).Perm (x :: l)
  exact (List.Perm.swap x l[k] _).trans (List.Perm.cons x (J8 l k h'))
theorem ZbW {f : Addr} {fd : FuncData} (F : Fun K "_law_lay" "_law_lay" sDrawL f fd) (G : Gs mg) (D1 : Def P w K mg base 1 "_law_take" ["_law_state_here", "_law_many"] spTake) : FnOk P w K mg base CX0 2 f fd ["_law_state_here", "_law_board_here"] (spDrawL K) := by
 refine F.ok scDrawL (fun vs H Q E h => ?_) (fun cdv A outer s H vs Q E hr h => ?_)
 ·obtain ⟨p, b, wd, hg, rfl, _⟩ := h
  rfl
 ·obtain ⟨p, b, wd, hg, rfl, st, bd, q⟩ := h
  refine ⟨_, Zh (W1 (i := 2) (j := 3) (k := 4) rfl scDrawL.nd rfl rfl rfl rfl rfl rfl
    (Za (Zk D1 hr (Za (pv 0) (Za Zi Zc))) (Za (Yz WB rfl G.list boot_list (Za (Yz UT rfl G.range boot_range (Za (ZP Yu (pv 1) Zi (fun _ _ => rfl)) Zc)) Zc)) (Za (ZD Zc) Zc))))
   (Zh (Yi PassesOwn.never rfl (Z0 rfl G.range (Za (ZP Yu (pv 1) Zi (fun _ _ => rfl)) Zc)) (Zz (i := 5) scDrawL.nd rfl (Or.inl rfl))
    (Zh (ZbB (i := 6) (j := 7) rfl scDrawL.nd rfl rfl (by decide) rfl rfl (Za (Zk D1 hr (Za (pv 0) (Za Zi Zc))) (Za (Zk D1 hr (Za (pv 0) (Za Zi Zc))) Zc)) rfl)
    (Zm (ZS (PW.pt (Ut (ZG (Zdv hr.units0) (pv 3) (ZD Zc) (nomark _)) (JZ (ZG Zdh (pv 6) (ZP ZM (ZD (Za Zi (Za Zi (Za Zi (Za Zi (Za Zi Zc)))))) (pv 2) (fun _ _ => rfl)) (nomark _)))))
     (Zm (Ya (Wa PySem.F.plainAttrs_list PySem.F.slot_list_append PySem.F.type_list_append YA (pv 4) (Za Ys Zc))))
     (Zm (Ya (Wa PySem.F.plainAttrs_list PySem.F.slot_list_append PySem.F.type_list_append YA (pv 4)
      (Za (Wa PySem.F.plainAttrs_list PySem.F.slot_list_pop PySem.F.type_list_pop Zb0 (pv 3) (Za (Zp Yk (pv 7) (Zj Zr rfl G.len boot_len (Za (pv 3) Zc))) Zc)) Zc))))))))
   (Zm (Zx (Yz Wz rfl G.tuple boot_tuple (Za (pv 4) Zc))))), ?_⟩
  obtain ⟨a, e, hb⟩ := ZF bd.1
  cases e
  obtain ⟨_, w1, w2, g1, g2⟩ := id bd
  obtain ⟨u0, v0, e0, _⟩ := id st
  have hbp : b ≠ p := Yl hb e0 (by intro z; cases z)
  refine ⟨_, rfl, p, 5, rfl, st, by decide, by decide, fun way o1 h1 h1' st1 => ?_⟩
  have x1 : SameX p H (upd H p o1) := SameX.upd
  have hb1 := x1 _ _ hb hbp
  refine ⟨_, rfl, b, _, _, _, rfl, rfl, SqT.of hb1, at1, hg, rfl, fun q1 hq1 => ⟨q1, hg, rfl, Zb, by omega, by omega, fun L hL => ⟨Nat.zero_le _, fun M hM => ⟨_, _, _, rfl, ?_⟩⟩⟩⟩
  generalize hH0 : upd (upd (upd (upd H p o1) q1 (.rng 0 hg)) L (.lst (L2.upTo hg.toNat))) M (.lst []) = H0
  have sA : Same (upd H p o1) (upd (upd H p o1) q1 (.rng 0 hg)) := fun c o hc => by rw [Zf (Zd hc hq1)]; exact hc
  have sB : Same (upd (upd H p o1) q1 (.rng 0 hg)) (upd (upd (upd H p o1) q1 (.rng 0 hg)) L (.lst (L2.upTo hg.toNat))) := fun c o hc => by rw [Zf (Zd hc hL)]; exact hc
  have sC : Same (upd (upd (upd H p o1) q1 (.rng 0 hg)) L (.lst (L2.upTo hg.toNat))) H0 := fun c o hc => by rw [← hH0, Zf (Zd hc hM)]; exact hc
  have s0 : Same (upd H p o1) H0 := sA.trans (sB.trans sC)
  have hM0 : H0 M = some (.lst []) := by rw [← hH0]; exact Zb
  have hL0 : H0 L = some (.lst (L2.upTo hg.toNat)) := sC _ _ Zb
  obtain ⟨u1, v1, e1, y1, y2, y3⟩ := id st1
  have st0 : StAt H0 p := ⟨u1, v1, s0 _ _ e1, y1, y2, y3⟩
  have e1' := s0 _ _ e1
  have hLM : L ≠ M := Zd (by exact Zb) hM
  have hpL : p ≠ L := Zd (sA _ _ e1) hL
  have hpM : p ≠ M := Zd (sB _ _ (sA _ _ e1)) hM
  have hb0 : H0 b = some (.tup [.int wd, .int hg]) := s0 _ _ hb1
  have xt : ∀ H2, (∀ c o, H0 c = some o → c ≠ p → c ≠ L → c ≠ M → H2 c = some o) → SameX p H H2 := fun H2 k c o hc hn => by
   have c1 := x1 c o hc hn
   exact k c o (s0 _ _ c1) hn (Zd (sA _ _ c1) hL) (Zd (sB _ _ (sA _ _ c1)) hM)
  refine ⟨_, rfl, b, _, _, _, rfl, rfl, SqT.of hb0, at0, wd, rfl, by omega, by omega, ?_⟩
  refine Yg (n := wd.toNat) (fun i σ H2 => ∃ (ls fs : List V) (x5 x6 x7 : Option V), σ = [some (.ref p), some (.ref b), some (.int way), some (.ref L), some (.ref M), x5, x6, x7] ∧
    (∀ c o, H0 c = some o → c ≠ p → c ≠ L → c ≠ M → H2 c = some o) ∧ StAt H2 p ∧ H2 L = some (.lst ls) ∧ H2 M = some (.lst fs) ∧ fs.length = i ∧ (∀ r ∈ rowsOf fs ++ ls, wholeIn r 0 (hg - 1) = true) ∧ (rowsOf fs ++ ls).Nodup)
   ⟨L2.upTo hg.toNat, [], none, none, none, rfl, fun c o hc _ _ _ => hc, st0, hL0, hM0, rfl, ?_, ?_⟩ ?_ ?_
  ·intro r hr'
   have hr2 : r ∈ L2.upTo hg.toNat := hr'
   unfold L2.upTo at hr2
   obtain ⟨j, hj, rfl⟩ := List.mem_map.mp hr2
   have := List.mem_range.mp hj
   show (decide ((0 : Int) ≤ (j : Int)) && decide ((j : Int) ≤ hg - 1)) = true
   rw [decide_eq_true (by omega), decide_eq_true (by omega)]
   rfl
  ·show (L2.upTo hg.toNat).Nodup
   unfold L2.upTo
   have e : ((List.range hg.toNat).map fun (i : Nat) => V.int (i : Int)) = (((List.range hg.toNat).map fun (i : Nat) => (i : Int))).map V.int := by rw [List.map_map]; rfl
   rw [e, WJ]
   exact List.Pairwise.map _ (fun x y h z => h (by omega)) List.nodup_range
  ·rintro i σ H2 hi ⟨ls, fs, x5, x6, x7, rfl, k2, st2, hl2, hm2, hfs, hrow, hnd⟩
   refine ⟨_, rfl, p, 4, rfl, st2, by decide, by decide, fun sh o3 _ _ st3 => ?_⟩
   refine ⟨_, rfl, p, 12, rfl, st3, by decide, by decide, fun sp o4 hs1 hs2 st4 => ⟨_, _, rfl, ?_⟩⟩
   generalize hH4 : upd (upd H2 p o3) p o4 = H4 at st4
   have x4 : SameX p H2 H4 := by rw [← hH4]; exact SameX.upd.trans SameX.upd
   have hl4 := x4 _ _ hl2 hpL.symm
   have hm4 := x4 _ _ hm2 hpM.symm
   have k4 : ∀ c o, H0 c = some o → c ≠ p → c ≠ L → c ≠ M → H4 c = some o := fun c o hc a1 a2 a3 => x4 c o (k2 c o hc a1 a2 a3) a1
   have hlen : fs.length < sizeLine := by rw [sizeLine_eq]; omega
   refine ⟨_, rfl, Nat.zero_le _, fun q2 hq2 => ⟨L, q2, ls, rfl, rfl, ?_, SqL.of Zb, _, rfl, ?_⟩⟩
   ·exact SqL.of (by rw [Zf (Zd hl4 hq2)]; exact hl4)
   have sD : Same H4 (upd H4 q2 (.lst [])) := fun c o hc => by rw [Zf (Zd hc hq2)]; exact hc
   generalize hH5 : upd H4 q2 (HO.lst []) = H5 at sD
   obtain ⟨u4, v4, e4, z1, z2, z3⟩ := id st4
   have keep : ∀ H6, Same H4 H6 → (∀ c o, H0 c = some o → c ≠ p → c ≠ L → c ≠ M → H6 c = some o) ∧ StAt H6 p := fun H6 s6 => ⟨fun c o hc a1 a2 a3 => s6 _ _ (k4 c o hc a1 a2 a3), u4, v4, s6 _ _ e4, z1, z2, z3⟩
   have addN : ∀ H6, Same H4 H6 → tBM K "list" rAppend (tVar 4) (tCons (tC .non) tNil) [some (.ref p), some (.ref b), some (.int way), some (.ref L), some (.ref M), some (.int (0 + (i : Int))), some (.int sh), some (.int sp)] H6 (fun _ H7 => ∃ (ls fs : List V) (x5 x6 x7 : Option V), ([some (.ref p), some (.ref b), some (.int way), some (.ref L), some (.ref M), some (.int (0 + (i : Int))), some (.int sh), some (.int sp)]   : L2.St) = [some (.ref p), some (.ref b), some (.int way), some (.ref L), some (.ref M), x5, x6, x7] ∧
     (∀ c o, H0 c = some o → c ≠ p → c ≠ L → c ≠ M → H7 c = some o) ∧ StAt H7 p ∧ H7 L = some (.lst ls) ∧ H7 M = some (.lst fs) ∧ fs.length = i + 1 ∧ (∀ r ∈ rowsOf fs ++ ls, wholeIn r 0 (hg - 1) = true) ∧ (rowsOf fs ++ ls).Nodup) := fun H6 s6 => by
    obtain ⟨k6, t6⟩ := keep H6 s6
    have hm6 := s6 _ _ hm4
    have hl6 := s6 _ _ hl4
    refine ⟨_, rfl, .inl ⟨rfl, _, SqL.of hm6⟩, M, fs, .non, rfl, rfl, hm6, hlen, ls, fs ++ [.non], _, _, _, rfl, fun c o hc a1 a2 a3 => by rw [Zf a3]; exact k6 c o hc a1 a2 a3, ?_, by rw [Zf hLM]; exact hl6, Zb, by rw [List.length_append, hfs]; rfl, ?_, ?_⟩
    ·obtain ⟨u, v, e, r⟩ := t6
     exact ⟨u, v, by rw [Zf hpM]; exact e, r⟩
    ·rw [ZZ]; simpa using hrow
    ·rw [ZZ]; simpa using hnd
   cases hemp : ls.isEmpty with
   | true => exact iteT (iteT (addN H5 sD))
   | false =>
    refine iteF ?_
    have hne : ls ≠ [] := fun z => by rw [z] at hemp; cases hemp
    have hpos : 0 < ls.length := List.length_pos_iff.mpr hne
    refine ⟨_, rfl, (by show 5 ≤ sizeLine; decide), fun q3 hq3 => ?_⟩
    obtain ⟨c5, hc5⟩ := five h1 h1'
    have sE : Same H5 (upd H5 q3 (.lst [.int 4, .int 4, .int 3, .int 1, .int 0])) := fun c o hc => by rw [Zf (Zd hc hq3)]; exact hc
    refine ⟨_, rfl, q3, _, _, _, rfl, rfl, SqL.of Zb, hc5, _, _, rfl, rfl, _, rfl, ?_⟩
    generalize hH6 : upd H5 q3 (HO.lst [V.int 4, .int 4, .int 3, .int 1, .int 0]) = H6 at sE
    have s6 := sD.trans sE
    refine ite2 (fun _ => addN H6 s6) (fun _ => ?_)
    obtain ⟨k6, t6⟩ := keep H6 s6
    have hm6 := s6 _ _ hm4
    have hl6 := s6 _ _ hl4
    have m1 : 0 ≤ sp % (ls.length : Int) := Int.emod_nonneg _ (by omega)
    have m2 : sp % (ls.length : Int) < ls.length := Int.emod_lt_of_pos _ (by omega)
    have m3 : (sp % (ls.length : Int)).toNat < ls.length := by omega
    have m4 : sp % (ls.length : Int) < 2 ^ 63 := by
     by_cases hh : sp < (ls.length : Int)
     ·rw [Int.emod_eq_of_lt hs1 hh]; omega
     ·omega
    refine ⟨_, rfl, .inl ⟨rfl, _, SqL.of hm6⟩, _, rfl, .inl ⟨rfl, _, SqL.of hl6⟩, _, rfl, _, rfl, L, ls, rfl, .inl (SqL.of hl6), _, _, rfl, rfl, (by show (0 : Int) < (ls.length : Int); omega), L, ls, _, _, _, rfl, rfl, hl6, by omega, m4, ZdO m1 m2, List.getElem?_eq_getElem m3, ?_⟩
    generalize hk : (sp % (ls.length : Int)).toNat = k at m3
    have hm7 : upd H6 L (.lst (ls.eraseIdx k)) M = some (.lst fs) := by rw [Zf hLM.symm]; exact hm6
    have my : ls[k] ∈ ls := List.getElem_mem m3
    have wy : wholeIn ls[k] 0 (hg - 1) = true := hrow _ (List.mem_append_right _ my)
    have ny : (!decide (ls[k] = V.non)) = true := by
     cases e : ls[k] with
     | non => rw [e] at wy; cases wy
     | _ => rfl
    have pm : (rowsOf fs ++ [ls[k]] ++ ls.eraseIdx k).Perm (rowsOf fs ++ ls) := by
     rw [List.append_assoc]
     exact List.Perm.append_left _ (J8 ls k m3)
    refine ⟨M, fs, _, rfl, rfl, hm7, hlen, ls.eraseIdx k, fs ++ [ls[k]], _, _, _, rfl, fun c o hc a1 a2 a3 => by rw [Zf a3, Zf a2]; exact k6 c o hc a1 a2 a3, ?_, by rw [Zf hLM, Zb], Zb, by rw [List.length_append, hfs]; rfl, ?_, ?_⟩
    ·obtain ⟨u, v, e, r⟩ := t6
     exact ⟨u, v, by rw [Zf hpM, Zf hpL]; exact e, r⟩
    ·rw [ZZ, if_pos ny]
     intro r hr'
     exact hrow r (pm.mem_iff.mp hr')
    ·rw [ZZ, if_pos ny]
     exact pm.nodup_iff.mpr hnd
  ·rintro σ H2 ⟨ls, fs, x5, x6, x7, rfl, k2, st2, hl2, hm2, hfs, hrow, hnd⟩
   refine ⟨_, rfl, M, fs, rfl, .inl ⟨SqL.of hm2, fun l hl => ?_⟩⟩
   obtain ⟨u, v, e, r⟩ := id st2
   have hpl : p ≠ l := Zd e hl
   refine q l _ fs (fun c o hc hn => ?_) ⟨u, v, by rw [Zf hpl]; exact e, r⟩ Zb hpl.symm ⟨by omega, fun r hr' => hrow r (List.mem_append_left _ hr'), (List.nodup_append.mp hnd).1⟩
   have := xt H2 k2 c o hc hn
   rw [Zf (Zd this hl)]
   exact this
end
end U
set_option Elab.async false
set_option linter.all false
set_option maxRecDepth 100000
namespace U
open PySem L2 PyProof.Rows
def rowV : V → Option Int
 | .int r => some r
 | _ => none
def rowAt (xs : List V) (i : Nat) : Option Int := xs[i]?.bind rowV
abbrev Step4 := Int × Int × Int × Int
def stepOf (xs : List V) (o l : Nat) : Option Step4 := (rowAt xs l).bind fun a => (rowAt xs o).map fun b => ((o : Int) - l, b - a, (l : Int), (o : Int))
def stepsTo (xs : List V) (o j : Nat) : List Step4 := (List.range j).filterMap (stepOf xs o)
def lawSteps (xs : List V) (n : Nat) : List Step4 := (List.range n).flatMap fun o => stepsTo xs o o
theorem Jb (xs : List V) (o j : Nat) : stepsTo xs o (j + 1) = stepsTo xs o j ++ (stepOf xs o j).toList := by
 unfold stepsTo
 rw [List.range_succ, List.filterMap_append]
 cases h : stepOf xs o j <;> simp [h]
theorem ZW (xs : List V) (n : Nat) : lawSteps xs (n + 1) = lawSteps xs n ++ stepsTo xs n n := by
 unfold lawSteps
 rw [List.range_succ, List.flatMap_append]
 simp
def StepAt (H : Hp) (v : V) (q : Step4) : Prop := ∃ t t' : Addr, v = .ref t ∧ H t = some (.tup [.ref t', .int q.2.2.1, .int q.2.2.2]) ∧ H t' = some (.tup [.int q.1, .int q.2.1])
theorem StepAt.x {M : Addr} {H H' : Hp} {v : V} {q : Step4} (h : StepAt H v q) {ms : List V} (hM : H M = some (.lst ms)) (s : SameX M H H') : StepAt H' v q := by
 obtain ⟨t, t', e, h1, h2⟩ := h
 exact ⟨t, t', e, s _ _ h1 (Yl h1 hM (by intro z; cases z)), s _ _ h2 (Yl h2 hM (by intro z; cases z))⟩
def RowsOk (xs : List V) : Prop := ∀ x ∈ xs, x = .non ∨ ∃ i, x = .int i
theorem IsLay.ok {wd hg : Int} {xs : List V} (h : IsLay wd hg xs) : RowsOk xs := fun x hx => by
 by_cases e : x = .non
 ·exact .inl e
 ·have m : x ∈ rowsOf xs := List.mem_filter.mpr ⟨hx, by simp [e]⟩
  have q := h.row x m
  cases x with
  | int i => exact .inr ⟨i, rfl⟩
  | _ => cases q
section
variable {P : Program} {w : World} {K : PySem.W.Frag} {mg : Str → Option Value} {base : Heap}
abbrev sLSteps : Stmt := top 40
def spLSteps (K : PySem.W.Frag) : Sp := fun vs H Q _ => ∃ (a : Addr) (xs : List V), vs = [.ref a] ∧ SqT K H a xs ∧ H a = some (.tup xs) ∧ RowsOk xs ∧ xs.length ≤ 12 ∧
 ∀ (l : Addr) (H' : Hp) (rs : List V), Same H H' → H l = none → H' l = some (.lst rs) → Paired (StepAt H') rs (lawSteps xs xs.length) → Q (.ref l) H'
theorem scLSteps : FnScope ["_law_lay_here", "_law_found", "_law_other", "_law_line"] ["_law_lay_here"] (defScope sLSteps) := ⟨rfl, rfl, rfl, by decide +kernel, rfl, by decide +kernel, by decide +kernel⟩
theorem Za3 {f : Addr} {fd : FuncData} (F : Fun K "_law_steps" "_law_steps" sLSteps f fd) (G : Gs mg) : FnOk P w K mg base CX0 1 f fd ["_law_lay_here"] (spLSteps K) := by
 refine F.ok scLSteps (fun vs H Q E h => ?_) (fun cdv A outer s H vs Q E hr h => ?_)
 ·obtain ⟨a, xs, rfl, _⟩ := h
  rfl
 ·obtain ⟨a, xs, rfl, _, ha, hrow, hlen, q⟩ := h
  refine ⟨_, Zh (Zs (i := 1) scLSteps.nd rfl (Or.inl rfl) (ZD Zc))
   (Zh (Yi PassesOwn.never rfl (Z0 rfl G.range (Za (Zj Zr rfl G.len boot_len (Za (pv 0) Zc)) Zc)) (Zz (i := 2) scLSteps.nd rfl (Or.inl rfl))
    (Zm (Yi PassesOwn.never rfl (Z0 rfl G.range (Za (pv 2) Zc)) (Zz (i := 3) scLSteps.nd rfl (Or.inl rfl))
     (Zm (ZS (PW.pt (J5 (Y5 (Jd (ZP Yu (pv 0) (pv 3) (fun _ _ => rfl)))) (JK (Y5 (Jd (ZP Yu (pv 0) (pv 2) (fun _ _ => rfl)))))))
      (Zm (Ya (Wa PySem.F.plainAttrs_list PySem.F.slot_list_append PySem.F.type_list_append YA (pv 1)
       (Za (Zv (Za (Zv (Za (Zp YI (pv 2) (pv 3)) (Za (Zp YI (ZP Yu (pv 0) (pv 2) (fun _ _ => rfl)) (ZP Yu (pv 0) (pv 3) (fun _ _ => rfl))) Zc))) (Za (pv 3) (Za (pv 2) Zc)))) Zc)))) ZC)))))
   (Zm (Zx (pv 1)))), ?_⟩
  refine ⟨Nat.zero_le _, fun M hM => ?_⟩
  have s0 : Same H (upd H M (.lst [])) := fun c o hc => by rw [Zf (Zd hc hM)]; exact hc
  refine ⟨_, rfl, a, xs, rfl, .inr (SqT.of (s0 _ _ ha)), (xs.length : Int), rfl, by omega, by omega, ?_⟩
  refine Yg (n := ((xs.length : Int)).toNat) (fun i σ H2 => ∃ (rs : List V) (x2 x3 : Option V), σ = [some (.ref a), some (.ref M), x2, x3] ∧ Same H H2 ∧ H2 M = some (.lst rs) ∧ Paired (StepAt H2) rs (lawSteps xs i) ∧ rs.length ≤ i * 12)
   ⟨[], none, none, rfl, s0, Zb, .nil, Nat.zero_le _⟩ ?_ ?_
  ·rintro i σ H2 hi ⟨rs, x2, x3, rfl, s2, hm2, pr2, hl2⟩
   have hi' : i < xs.length := by omega
   refine ⟨_, rfl, (0 + (i : Int)), rfl, by omega, by omega, ?_⟩
   refine Yg (n := ((0 : Int) + (i : Int)).toNat) (fun j σ H3 => ∃ (rs : List V) (x3 : Option V), σ = [some (.ref a), some (.ref M), some (.int (i : Int)), x3] ∧ Same H H3 ∧ H3 M = some (.lst rs) ∧ Paired (StepAt H3) rs (lawSteps xs i ++ stepsTo xs i j) ∧ rs.length ≤ i * 12 + j)
    ⟨rs, x3, by rw [Int.zero_add]; rfl, s2, hm2, by simpa [stepsTo] using pr2, hl2⟩ ?_ ?_
   ·rintro j σ H3 hj ⟨rs, x3, rfl, s3, hm3, pr3, hl3⟩
    have hj' : j < i := by omega
    have ha3 := s3 _ _ ha
    have hjl : j < xs.length := by omega
    have ej : atI xs (0 + (j : Int)) = some xs[j] := by rw [Int.zero_add]; exact ZY (List.getElem?_eq_getElem hjl)
    have ei : atI xs (i : Int) = some xs[i] := ZY (List.getElem?_eq_getElem hi')
    have rj : rowAt xs j = rowV xs[j] := by unfold rowAt; rw [List.getElem?_eq_getElem hjl]; rfl
    have ri : rowAt xs i = rowV xs[i] := by unfold rowAt; rw [List.getElem?_eq_getElem hi']; rfl
    refine ⟨_, rfl, _, rfl, a, xs, _, _, rfl, rfl, SqT.of ha3, ej, _, rfl, ?_⟩
    have skip : stepOf xs i j = none → ∃ (rs' : List V) (x3 : Option V), ([some (.ref a), some (.ref M), some (.int (i : Int)), some (.int (0 + (j : Int)))] : L2.St) = [some (.ref a), some (.ref M), some (.int (i : Int)), x3] ∧ Same H H3 ∧ H3 M = some (.lst rs') ∧ Paired (StepAt H3) rs' (lawSteps xs i ++ stepsTo xs i (j + 1)) ∧ rs'.length ≤ i * 12 + (j + 1) := fun e => by
     refine ⟨rs, _, rfl, s3, hm3, ?_, by omega⟩
     rw [Jb, e]
     simpa using pr3
    rcases hrow xs[j] (List.getElem_mem hjl) with nj | ⟨vj, nj⟩
    ·rw [nj]
     exact iteF (iteF (skip (by unfold stepOf; rw [rj, nj]; rfl)))
    ·rw [nj]
     refine iteT ?_
     refine ⟨_, rfl, _, rfl, a, xs, _, _, rfl, rfl, SqT.of ha3, ei, _, rfl, ?_⟩
     rcases hrow xs[i] (List.getElem_mem hi') with ni | ⟨vi, ni⟩
     ·rw [ni]
      exact iteF (skip (by unfold stepOf; rw [rj, ri, nj, ni]; rfl))
     ·rw [ni]
      refine iteT ?_
      refine ⟨_, rfl, .inl ⟨rfl, _, SqL.of hm3⟩, _, rfl, _, rfl, _, _, rfl, rfl, _, rfl, _, rfl, a, xs, _, _, rfl, rfl, SqT.of ha3, ei, _, rfl, _, rfl, a, xs, _, _, rfl, rfl, SqT.of ha3, ej, vi, vj, by rw [ni], by rw [nj], (by show 2 ≤ sizeLine; decide), fun t' ht' => ?_⟩
      refine ⟨_, rfl, _, rfl, (by show 3 ≤ sizeLine; decide), fun t ht => ?_⟩
      generalize hH4 : upd H3 t' (HO.tup [V.int ((i : Int) - (0 + (j : Int))), V.int (vi - vj)]) = H4 at ht
      have s4 : Same H3 H4 := fun c o hc => by rw [← hH4, Zf (Zd hc ht')]; exact hc
      have ht4 : H4 t' = some (.tup [V.int ((i : Int) - (0 + (j : Int))), V.int (vi - vj)]) := by rw [← hH4]; exact Zb
      generalize hH5 : upd H4 t (HO.tup [V.ref t', V.int (0 + (j : Int)), V.int (i : Int)]) = H5
      have s5 : Same H4 H5 := fun c o hc => by rw [← hH5, Zf (Zd hc ht)]; exact hc
      have ht5 : H5 t = some (.tup [V.ref t', V.int (0 + (j : Int)), V.int (i : Int)]) := by rw [← hH5]; exact Zb
      have hm5 := s5 _ _ (s4 _ _ hm3)
      have sX : SameX M H3 (upd H5 M (.lst (rs ++ [.ref t]))) := (s4.trans s5).x.trans SameX.upd
      have hlz : rs.length < sizeLine := by rw [sizeLine_eq]; omega
      refine ⟨M, rs, _, rfl, rfl, hm5, hlz, rs ++ [.ref t], _, rfl, ?_, Zb, ?_, by rw [List.length_append]; simp; omega⟩
      ·intro c o hc
       have h3 := s3 _ _ hc
       exact sX c o h3 (Zd hc hM)
      ·rw [Jb, ← List.append_assoc]
       have es : stepOf xs i j = some ((i : Int) - j, vi - vj, (j : Int), (i : Int)) := by unfold stepOf; rw [rj, ri, nj, ni]; rfl
       rw [es]
       refine Paired.snoc (Paired.mapP pr3 fun v q' hq => hq.x hm3 sX) ⟨t, t', rfl, ?_, ?_⟩
       ·rw [Zf (Yl ht5 hm5 (by intro z; cases z)), ht5, Int.zero_add]
       ·have := s5 _ _ ht4
        rw [Zf (Yl this hm5 (by intro z; cases z)), this, Int.zero_add]
   ·rintro σ H3 ⟨rs, x3, rfl, s3, hm3, pr3, hl3⟩
    have ei : ((0 : Int) + (i : Int)).toNat = i := by omega
    rw [ei] at pr3 hl3
    refine ⟨rs, _, _, rfl, s3, hm3, ?_, by omega⟩
    rw [ZW]
    exact pr3
  ·rintro σ H2 ⟨rs, x2, x3, rfl, s2, hm2, pr2, hl2⟩
   have e : ((xs.length : Int)).toNat = xs.length := by omega
   rw [e] at pr2
   exact ⟨_, rfl, q M H2 rs s2 hM hm2 pr2⟩
end
end U
set_option Elab.async false
set_option linter.all false
set_option maxRecDepth 100000
namespace U
open PySem L2 PyProof.Rows
def keyOf (q : Step4) : List Key := [Sum.inl q.1, Sum.inl q.2.1]
def unlikeB (xs : List V) : Bool := decide ((lawSteps xs xs.length).map keyOf).Nodup
theorem Jk (xs : List V) : ∀ n, (lawSteps xs n).length ≤ n * n
 | 0 => Nat.zero_le _
 | n + 1 => by
  have ih := Jk xs n
  have h2 : (stepsTo xs n n).length ≤ n := by
   have := List.length_filterMap_le (stepOf xs n) (List.range n)
   rw [List.length_range] at this
   exact this
  rw [ZW, List.length_append, Nat.add_mul, Nat.mul_add]
  omega
theorem Ym (xs : List V) (h : xs.length ≤ 12) : (lawSteps xs xs.length).length ≤ 144 := Nat.le_trans (Jk xs _) (Nat.mul_le_mul h h)
section
variable {P : Program} {w : World} {K : PySem.W.Frag} {mg : Str → Option Value} {base : Heap}
abbrev sLUnlike : Stmt := top 41
def spLUnlike : Sp := fun vs H Q _ => ∃ (a : Addr) (xs : List V), vs = [.ref a] ∧ H a = some (.tup xs) ∧ RowsOk xs ∧ xs.length ≤ 12 ∧ ∀ H', Same H H' → Q (.bl (unlikeB xs)) H'
theorem scLUnlike : FnScope ["_law_lay_here", "_law_met", "_law_step", "_law_line", "_law_other"] ["_law_lay_here"] (defScope sLUnlike) := ⟨rfl, rfl, rfl, by decide +kernel, rfl, by decide +kernel, by decide +kernel⟩
theorem Paired.at {α β : Type} {F : α → β → Prop} : ∀ {l₁ : List α} {l₂ : List β} {i : Nat} {a : α}, Paired F l₁ l₂ → l₁[i]? = some a → ∃ b, l₂[i]? = some b ∧ F a b
 | _, _, _, _, .nil, e => by simp at e
 | _, _, 0, _, .cons r _, e => by simp at e; subst e; exact ⟨_, rfl, r⟩
 | _, _, i + 1, a, .cons _ t, e => by
  obtain ⟨u, h1, h2⟩ := Paired.at (i := i) (a := a) t (by simpa using e)
  exact ⟨u, by simpa using h1, h2⟩
theorem Zab {f : Addr} {fd : FuncData} (F : Fun K "_law_unlike" "_law_unlike" sLUnlike f fd) (D1 : Def P w K mg base 1 "_law_steps" ["_law_lay_here"] (spLSteps K)) : FnOk P w K mg base CX0 2 f fd ["_law_lay_here"] spLUnlike := by
 refine F.ok scLUnlike (fun vs H Q E h => ?_) (fun cdv A outer s H vs Q E hr h => ?_)
 ·obtain ⟨a, xs, rfl, _⟩ := h
  rfl
 ·obtain ⟨a, xs, rfl, ha, hrow, hlen, q⟩ := h
  have hu := Zcc hr
  refine ⟨_, Zh (Zs (i := 1) scLUnlike.nd rfl (Or.inl rfl) ZbH)
   (Zh (Yi PassesOwn.never rfl (ZX (Zk D1 hr (Za (pv 0) Zc))) (ZT rfl (Zn (Zz (i := 2) scLUnlike.nd rfl (Or.inl rfl)) (Zn (Zz (i := 3) scLUnlike.nd rfl (Or.inl rfl)) (Zn (Zz (i := 4) scLUnlike.nd rfl (Or.inl rfl)) ZK))))
    (Zh (ZS (Y5 (Zdt hu (pv 2) (pv 1))) (Zm (Zx WH)) ZC) (Zm (ZcB hu (pv 1) (pv 2) WH rfl))))
   (Zm (Zx WH))), ?_⟩
  intro d hd
  have s0 : Same H (upd H d (.dT [])) := fun c o hc => by rw [Zf (Zd hc hd)]; exact hc
  have ha0 := s0 _ _ ha
  refine ⟨_, rfl, a, xs, rfl, SqT.of ha0, ha0, hrow, hlen, fun l H1 rs s1 hl0 hl pr => ⟨l, rfl, ⟨rs, SqL.of hl⟩, ?_⟩⟩
  have hd1 : H1 d = some (.dT []) := s1 _ _ Zb
  have hld : l ≠ d := Yl hl hd1 (by intro z; cases z)
  generalize hqs : lawSteps xs xs.length = qs at pr
  have hul : unlikeB xs = decide (qs.map keyOf).Nodup := by unfold unlikeB; rw [hqs]
  rw [hul] at q
  have hlq : rs.length = qs.length := Paired.length pr
  refine YQ (K := K) (a := l) (xs := rs) (fun i σ H2 => ∃ (kvs : List (List Key × V)) (x2 x3 x4 : Option V), σ = [some (.ref a), some (.ref d), x2, x3, x4] ∧ SameX d H1 H2 ∧ H2 d = some (.dT kvs) ∧ kvs.map (·.1) = (qs.take i).map keyOf ∧ ((qs.take i).map keyOf).Nodup)
   ⟨[], none, none, none, rfl, SameX.refl _ _, hd1, rfl, List.nodup_nil⟩ (fun i σ H2 _ ⟨_, _, _, _, _, k, _⟩ => SqL.of (k _ _ hl hld)) ?_ ?_
  ·rintro i v σ H2 hv ⟨kvs, x2, x3, x4, rfl, k2, hd2, hk2, hn2⟩
   obtain ⟨qq, hq, t, t', rfl, ht, ht'⟩ := Paired.at pr hv
   have ht2 := k2 _ _ ht (Yl ht hd1 (by intro z; cases z))
   have ht2' := k2 _ _ ht' (Yl ht' hd1 (by intro z; cases z))
   have etake : (qs.take (i + 1)).map keyOf = (qs.take i).map keyOf ++ [keyOf qq] := by rw [List.take_add_one, hq, List.map_append]; rfl
   have hkt : H2 t' = some (.tup ((keyOf qq).map kV)) := ht2'
   refine ⟨t, _, rfl, SqT.of ht2, rfl, _, _, rfl, _, _, rfl, _, _, rfl, rfl, ?_⟩
   refine ⟨_, rfl, _, rfl, d, _, rfl, DGet.t hd2 hkt, _, rfl, ?_⟩
   have hsz : kvs.length < sizeLine := by
    have e1 : kvs.length = ((qs.take i).map keyOf).length := by rw [← hk2, List.length_map]
    rw [List.length_map, List.length_take] at e1
    have : i < rs.length := (List.getElem?_eq_some_iff.mp hv).1
    rw [sizeLine_eq]
    have hq144 := Ym xs hlen
    rw [hqs] at hq144
    omega
   cases e : valV kvs (keyOf qq) with
   | some z =>
    refine iteT ?_
    have m : keyOf qq ∈ (qs.take i).map keyOf := by rw [← hk2]; exact Zcx e
    have hnot : ¬ (qs.map keyOf).Nodup := fun nd => by
     have e2 : qs.map keyOf = (qs.take (i + 1)).map keyOf ++ (qs.drop (i + 1)).map keyOf := by rw [← List.map_append, List.take_append_drop]
     rw [e2, etake] at nd
     have := (List.nodup_append.mp nd).1
     exact (List.nodup_append.mp this).2.2 _ m _ (List.mem_singleton.mpr rfl) rfl
    rw [decide_eq_false hnot] at q
    exact q _ fun c o hc => k2 c o (s1 _ _ (s0 _ _ hc)) (Zd hc hd)
   | none =>
    refine iteF ?_
    refine ⟨_, rfl, _, rfl, d, _, rfl, DPut.t hd2 hkt hsz, putK kvs (keyOf qq) (.bl true), _, _, _, rfl, k2.trans SameX.upd, Zb, ?_, ?_⟩
    ·rw [Zbz _ e, List.map_append, hk2, etake]; rfl
    ·rw [etake]
     exact Ua hn2 (by rw [← hk2]; exact Zbo e)
  ·rintro σ H2 ⟨kvs, x2, x3, x4, rfl, k2, hd2, hk2, hn2⟩
   rw [hlq, List.take_length] at hn2
   rw [decide_eq_true hn2] at q
   exact q _ fun c o hc => k2 c o (s1 _ _ (s0 _ _ hc)) (Zd hc hd)
end
end U
set_option Elab.async false
set_option linter.all false
set_option maxRecDepth 100000
namespace U
open PySem L2 PyProof.Rows
def rCat0 (K : PySem.W.Frag) : R2 := fun x y H Q => ∃ a b ys, x = .ref a ∧ y = .ref b ∧ SqT K H a [] ∧ SqT K H b ys ∧ Q (.ref b) H
def rCatA (K : PySem.W.Frag) : R2 := fun x y H Q => rCat0 K x y H Q ∨ rCatT K x y H Q
theorem Yc {X : Cx} : OpR X (binaryOp .Add) (rCatA X.K) := ZbN.or ZcK
theorem ZaJ {K : PySem.W.Frag} {fa : Addr} {fs : List V} {y : V} {H : Hp} {Q : VK} {σ : L2.St} {i j : Nat} (hf : H fa = some (.tup fs)) (hl : fs.length ≤ 100) (h1 : σ[i]? = some (some (.ref fa))) (h2 : σ[j]? = some (some y))
  (q : ∀ (a' : Addr) (H' : Hp), Same H H' → H' a' = some (.tup (fs ++ [y])) → Q (.ref a') H') : tOp (rCatA K) (tVar i) (tTup (tCons (tVar j) tNil)) σ H Q := by
 refine ⟨_, h1, _, h2, (by show 1 ≤ sizeLine; decide), fun t ht => ?_⟩
 have s1 : Same H (upd H t (.tup [y])) := fun c o hc => by rw [Zf (Zd hc ht)]; exact hc
 have hf1 := s1 _ _ hf
 cases fs with
 | nil => exact .inl ⟨fa, t, [y], rfl, rfl, SqT.of hf1, SqT.of Zb, q t _ s1 Zb⟩
 | cons x r =>
  refine .inr ⟨fa, t, x :: r, [y], rfl, rfl, SqT.of hf1, SqT.of Zb, (by simp), (by rw [sizeLine_eq]; simp at hl ⊢; omega), (fun e => by cases e), fun _ p hp => ?_⟩
  exact q p _ (s1.trans fun c o hc => by rw [Zf (Zd hc hp)]; exact hc) Zb
theorem ZaM (n : Nat) : L2.upTo (n + 1) = L2.upTo n ++ [.int (n : Int)] := by
 unfold L2.upTo
 rw [List.range_succ, List.map_append]
 rfl
theorem Zb2 {n : Nat} {x : V} (h : x ∈ L2.upTo n) : ∃ j : Nat, j < n ∧ x = .int (j : Int) := by
 unfold L2.upTo at h
 obtain ⟨j, hj, e⟩ := List.mem_map.mp h
 exact ⟨j, List.mem_range.mp hj, e.symm⟩
theorem JY {fs : List V} {y : V} {i : Nat} (h : i < fs.length) : rowAt (fs ++ [y]) i = rowAt fs i := by
 unfold rowAt
 rw [List.getElem?_append_left h]
theorem UK {α β : Type} {f g : α → Option β} : ∀ {l : List α}, (∀ x ∈ l, f x = g x) → l.filterMap f = l.filterMap g
 | [], _ => rfl
 | a :: l, h => by
  rw [List.filterMap_cons, List.filterMap_cons, h a List.mem_cons_self, UK fun x hx => h x (List.mem_cons_of_mem _ hx)]
theorem Y3 {fs : List V} {y : V} : ∀ n, n ≤ fs.length → lawSteps (fs ++ [y]) n = lawSteps fs n
 | 0, _ => rfl
 | n + 1, h => by
  rw [ZW, ZW, Y3 n (by omega)]
  congr 1
  unfold stepsTo
  refine UK fun j hj => ?_
  have := List.mem_range.mp hj
  unfold stepOf
  rw [JY (by omega), JY (by omega)]
theorem Uo {fs : List V} (h : unlikeB fs = true) : unlikeB (fs ++ [.non]) = true := by
 unfold unlikeB at h ⊢
 have e : (fs ++ [V.non]).length = fs.length + 1 := by simp
 rw [e, ZW, Y3 _ (Nat.le_refl _)]
 have e2 : stepsTo (fs ++ [V.non]) fs.length fs.length = [] := by
  unfold stepsTo
  rw [List.filterMap_eq_nil_iff]
  intro j _
  unfold stepOf
  have e3 : rowAt (fs ++ [V.non]) fs.length = none := by unfold rowAt; simp; rfl
  rw [e3]
  cases rowAt (fs ++ [V.non]) j <;> rfl
 rw [e2, List.append_nil]
 exact h
theorem ZbZ {j : Int} {fs : List V} (h : (!inV (.int j) fs) = true) : V.int j ∉ fs := fun m => by
 have : inV (.int j) fs = true := List.any_eq_true.mpr ⟨_, m, by show (j == j) = true; simp⟩
 rw [this] at h
 cases h
theorem three {v : Int} (h : 0 ≤ v) (h' : v < 3) : ∃ c : Int, atI ([V.int 0, .int 1, .int 3] : List V) v = some (.int c) := by
 have : v = 0 ∨ v = 1 ∨ v = 2 := by omega
 rcases this with rfl | rfl | rfl <;> exact ⟨_, rfl⟩
section
variable {P : Program} {w : World} {K : PySem.W.Frag} {mg : Str → Option Value} {base : Heap}
abbrev sGrown : Stmt := top 42
def spGrown (K : PySem.W.Frag) : Sp := fun vs H Q _ => ∃ (p b : Addr) (wd hg : Int), vs = [.ref p, .ref b] ∧ StAt H p ∧ BoardAt H (.ref b) wd hg ∧
 ∀ (l : Addr) (H' : Hp) (xs : List V), SameX p H H' → StAt H' p → H' l = some (.tup xs) → l ≠ p → IsLay wd hg xs → unlikeB xs = true → Q (.ref l) H'
theorem scGrown : FnScope ["_law_state_here", "_law_board_here", "_law_way", "_law_found", "_law_line", "_law_share", "_law_spot", "_law_left", "_law_some", "_law_row"] ["_law_state_here", "_law_board_here"] (defScope sGrown) := ⟨rfl, rfl, rfl, by decide +kernel, rfl, by decide +kernel, by decide +kernel⟩
theorem ZbU {f : Addr} {fd : FuncData} (F : Fun K "_law_grown" "_law_grown" sGrown f fd) (G : Gs mg) (D1 : Def P w K mg base 1 "_law_take" ["_law_state_here", "_law_many"] spTake) (D2 : Def P w K mg base 2 "_law_unlike" ["_law_lay_here"] spLUnlike) :
  FnOk P w K mg base CX0 3 f fd ["_law_state_here", "_law_board_here"] (spGrown K) := by
 refine F.ok scGrown (fun vs H Q E h => ?_) (fun cdv A outer s H vs Q E hr h => ?_)
 ·obtain ⟨p, b, wd, hg, rfl, _⟩ := h
  rfl
 ·obtain ⟨p, b, wd, hg, rfl, st, bd, q⟩ := h
  have hr1 := hr.mono (show 1 ≤ 2 by decide)
  refine ⟨_, Zh (J7 (Zv (Za (Zk D1 hr1 (Za (pv 0) (Za Zi Zc))) (Za (Zv Zc) Zc))) (ZT rfl (Zn (Zz (i := 2) scGrown.nd rfl (Or.inl rfl)) (Zn (Zz (i := 3) scGrown.nd rfl (Or.inr rfl)) ZK))))
   (Zh (Yi PassesOwn.never rfl (Z0 rfl G.range (Za (ZP Yu (pv 1) Zi (fun _ _ => rfl)) Zc)) (Zz (i := 4) scGrown.nd rfl (Or.inl rfl))
    (Zh (ZbB (i := 5) (j := 6) rfl scGrown.nd rfl rfl (by decide) rfl rfl (Za (Zk D1 hr1 (Za (pv 0) (Za Zi Zc))) (Za (Zk D1 hr1 (Za (pv 0) (Za Zi Zc))) Zc)) rfl)
    (Zh (YV ["_law_row", "_law_found"] 1 [3] (i := 7) scGrown.nd rfl (Or.inl rfl) (Z0 rfl G.range (Za (ZP Yu (pv 1) Zi (fun _ _ => rfl)) Zc)) (fun C s H fp => pb 0) (fun C s H fp => Yo (ZG (show OpR (blk _ _ _ C s H fp) (compareOp .NotIn) (rIn K true) from W6) (pv 0) (pv 1) rfl)) (fun C s H fp D => ZJ rfl (pv 0)))
    (Zh (YV ["_law_row", "_law_found"] 1 [3] (i := 8) scGrown.nd rfl (Or.inl rfl) (ZX (pv 7)) (fun C s H fp => pb 0) (fun C s H fp => Yo (ZU (Zk D2 hr (Za (Zp (show OpR (blk _ _ _ C s H fp) (binaryOp .Add) (rCatA K) from Yc) (pv 1) (Zv (Za (pv 0) Zc))) Zc)))) (fun C s H fp D => ZJ rfl (pv 0)))
    (Zh (Zs (i := 9) scGrown.nd rfl (Or.inl rfl) Ys)
    (Zh (ZS (PW.pt (J5 (ZG (ZbL hr.units0) (pv 8) (ZD Zc) (nomark _)) (JK (ZG Zdh (pv 5) (ZP ZM (ZD (Za Zi (Za Zi (Za Zi Zc)))) (pv 2) (fun _ _ => rfl)) (nomark _)))))
     (Zm (Zs (i := 9) scGrown.nd rfl (Or.inl rfl) (ZP ZM (pv 8) (Zp Yk (pv 6) (Zj Zr rfl G.len boot_len (Za (pv 8) Zc))) (fun _ _ => rfl)))) ZC)
    (Zm (Zs (i := 3) scGrown.nd rfl (Or.inr rfl) (Zp Yc (pv 3) (Zv (Za (pv 9) Zc)))))))))))
   (Zm (Zx (pv 3)))), ?_⟩
  obtain ⟨a, e, hb⟩ := ZF bd.1
  cases e
  obtain ⟨_, w1, w2, g1, g2⟩ := id bd
  obtain ⟨u0, v0, e0, _⟩ := id st
  have hbp : b ≠ p := Yl hb e0 (by intro z; cases z)
  refine ⟨_, rfl, p, 3, rfl, st, by decide, by decide, fun way o1 h1 h1' st1 => ⟨Nat.zero_le _, fun f0 hf0 => ⟨(by show 2 ≤ sizeLine; decide), fun tt htt => ⟨tt, _, rfl, SqT.of Zb, rfl, _, _, rfl, _, _, rfl, rfl, ?_⟩⟩⟩⟩
  have x1 : SameX p H (upd H p o1) := SameX.upd
  have sA : Same (upd H p o1) (upd (upd H p o1) f0 (.tup [])) := fun c o hc => by rw [Zf (Zd hc hf0)]; exact hc
  have sB : Same (upd (upd H p o1) f0 (.tup [])) (upd (upd (upd H p o1) f0 (.tup [])) tt (.tup [.int way, .ref f0])) := fun c o hc => by rw [Zf (Zd hc htt)]; exact hc
  generalize hH0 : upd (upd (upd H p o1) f0 (HO.tup [])) tt (HO.tup [V.int way, V.ref f0]) = H0 at sB
  have x0 : SameX p H H0 := x1.trans (sA.trans sB).x
  obtain ⟨u1, v1, e1, y1, y2, y3⟩ := id st1
  have st0 : StAt H0 p := ⟨u1, v1, (sA.trans sB) _ _ e1, y1, y2, y3⟩
  have hb0 := x0 _ _ hb hbp
  refine ⟨_, rfl, b, _, _, _, rfl, rfl, SqT.of hb0, at0, wd, rfl, by omega, by omega, ?_⟩
  refine Yg (n := wd.toNat) (fun i σ H2 => ∃ (fa : Addr) (fs : List V) (x4 x5 x6 x7 x8 x9 : Option V), σ = [some (.ref p), some (.ref b), some (.int way), some (.ref fa), x4, x5, x6, x7, x8, x9] ∧ SameX p H H2 ∧ StAt H2 p ∧ H2 fa = some (.tup fs) ∧ fs.length = i ∧
    (∀ r ∈ rowsOf fs, wholeIn r 0 (hg - 1) = true) ∧ (rowsOf fs).Nodup ∧ unlikeB fs = true)
   ⟨f0, [], none, none, none, none, none, none, rfl, x0, st0, sB _ _ Zb, rfl, (fun r hr' => nomatch (show r ∈ ([] : List V) from hr')), List.nodup_nil, rfl⟩ ?_ ?_
  ·rintro i σ H2 hi ⟨fa, fs, x4, x5, x6, x7, x8, x9, rfl, k2, st2, hf2, hfl, hrow, hnd, hun⟩
   have hi' : i < wd.toNat := hi
   refine ⟨_, rfl, p, 4, rfl, st2, by decide, by decide, fun sh o3 _ _ st3 => ?_⟩
   refine ⟨_, rfl, p, 12, rfl, st3, by decide, by decide, fun sp o4 hs1 hs2 st4 => ⟨_, _, rfl, ?_⟩⟩
   generalize hH4 : upd (upd H2 p o3) p o4 = H4 at st4
   have x42 : SameX p H2 H4 := by rw [← hH4]; exact SameX.upd.trans SameX.upd
   obtain ⟨uz, vz, ez, _⟩ := id st2
   have hfap : fa ≠ p := Yl hf2 ez (by intro z; cases z)
   have hf4 := x42 _ _ hf2 hfap
   have k4 : SameX p H H4 := k2.trans x42
   have hb4 := k4 _ _ hb hbp
   have rok : RowsOk fs := fun x hx => by
    by_cases e : x = .non
    ·exact .inl e
    ·have m : x ∈ rowsOf fs := List.mem_filter.mpr ⟨hx, by simp [e]⟩
     have q' := hrow x m
     cases x with
     | int i => exact .inr ⟨i, rfl⟩
     | _ => cases q'
   have flat : fs.all flatV = true := List.all_eq_true.mpr fun x hx => by
    rcases rok x hx with z | ⟨j, z⟩ <;> rw [z] <;> rfl
   refine ⟨_, rfl, b, _, _, _, rfl, rfl, SqT.of hb4, at1, hg, rfl, by omega, by omega, ?_⟩
   refine Wf (n := hg.toNat) (fun j ys σ' H' => ys = (L2.upTo j).filter (fun r => !inV r fs) ∧ H' = H4 ∧ ∃ v, σ' = [v, some (.ref fa)]) ⟨rfl, rfl, none, rfl⟩ ?_ ?_
   ·rintro j ys σ' H' hj ⟨rfl, rfl, v, rfl⟩
    have eu : (L2.upTo (j + 1)).filter (fun r => !inV r fs) = (L2.upTo j).filter (fun r => !inV r fs) ++ (if (!inV (.int (0 + (j : Int))) fs) = true then [V.int (0 + (j : Int))] else []) := by
     rw [ZaM, List.filter_append, Int.zero_add]
     cases hh : (!inV (.int (j : Int)) fs) <;> simp [hh]
    refine ⟨_, rfl, _, rfl, fa, fs, rfl, .inr (SqT.of hf4), rfl, flat, _, rfl, ?_⟩
    show if (!inV (.int (0 + (j : Int))) fs) = true then _ else _
    cases hh : (!inV (.int (0 + (j : Int))) fs) with
    | true =>
     rw [hh] at eu
     refine iteT ?_
     refine ⟨_, rfl, ?_, ?_⟩
     ·have := List.length_filter_le (fun r => !inV r fs) (L2.upTo j)
      have e2 : (L2.upTo j).length = j := by unfold L2.upTo; simp
      rw [sizeLine_eq]
      omega
     ·exact ⟨by rw [eu, if_pos rfl], rfl, _, rfl⟩
    | false =>
     rw [hh] at eu
     exact iteF ⟨by rw [eu, if_neg Bool.false_ne_true, List.append_nil], rfl, _, rfl⟩
   ·rintro ys σ' H' ⟨rfl, rfl, v, rfl⟩ L hL
    generalize hls : (L2.upTo hg.toNat).filter (fun r => !inV r fs) = ls
    have sL : Same H' (upd H' L (.lst ls)) := fun c o hc => by rw [Zf (Zd hc hL)]; exact hc
    generalize hH5 : upd H' L (HO.lst ls) = H5 at sL
    have hL5 : H5 L = some (.lst ls) := by rw [← hH5]; exact Zb
    have hls12 : ls.length ≤ 12 := by
     have := List.length_filter_le (fun r => !inV r fs) (L2.upTo hg.toNat)
     have e2 : (L2.upTo hg.toNat).length = hg.toNat := by unfold L2.upTo; simp
     rw [hls] at this
     omega
    have good : ∀ y ∈ ls, ∃ j : Int, y = .int j ∧ 0 ≤ j ∧ j < hg ∧ V.int j ∉ fs := fun y hy => by
     rw [← hls] at hy
     obtain ⟨m1, m2⟩ := List.mem_filter.mp hy
     obtain ⟨j, hj, rfl⟩ := Zb2 m1
     exact ⟨j, rfl, by omega, by omega, ZbZ m2⟩
    refine ⟨_, rfl, L, rfl, ⟨ls, SqL.of hL5⟩, ?_⟩
    refine Yf (xs := ls) (fun j ys σ' H'' => ys = (ls.take j).filter (fun r => unlikeB (fs ++ [r])) ∧ Same H5 H'' ∧ ∃ v, σ' = [v, some (.ref fa)]) ⟨rfl, Same.refl _, none, rfl⟩ (fun j ys σ' H'' _ ⟨_, s', _⟩ => SqL.of (s' _ _ hL5)) ?_ ?_
    ·rintro j y ys σ' H'' hy ⟨rfl, s', v, rfl⟩
     obtain ⟨jj, ey, _, _, _⟩ := good y (List.mem_of_getElem? hy)
     have eu : (ls.take (j + 1)).filter (fun r => unlikeB (fs ++ [r])) = (ls.take j).filter (fun r => unlikeB (fs ++ [r])) ++ (if unlikeB (fs ++ [y]) = true then [y] else []) := by
      rw [List.take_add_one, hy, List.filter_append]
      cases hh : unlikeB (fs ++ [y]) <;> simp [hh]
     have hf6 := s' _ _ (sL _ _ hf4)
     refine ZaJ (i := 1) (j := 0) hf6 (by omega) rfl rfl fun a' H7 s7 ha' => ?_
     refine ⟨a', fs ++ [y], rfl, ha', fun x hx => ?_, by rw [List.length_append]; simp; omega, fun H8 s8 => ⟨_, rfl, ?_⟩⟩
     ·rcases List.mem_append.mp hx with z | z
      ·exact rok x z
      ·exact .inr ⟨jj, by rw [List.mem_singleton.mp z, ey]⟩
     cases hh : unlikeB (fs ++ [y]) with
     | true =>
      rw [hh] at eu
      refine iteT ?_
      refine ⟨_, rfl, ?_, ?_⟩
      ·have := List.length_filter_le (fun r => unlikeB (fs ++ [r])) (ls.take j)
       rw [List.length_take] at this
       rw [sizeLine_eq]
       omega
      ·exact ⟨by rw [eu, if_pos rfl], s'.trans (s7.trans s8), _, rfl⟩
     | false =>
      rw [hh] at eu
      exact iteF ⟨by rw [eu, if_neg Bool.false_ne_true, List.append_nil], s'.trans (s7.trans s8), _, rfl⟩
    ·rintro ys σ' H'' ⟨rfl, s', v, rfl⟩ S hS
     rw [List.take_length]
     generalize hgs : ls.filter (fun r => unlikeB (fs ++ [r])) = gs
     have sS : Same H'' (upd H'' S (.lst gs)) := fun c o hc => by rw [Zf (Zd hc hS)]; exact hc
     generalize hH6 : upd H'' S (HO.lst gs) = H6 at sS
     have hS6 : H6 S = some (.lst gs) := by rw [← hH6]; exact Zb
     have s46 : Same H' H6 := sL.trans (s'.trans sS)
     obtain ⟨u4, v4, e4, z1, z2, z3⟩ := id st4
     have fin : ∀ (y : V) (H7 : Hp) (b5 b6 b7 b8 : Option V) (D : Ends), (D.nx = fun σ H2 => ∃ (fa : Addr) (fs : List V) (x4 x5 x6 x7 x8 x9 : Option V), σ = [some (.ref p), some (.ref b), some (.int way), some (.ref fa), x4, x5, x6, x7, x8, x9] ∧ SameX p H H2 ∧ StAt H2 p ∧ H2 fa = some (.tup fs) ∧ fs.length = i + 1 ∧
       (∀ r ∈ rowsOf fs, wholeIn r 0 (hg - 1) = true) ∧ (rowsOf fs).Nodup ∧ unlikeB fs = true) → Same H6 H7 → (y = .non ∨ y ∈ gs) →
       tAsg (tOp (rCatA K) (tVar 3) (tTup (tCons (tVar 9) tNil))) (gName 3) D [some (.ref p), some (.ref b), some (.int way), some (.ref fa), some (.int (0 + (i : Int))), b5, b6, b7, b8, some y] H7 := fun y H7 b5 b6 b7 b8 D eD s7 hy => by
      have hf7 := s7 _ _ (s46 _ _ hf4)
      refine ZaJ (i := 3) (j := 9) hf7 (by omega) rfl rfl fun a' H8 s8 ha' => ?_
      show D.nx _ _
      rw [eD]
      have s48 : Same H' H8 := s46.trans (s7.trans s8)
      refine ⟨a', fs ++ [y], _, _, _, _, _, _, rfl, k4.trans s48.x, ⟨u4, v4, s48 _ _ e4, z1, z2, z3⟩, ha', by rw [List.length_append, hfl]; rfl, ?_⟩
      rcases hy with rfl | hy
      ·have e9 : rowsOf (fs ++ [.non]) = rowsOf fs := by rw [ZZ]; simp
       rw [e9]
       exact ⟨hrow, hnd, Uo hun⟩
      ·rw [← hgs] at hy
       obtain ⟨m1, m2⟩ := List.mem_filter.mp hy
       obtain ⟨jj, rfl, j1, j2, j3⟩ := good y m1
       have e9 : rowsOf (fs ++ [.int jj]) = rowsOf fs ++ [.int jj] := by rw [ZZ]; rfl
       rw [e9]
       refine ⟨fun r hr' => ?_, ?_, m2⟩
       ·rcases List.mem_append.mp hr' with z | z
        ·exact hrow r z
        ·rw [List.mem_singleton.mp z]
         show (decide ((0 : Int) ≤ jj) && decide (jj ≤ hg - 1)) = true
         rw [decide_eq_true j1, decide_eq_true (by omega)]
         rfl
       ·exact Ua hnd fun m => j3 (List.mem_filter.mp m).1
     refine ⟨_, rfl, Nat.zero_le _, fun q2 hq2 => ?_⟩
     have sD : Same H6 (upd H6 q2 (.lst [])) := fun c o hc => by rw [Zf (Zd hc hq2)]; exact hc
     refine ⟨S, q2, gs, rfl, rfl, SqL.of (sD _ _ hS6), SqL.of Zb, _, rfl, ?_⟩
     generalize hH7 : upd H6 q2 (HO.lst []) = H7 at sD
     cases hemp : gs.isEmpty with
     | true => exact iteF (iteF (fin .non H7 _ _ _ _ _ rfl sD (.inl rfl)))
     | false =>
      refine iteT ?_
      have hne : gs ≠ [] := fun z => by rw [z] at hemp; cases hemp
      have hpos : 0 < gs.length := List.length_pos_iff.mpr hne
      refine ⟨_, rfl, (by show 3 ≤ sizeLine; decide), fun q3 hq3 => ?_⟩
      obtain ⟨c3, hc3⟩ := three h1 h1'
      have sE : Same H7 (upd H7 q3 (.lst [.int 0, .int 1, .int 3])) := fun c o hc => by rw [Zf (Zd hc hq3)]; exact hc
      refine ⟨_, rfl, q3, _, _, _, rfl, rfl, SqL.of Zb, hc3, _, _, rfl, rfl, _, rfl, ?_⟩
      generalize hH8 : upd H7 q3 (HO.lst [V.int 0, .int 1, .int 3]) = H8 at sE
      have hS8 := sE _ _ (sD _ _ hS6)
      have m1 : 0 ≤ sp % (gs.length : Int) := Int.emod_nonneg _ (by omega)
      have m2 : sp % (gs.length : Int) < gs.length := Int.emod_lt_of_pos _ (by omega)
      have m3 : (sp % (gs.length : Int)).toNat < gs.length := by omega
      have m5 : atI gs (sp % (gs.length : Int)) = some gs[(sp % (gs.length : Int)).toNat] := by
       have := ZY (xs := gs) (List.getElem?_eq_getElem m3)
       rw [Int.toNat_of_nonneg m1] at this
       exact this
      refine ite2 (fun _ => ?_) (fun _ => fin .non H8 _ _ _ _ _ rfl (sD.trans sE) (.inl rfl))
      refine ⟨_, rfl, _, rfl, _, rfl, S, gs, rfl, .inl (SqL.of hS8), _, _, rfl, rfl, (by show (0 : Int) < (gs.length : Int); omega), S, gs, _, _, rfl, rfl, SqL.of hS8, m5, ?_⟩
      exact fin _ H8 _ _ _ _ _ rfl (sD.trans sE) (.inr (List.getElem_mem m3))
  ·rintro σ H2 ⟨fa, fs, x4, x5, x6, x7, x8, x9, rfl, k2, st2, hf2, hfl, hrow, hnd, hun⟩
   obtain ⟨uz, vz, ez, _⟩ := id st2
   exact ⟨_, rfl, q fa H2 fs k2 st2 hf2 (Yl hf2 ez (by intro z; cases z)) ⟨by omega, hrow, hnd⟩ hun⟩
end
end U
set_option Elab.async false
set_option linter.all false
set_option maxRecDepth 100000
namespace U
open PySem L2 PyProof.Rows
def pointsL (xs : List V) : List (Int × Int) := (List.range xs.length).filterMap fun l => (rowAt xs l).map fun r => ((l : Int), r)
def PtAt (H : Hp) (v : V) (q : Int × Int) : Prop := ∃ t : Addr, v = .ref t ∧ H t = some (.tup [.int q.1, .int q.2])
def QdAt (H : Hp) (v : V) (q : Step4) : Prop := ∃ t : Addr, v = .ref t ∧ H t = some (.tup [.int q.1, .int q.2.1, .int q.2.2.1, .int q.2.2.2])
theorem PtAt.same {H H' : Hp} {v : V} {q : Int × Int} (h : PtAt H v q) (s : Same H H') : PtAt H' v q := by
 obtain ⟨t, e, h1⟩ := h
 exact ⟨t, e, s _ _ h1⟩
theorem QdAt.same {H H' : Hp} {v : V} {q : Step4} (h : QdAt H v q) (s : Same H H') : QdAt H' v q := by
 obtain ⟨t, e, h1⟩ := h
 exact ⟨t, e, s _ _ h1⟩
def pairsOf (ps : List (Int × Int)) (a : Int × Int) (j : Nat) : List Step4 := ((ps.take j).filter fun b => decide (a.1 < b.1)).map fun b => (a.1, a.2, b.1, b.2)
def pairsTo (ps : List (Int × Int)) (i : Nat) : List Step4 := (ps.take i).flatMap fun a => pairsOf ps a ps.length
def pairsL (ps : List (Int × Int)) : List Step4 := pairsTo ps ps.length
theorem W5 {ps : List (Int × Int)} {a b : Int × Int} {j : Nat} (h : ps[j]? = some b) : pairsOf ps a (j + 1) = pairsOf ps a j ++ (if decide (a.1 < b.1) = true then [(a.1, a.2, b.1, b.2)] else []) := by
 unfold pairsOf
 rw [List.take_add_one, h, List.filter_append, List.map_append]
 cases hh : decide (a.1 < b.1) <;> simp_all
theorem W4 {ps : List (Int × Int)} {a : Int × Int} {i : Nat} (h : ps[i]? = some a) : pairsTo ps (i + 1) = pairsTo ps i ++ pairsOf ps a ps.length := by
 unfold pairsTo
 rw [List.take_add_one, h, List.flatMap_append]
 simp
section
variable {P : Program} {w : World} {K : PySem.W.Frag} {mg : Str → Option Value} {base : Heap}
abbrev sNeedLay : Stmt := top 25
def LayAt (H : Hp) (x y : V) (wd hg : Int) (xs : List V) : Prop := BoardAt H x wd hg ∧ tupOf H y = some xs ∧ IsLay wd hg xs
theorem LayAt.same {H H' : Hp} {x y : V} {wd hg : Int} {xs : List V} (h : LayAt H x y wd hg xs) (s : Same H H') : LayAt H' x y wd hg xs := ⟨h.1.same s, s.tupOf h.2.1, h.2.2⟩
theorem LayAt.pl {H : Hp} {x y : V} {wd hg : Int} {xs : List V} (h : LayAt H x y wd hg xs) : Pl1 K H y := by
 obtain ⟨a, rfl, ha⟩ := ZF h.2.1
 refine ⟨⟨_, .tup ha⟩, fun zs e z hz => ?_⟩
 rw [h.2.1] at e
 cases e
 rcases h.2.2.ok z hz with rfl | ⟨i, rfl⟩
 ·exact ⟨_, .non⟩
 ·exact ⟨_, .int i⟩
def spNeedLay : Sp := fun vs H Q _ => ∃ x y wd hg xs, vs = [x, y] ∧ LayAt H x y wd hg xs ∧ ∀ H', Same H H' → Q .non H'
theorem scNeedLay : FnScope ["board", "lay"] ["board", "lay"] (defScope sNeedLay) := ⟨rfl, rfl, rfl, by decide +kernel, rfl, by decide +kernel, by decide +kernel⟩
theorem Zaa {f : Addr} {fd : FuncData} (F : Fun K "need_lay" "need_lay" sNeedLay f fd) (D1 : Def P w K mg base 5 "is_lay" ["board", "thing"] (spLay K)) : FnOk P w K mg base CX0 6 f fd ["board", "lay"] spNeedLay := by
 refine F.ok scNeedLay (fun vs H Q E h => ?_) (fun cdv A outer s H vs Q E hr h => ?_)
 ·obtain ⟨x, y, wd, hg, xs, rfl, _⟩ := h
  rfl
 ·obtain ⟨x, y, wd, hg, xs, rfl, l, q⟩ := h
  refine ⟨_, Zm (ZS (Yh (ZU (Zk D1 hr (Za (pv 0) (Za (pv 1) Zc))))) ZE ZC), ?_⟩
  refine ⟨x, rfl, y, rfl, x, y, wd, hg, rfl, l.1, l.pl, fun H' sm => ⟨_, rfl, ?_⟩⟩
  rw [l.2.1, l.2.2.is]
  exact iteF (q H' sm)
def spPoints : Sp := fun vs H Q _ => ∃ x y wd hg xs, vs = [x, y] ∧ LayAt H x y wd hg xs ∧ ∀ (l : Addr) (H' : Hp) (ps : List V), Same H H' → H l = none → H' l = some (.lst ps) → Paired (PtAt H') ps (pointsL xs) → Q (.ref l) H'
abbrev sPairs : Stmt := top 28
def spPairs : Sp := fun vs H Q _ => ∃ x y wd hg xs, vs = [x, y] ∧ LayAt H x y wd hg xs ∧ ∀ (l : Addr) (H' : Hp) (ps : List V), Same H H' → H l = none → H' l = some (.lst ps) → Paired (QdAt H') ps (pairsL (pointsL xs)) → Q (.ref l) H'
theorem scPairs : FnScope ["board", "lay", "found"] ["board", "lay"] (defScope sPairs) := ⟨rfl, rfl, rfl, by decide +kernel, rfl, by decide +kernel, by decide +kernel⟩
theorem ZbT {f : Addr} {fd : FuncData} (F : Fun K "point_pairs" "point_pairs" sPairs f fd) (D1 : Def P w K mg base 7 "points" ["board", "lay"] spPoints) : FnOk P w K mg base CX0 8 f fd ["board", "lay"] spPairs := by
 refine F.ok scPairs (fun vs H Q E h => ?_) (fun cdv A outer s H vs Q E hr h => ?_)
 ·obtain ⟨x, y, wd, hg, xs, rfl, _⟩ := h
  rfl
 ·obtain ⟨x, y, wd, hg, xs, rfl, l, q⟩ := h
  refine ⟨_, Zh (Zs (i := 2) scPairs.nd rfl (Or.inr rfl) (Zk D1 hr (Za (pv 0) (Za (pv 1) Zc))))
   (Zm (Zx (Yb ["line", "row", "other", "there", "found"] 4 [2] (ZX (pv 2))
    (fun C s H fp => show PG (blk _ _ _ C s H fp) _ (gTup K 2 (gCons (gName 0) (gCons (gName 1) gNil))) from ZT rfl (Zn (pb 0) (Zn (pb 1) ZK))) (fun C s H fp => Yp)
    (fun C s H fp D => ZbC rfl rfl rfl (show PI (blk _ _ _ C s H fp) _ _ (iList K (tVar 4)) from ZX (pv 4))
     (show PG (blk _ _ _ C s H fp) _ (gTup K 2 (gCons (gName 2) (gCons (gName 3) gNil))) from ZT rfl (Zn (pb 2) (Zn (pb 3) ZK)))
     (Yo (ZG Zde (pv 0) (pv 2) (nomark _))) (ZJ rfl (Zv (Za (pv 0) (Za (pv 1) (Za (pv 2) (Za (pv 3) Zc)))))) (by intro _; rfl) (by intro g' h; cases h))))), ?_⟩
  refine ⟨x, rfl, y, rfl, x, y, wd, hg, xs, rfl, l, fun fa H1 ps s1 hfn hf pr => ?_⟩
  generalize hqs : pointsL xs = qs at pr q
  have hlq : ps.length = qs.length := Paired.length pr
  have hq12 : qs.length ≤ 12 := by
   rw [← hqs]
   unfold pointsL
   have := List.length_filterMap_le (fun l : Nat => (rowAt xs l).map fun r => ((l : Int), r)) (List.range xs.length)
   rw [List.length_range] at this
   have h1 := l.2.2.len
   have h2 := l.1.2.2.1
   omega
  refine ⟨_, rfl, fa, rfl, ⟨ps, SqL.of hf⟩, ?_⟩
  refine Yf (xs := ps) (fun i ys σ H2 => ∃ v0 v1 v2 v3, σ = [v0, v1, v2, v3, some (.ref fa)] ∧ Same H1 H2 ∧ Paired (QdAt H2) ys (pairsTo qs i) ∧ ys.length ≤ i * 12) ⟨_, _, _, _, rfl, Same.refl _, .nil, Nat.zero_le _⟩ (fun i ys σ H2 _ ⟨_, _, _, _, _, s2, _⟩ => SqL.of (s2 _ _ hf)) ?_ ?_
  ·rintro i v ys σ H2 hv ⟨v0, v1, v2, v3, rfl, s2, pr2, hl2⟩
   obtain ⟨a, hqa, t, rfl, ht⟩ := Paired.at pr hv
   have hi : i < ps.length := (List.getElem?_eq_some_iff.mp hv).1
   refine ⟨t, _, rfl, SqT.of (s2 _ _ ht), rfl, _, _, rfl, _, _, rfl, rfl, ?_⟩
   refine ⟨_, rfl, fa, rfl, ⟨ps, SqL.of (s2 _ _ hf)⟩, ?_⟩
   refine Yf (xs := ps) (fun j ys σ H3 => ∃ v2 v3, σ = [some (.int a.1), some (.int a.2), v2, v3, some (.ref fa)] ∧ Same H1 H3 ∧ Paired (QdAt H3) ys (pairsTo qs i ++ pairsOf qs a j) ∧ ys.length ≤ i * 12 + j) ⟨_, _, rfl, s2, by simpa [pairsOf] using pr2, hl2⟩ (fun i ys σ H2 _ ⟨_, _, _, s2, _⟩ => SqL.of (s2 _ _ hf)) ?_ ?_
   ·rintro j v ys σ H3 hv' ⟨v2, v3, rfl, s3, pr3, hl3⟩
    obtain ⟨b, hqb, t', rfl, ht'⟩ := Paired.at pr hv'
    have hj : j < ps.length := (List.getElem?_eq_some_iff.mp hv').1
    have es := W5 (a := a) hqb
    refine ⟨t', _, rfl, SqT.of (s3 _ _ ht'), rfl, _, _, rfl, _, _, rfl, rfl, ?_⟩
    refine ⟨_, rfl, _, rfl, _, _, rfl, rfl, _, rfl, ?_⟩
    cases hh : decide (a.1 < b.1) with
    | true =>
     rw [hh] at es
     refine iteT ?_
     refine ⟨_, rfl, _, rfl, _, rfl, _, rfl, (by show 4 ≤ sizeLine; decide), fun t4 ht4 => ⟨by rw [sizeLine_eq]; omega, ?_⟩⟩
     have s4 : Same H3 (upd H3 t4 (.tup [.int a.1, .int a.2, .int b.1, .int b.2])) := fun c o hc => by rw [Zf (Zd hc ht4)]; exact hc
     refine ⟨_, _, rfl, s3.trans s4, ?_, by rw [List.length_append]; simp; omega⟩
     rw [es, if_pos rfl, ← List.append_assoc]
     exact Paired.snoc (Paired.mapP pr3 fun v q' hq => hq.same s4) ⟨t4, rfl, Zb⟩
    | false =>
     rw [hh] at es
     refine iteF ⟨_, _, rfl, s3, ?_, by omega⟩
     rw [es, if_neg Bool.false_ne_true, List.append_nil]
     exact pr3
   ·rintro ys σ H3 ⟨v2, v3, rfl, s3, pr3, hl3⟩
    refine ⟨_, _, _, _, rfl, s3, ?_, by omega⟩
    rw [W4 hqa, ← hlq]
    exact pr3
  ·rintro ys σ H2 ⟨v0, v1, v2, v3, rfl, s2, pr2, hl2⟩ p hp
   have s4 : Same H2 (upd H2 p (.lst ys)) := fun c o hc => by rw [Zf (Zd hc hp)]; exact hc
   refine q p _ ys (s1.trans (s2.trans s4)) ((s1.trans s2).free hp) Zb ?_
   rw [hlq] at pr2
   exact Paired.mapP pr2 fun v q' hq => hq.same s4
end
end U
set_option Elab.async false
set_option linter.all false
set_option maxRecDepth 100000
namespace U
open PySem L2 PyProof.Rows
def ptsTo (xs : List V) (n : Nat) : List (Int × Int) := (List.range n).filterMap fun l => (rowAt xs l).map fun r => ((l : Int), r)
theorem J6 (xs : List V) (n : Nat) : ptsTo xs (n + 1) = ptsTo xs n ++ ((rowAt xs n).map fun r => ((n : Int), r)).toList := by
 unfold ptsTo
 rw [List.range_succ, List.filterMap_append]
 cases h : rowAt xs n <;> simp [h]
section
variable {P : Program} {w : World} {K : PySem.W.Frag} {mg : Str → Option Value} {base : Heap}
abbrev sPoints : Stmt := top 26
theorem scPoints : FnScope ["board", "lay"] ["board", "lay"] (defScope sPoints) := ⟨rfl, rfl, rfl, by decide +kernel, rfl, by decide +kernel, by decide +kernel⟩
theorem Za1 {f : Addr} {fd : FuncData} (F : Fun K "points" "points" sPoints f fd) (G : Gs mg) (D1 : Def P w K mg base 6 "need_lay" ["board", "lay"] spNeedLay) : FnOk P w K mg base CX0 7 f fd ["board", "lay"] spPoints := by
 refine F.ok scPoints (fun vs H Q E h => ?_) (fun cdv A outer s H vs Q E hr h => ?_)
 ·obtain ⟨x, y, wd, hg, xs, rfl, _⟩ := h
  rfl
 ·obtain ⟨x, y, wd, hg, xs, rfl, l, q⟩ := h
  refine ⟨_, Zh (Ya (Zk D1 hr (Za (pv 0) (Za (pv 1) Zc))))
   (Zm (Zx (Yb ["line", "row"] 2 [] (ZcE rfl G.enumerate (Za (pv 1) Zc))
    (fun C s H fp => show PG (blk _ _ _ C s H fp) _ (gTup K 2 (gCons (gName 0) (gCons (gName 1) gNil))) from ZT rfl (Zn (pb 0) (Zn (pb 1) ZK)))
    (fun C s H fp => Yo (Y5 (Jd (pv 1)))) (fun C s H fp D => ZJ rfl (Zv (Za (pv 0) (Za (pv 1) Zc))))))), ?_⟩
  refine ⟨x, rfl, y, rfl, x, y, wd, hg, xs, rfl, l, fun H1 s1 => ?_⟩
  obtain ⟨a, rfl, ha⟩ := ZF (l.same s1).2.1
  have hlen : xs.length ≤ 12 := by
   have h1 := l.2.2.len
   have h2 := l.1.2.2.1
   omega
  refine ⟨_, rfl, a, rfl, ⟨xs, SqT.of ha⟩, ?_⟩
  refine Za9 (xs := xs) (fun i ys σ H2 => ∃ v0 v1, σ = [v0, v1] ∧ Same H1 H2 ∧ Paired (PtAt H2) ys (ptsTo xs i) ∧ ys.length ≤ i) ⟨_, _, rfl, Same.refl _, .nil, Nat.zero_le _⟩ (fun i ys σ H2 _ ⟨_, _, _, s2, _⟩ => SqT.of (s2 _ _ ha)) ?_ ?_
  ·rintro i v T ys σ H2 hv hT ⟨v0, v1, rfl, s2, pr2, hl2⟩
   have hi : i < xs.length := (List.getElem?_eq_some_iff.mp hv).1
   have sT : Same H2 (upd H2 T (.par [.int (i : Int), v])) := fun c o hc => by rw [Zf (Zd hc hT)]; exact hc
   have er : rowAt xs i = rowV v := by unfold rowAt; rw [hv]; rfl
   refine ⟨T, _, rfl, SqT.ofP Zb, rfl, _, _, rfl, _, _, rfl, rfl, ?_⟩
   refine ⟨_, rfl, _, rfl, ?_⟩
   generalize hH3 : upd H2 T (HO.par [V.int (i : Int), v]) = H3 at sT
   rcases l.2.2.ok v (List.mem_of_getElem? hv) with rfl | ⟨r, rfl⟩
   ·refine iteF ⟨_, _, rfl, s2.trans sT, ?_, by omega⟩
    rw [J6, er]
    exact (by simpa [rowV] using Paired.mapP pr2 fun v q' hq => hq.same sT)
   ·refine iteT ?_
    refine ⟨_, rfl, _, rfl, (by show 2 ≤ sizeLine; decide), fun t ht => ⟨by rw [sizeLine_eq]; omega, ?_⟩⟩
    have s4 : Same H3 (upd H3 t (.tup [.int (i : Int), .int r])) := fun c o hc => by rw [Zf (Zd hc ht)]; exact hc
    refine ⟨_, _, rfl, s2.trans (sT.trans s4), ?_, by rw [List.length_append]; simp; omega⟩
    rw [J6, er]
    exact Paired.snoc (Paired.mapP pr2 fun v q' hq => hq.same (sT.trans s4)) ⟨t, rfl, Zb⟩
  ·rintro ys σ H2 ⟨v0, v1, rfl, s2, pr2, hl2⟩ p hp
   have s4 : Same H2 (upd H2 p (.lst ys)) := fun c o hc => by rw [Zf (Zd hc hp)]; exact hc
   exact q p _ ys (s1.trans (s2.trans s4)) ((s1.trans s2).free hp) Zb (Paired.mapP pr2 fun v q' hq => hq.same s4)
end
end U
set_option Elab.async false
set_option linter.all false
set_option maxRecDepth 100000
set_option maxHeartbeats 40000000
namespace L2
open PySem PySem.Spec PyProof.Rows PyProof.Rows.Tim
abbrev I4 := Int × Int × Int × Int
def key4 (q : I4) : List Int := [q.1, q.2.1, q.2.2.1, q.2.2.2]
theorem Wl {a b : I4} (h : key4 a = key4 b) : a = b := by
 obtain ⟨a1, a2, a3, a4⟩ := a
 obtain ⟨b1, b2, b3, b4⟩ := b
 simp only [key4, List.cons.injEq, and_true] at h
 obtain ⟨h1, h2, h3, h4⟩ := h
 subst h1 h2 h3 h4
 rfl
def SpAt (H : Hp) (v : V) (q : I4) : Prop := ∃ t t' : Addr, v = .ref t ∧ H t = some (.tup [.ref t', .int q.2.2.1, .int q.2.2.2]) ∧ H t' = some (.tup [.int q.1, .int q.2.1])
def TupN (h : Heap) (u : Value) (k : I4) : Prop := ∃ (t : Addr) (o : Obj) (n : Nat) (t' : Addr) (o' : Obj) (n' : Nat) (k1 k2 k3 k4 : Tok), u = .ref t ∧ h.get? t = some o ∧ o.cls = .type "tuple" ∧ o.data = .seq #[.ref t', .int k.2.2.1 k3, .int k.2.2.2 k4] n ∧
 h.get? t' = some o' ∧ o'.cls = .type "tuple" ∧ o'.data = .seq #[.int k.1 k1, .int k.2.1 k2] n'
theorem TupN.keep {h h' : Heap} {u : Value} {k : I4} {a : Addr} (x : TupN h u k) (kp : ∀ b o, b ≠ a → h.get? b = some o → h'.get? b = some o) (na : ∀ b o, h.get? b = some o → b ≠ a) : TupN h' u k := by
 obtain ⟨t, o, n, t', o', n', k1, k2, k3, k4, e, g, c, d, g', c', d'⟩ := x
 exact ⟨t, o, n, t', o', n', k1, k2, k3, k4, e, kp t o (na t o g) g, c, d, kp t' o' (na t' o' g') g', c', d'⟩
def keyN (h : Heap) : Value → List Int
 | .ref t => match h.get? t with
  | some o => match o.data with
   | .seq its _ => keyAt h (its.toList.getD 0 .none) ++ (its.toList.drop 1).map numOf
   | _ => []
  | none => []
 | _ => []
theorem JO {h : Heap} {u : Value} {k : I4} (x : TupN h u k) : keyN h u = key4 k := by
 obtain ⟨t, o, n, t', o', n', k1, k2, k3, k4, rfl, g, c, d, g', c', d'⟩ := x
 have e := YO g' d' (k := [k.1, k.2.1]) (.cons _ _ (.cons _ _ .nil))
 unfold keyN
 dsimp only
 rw [g]
 dsimp only
 rw [d]
 dsimp only
 show keyAt h (.ref t') ++ _ = _
 rw [e]
 rfl
theorem WF {h : Heap} : ∀ {us : List Value} {ks : List I4}, Paired (TupN h) us ks → ∃ fs, PySem.W.KatTups h us fs ∧ fs.length = us.length ∧ ∀ f ∈ fs, ∃ t o, f = .ref t ∧ h.get? t = some o ∧ o.cls = .type "tuple"
 | _, _, .nil => ⟨[], .nil, rfl, fun f hf => by cases hf⟩
 | _, _, .cons (a := u) (b := k) ⟨t, o, n, t', o', n', k1, k2, k3, k4, e, g, c, d, g', c', d'⟩ r => by
  obtain ⟨fs, h1, h2, h3⟩ := WF r
  subst e
  refine ⟨.ref t' :: fs, .cons g c d rfl h1, by rw [List.length_cons, List.length_cons, h2], fun f hf => ?_⟩
  rcases List.mem_cons.mp hf with rfl | hf
  ·exact ⟨_, _, rfl, g', c'⟩
  ·exact h3 f hf
theorem Zb6 (a b a' b' : Int) (l m : List Int) : lexB (a :: b :: l) (a' :: b' :: m) = if [a, b] = [a', b'] then lexB l m else HT.lexLt [a, b] [a', b'] := by
 by_cases e1 : a = a'
 ·subst e1
  by_cases e2 : b = b'
  ·subst e2
   simp [lexB]
  ·simp [lexB, e2, HT.lexLt]
 ·simp [lexB, e1, HT.lexLt]
theorem UO {A : Around} {s : Shared} {t t' : Addr} {o o' : Obj} {n n' : Nat} {a b a' b' : Int} {k1 k2 k3 k4 : Tok} (hu : A.units < cLine) (g : s.heap.get? t = some o) (c : o.cls = .type "tuple") (d : o.data = .seq #[.int a k1, .int b k2] n)
  (g' : s.heap.get? t' = some o') (c' : o'.cls = .type "tuple") (d' : o'.data = .seq #[.int a' k3, .int b' k4] n') : SeqAt.EqAt A s (.ref t) (.ref t') (decide ([a, b] = [a', b'])) := by
 by_cases h : t = t'
 ·subst h
  rw [g] at g'
  cases g'
  rw [d] at d'
  have e : a = a' ∧ b = b' := by
   injection d' with e1 e2
   simp at e1
   exact ⟨e1.1.1, e1.2.1⟩
  rw [e.1, e.2]
  have := SeqAt.EqAt.same (A := A) (s := s) (.ref t)
  simpa using this
 ·refine SeqAt.EqAt.of_refs h ?_
  have z := SeqAt.RcAt.tuples (A := A) (s := s) (l := t) (b := t') (items := #[.int a k1, .int b k2]) (items2 := #[.int a' k3, .int b' k4]) (e := fun j => if j = 0 then a == a' else b == b') ⟨o, g, c, n, d⟩ ⟨o', g', c', n', d'⟩ hu (fun j h1 h2 => by
   have h1' : j < 2 := h1
   match j, h1' with
   | 0, _ => exact SeqAt.EqAt.int_int _ _ _ _
   | 1, _ => exact SeqAt.EqAt.int_int _ _ _ _)
  have e : ((List.range (min (#[Value.int a k1, Value.int b k2] : Array Value).size (#[Value.int a' k3, Value.int b' k4] : Array Value).size)).all (fun j => if j = 0 then a == a' else b == b') && (#[Value.int a k1, Value.int b k2] : Array Value).size == (#[Value.int a' k3, Value.int b' k4] : Array Value).size) = decide ([a, b] = [a', b']) := by
   show ((List.range 2).all (fun j => if j = 0 then a == a' else b == b') && 2 == 2) = _
   rw [Bool.eq_iff_iff]
   simp [List.range_succ]
  rw [e] at z
  exact z
section
variable {X : Cx}
theorem YK (hu : X.A.units + 2 < cLine) : CallR X (.builtin "sorted") (fun xs H Q => ∃ (p : Addr) (vs : List V) (ks : List I4), xs = [.ref p] ∧ SqL X.K H p vs ∧ Paired (SpAt H) vs ks ∧ vs.length ≤ 1000 ∧
  ∀ (q : Addr) (vs' : List V) (ks' : List I4), H q = none → ks'.Perm ks → (ks'.map key4).Pairwise (fun a b => lexB b a = false) → Paired (SpAt H) vs' ks' → Q (.ref q) (upd H q (.lst vs'))) := by
 intro pins s σ H xs us Q I r h
 obtain ⟨p, vs, ks, rfl, hp, pr, hz, q⟩ := h
 obtain ⟨u, rfl, ru⟩ := vals1 r
 cases ru
 obtain ⟨its, rv, pl, _⟩ := I.list hp
 have hl := rv.length
 have key : ∀ {vs : List V} {ks : List I4} {its : List Value}, Paired (SpAt H) vs ks → Vals vs its → Paired (fun u k => TupN s.heap u k ∧ SpAt H (toV u) k) its ks := by
  intro vs ks its pr
  induction pr generalizing its with
  | nil => intro rv; cases rv; exact .nil
  | cons hh _ ih =>
   intro rv
   cases rv with
   | cons r1 r2 =>
    refine .cons ?_ (ih r2)
    obtain ⟨t, t', rfl, ht, ht'⟩ := hh
    cases r1
    obtain ⟨i1, ri, ⟨o, go, oc, n, od⟩, _⟩ := I.tuple (SqT.of ht)
    obtain ⟨i2, ri', ⟨o', go', oc', n', od'⟩, _⟩ := I.tuple (SqT.of ht')
    refine ⟨?_, t, t', rfl, ht, ht'⟩
    cases ri with
    | cons a1 a2 =>
     cases a2 with
     | cons a3 a4 =>
      cases a4 with
      | cons a5 a6 =>
       cases a6
       cases ri' with
       | cons b1 b2 =>
        cases b2 with
        | cons b3 b4 =>
         cases b4
         cases a1
         obtain ⟨k3, rfl⟩ := a3
         obtain ⟨k4, rfl⟩ := a5
         obtain ⟨k1, rfl⟩ := b1
         obtain ⟨k2, rfl⟩ := b3
         exact ⟨t, o, n, t', o', n', k1, k2, k3, k4, rfl, go, oc, od, go', oc', od'⟩
 have tp := key pr rv
 have tu : Paired (TupN s.heap) its ks := Paired.mapP tp fun _ _ h => h.1
 refine Zbq (κ := tuples' false) (r := fun x y => lexB (keyN s.heap x.1) (keyN s.heap y.1)) (ZcI _) pl.isList (fun h' a kp na s6 h6 => ?_) (by omega) fun xs hxp hxs => ?_
 ·have tu6 : Paired (TupN s6.heap) its ks := Paired.mapP tu fun u k x => x.keep (a := a) (fun b o hb e => h6 b o hb (kp b o e)) na
  refine ⟨fun h2 Q' hq => ?_, fun x y st Q' mx my hk hq => ?_⟩
  ·obtain ⟨fs, kt, kl, kf⟩ := WF tu6
   refine PySem.W.kat_kind (T := .type "tuple") kt (by omega) (fun v hv => ?_) (by rfl) hq
   obtain ⟨t, o, rfl, g, c⟩ := kf v hv
   rw [← c]
   exact (PySem.W.Looks.ld g).andThen .now
  ·rw [lt'_eq]
   refine wpS_bind (wpS_get ?_)
   rw [hk]
   obtain ⟨mx1, _⟩ := Js mx
   obtain ⟨my1, _⟩ := Js my
   obtain ⟨kx, _, nx⟩ := YH tu mx1
   obtain ⟨ky, _, ny⟩ := YH tu my1
   dsimp only at hq
   rw [JO nx, JO ny] at hq
   obtain ⟨tx, ox, n1, tx', ox', n1', c1, c2, c3, c4, ex, gx, cx, dx, gx', cx', dx'⟩ := nx.keep (h' := s6.heap) (a := a) (fun b o hb e => h6 b o hb (kp b o e)) na
   obtain ⟨ty, oy, n2, ty', oy', n2', d1, d2, d3, d4, ey, gy, cy, dy, gy', cy', dy'⟩ := ny.keep (h' := s6.heap) (a := a) (fun b o hb e => h6 b o hb (kp b o e)) na
   rw [ex, ey]
   refine wpS_bind (wpS_lift (wpAny_attempt (PySem.W.kat_lt gx dx gy dy ?_)))
   show PySem.W.KatLex _ _ _ false (decide (3 < 3)) _ ((Value.ref tx', Value.ref ty') :: ([Value.int kx.2.2.1 c3, Value.int kx.2.2.2 c4].zip [Value.int ky.2.2.1 d3, Value.int ky.2.2.2 d4])) 0 _
   refine PySem.W.kat_cons (UO (A := X.A.in1.in1) hu gx' cx' dx' gy' cy' dy' _ _ _ _ ?_)
   have hk4 : lexB (key4 kx) (key4 ky) = if [kx.1, kx.2.1] = [ky.1, ky.2.1] then lexB [kx.2.2.1, kx.2.2.2] [ky.2.2.1, ky.2.2.2] else HT.lexLt [kx.1, kx.2.1] [ky.1, ky.2.1] := Zb6 ..
   rw [hk4] at hq
   by_cases e : [kx.1, kx.2.1] = [ky.1, ky.2.1]
   ·rw [if_pos e] at hq
    rw [decide_eq_true e]
    exact PySem.W.kat_yes (UF (xs := [kx.2.2.1, kx.2.2.2]) (ys := [ky.2.2.1, ky.2.2.2]) (.cons _ _ (.cons _ _ .nil)) (.cons _ _ (.cons _ _ .nil)) rfl ⟨rfl, wpS_pure hq⟩)
   ·rw [if_neg e] at hq
    rw [decide_eq_false e]
    exact PySem.W.kat_no (PySem.W.kat_one _ _ (HT.lt_tupInts ⟨_, gx', cx', n1', dx'⟩ ⟨_, gy', cy', n2', dy'⟩ (ns := [kx.1, kx.2.1]) (ms := [ky.1, ky.2.1]) (.cons _ _ (.cons _ _ .nil)) (.cons _ _ (.cons _ _ .nil)) hu ⟨rfl, wpS_pure hq⟩))
 ·have hmem : ∀ pq ∈ xs.toList, pq.1 ∈ its ∧ pq.2 = pq.1 := fun pq hpq => Js ((Array.perm_iff_toList_perm.mp hxp).mem_iff.mp hpq)
  have eo : (xs.map (·.2)).toList = xs.toList.map (·.1) := by
   rw [Array.toList_map]
   exact List.map_congr_left fun pq hpq => (hmem pq hpq).2
  have po : (xs.toList.map (·.1)).Perm its := by
   refine List.Perm.trans ((Array.perm_iff_toList_perm.mp hxp).map _) ?_
   unfold pairsOf
   rw [Array.toList_zip, List.toList_toArray]
   have : ∀ l : List Value, (l.zip l).map (·.1) = l := fun l => by
    induction l with
    | nil => rfl
    | cons a l ih => rw [List.zip_cons_cons, List.map_cons, ih]
   rw [this]
  generalize hout : xs.map (·.2) = out at eo
  let kk : Value → I4 := fun u => match keyN s.heap u with
   | [a, b, c, d] => (a, b, c, d)
   | _ => (0, 0, 0, 0)
  have hkk : ∀ u k, TupN s.heap u k → kk u = k := fun u k x => by
   show (match keyN s.heap u with
    | [a, b, c, d] => (a, b, c, d)
    | _ => (0, 0, 0, 0)) = k
   rw [JO x]
   rfl
  have ek : its.map kk = ks := Y2 tu hkk
  have rel : ∀ u ∈ out.toList, SpAt H (toV u) (kk u) ∧ key4 (kk u) = keyN s.heap u ∧ RelV (toV u) u := fun u hu => by
   rw [eo] at hu
   obtain ⟨k, _, hT, hS⟩ := YH tp (po.mem_iff.mp hu)
   have e := hkk u k hT
   rw [e]
   refine ⟨hS, (JO hT).symm, ?_⟩
   obtain ⟨t, t', e2, _⟩ := hS
   obtain ⟨t2, _, _, _, _, _, _, _, _, _, e3, _⟩ := hT
   subst e3
   rfl
  have vals : ∀ l : List Value, (∀ u ∈ l, SpAt H (toV u) (kk u) ∧ key4 (kk u) = keyN s.heap u ∧ RelV (toV u) u) → Vals (l.map toV) l ∧ Paired (SpAt H) (l.map toV) (l.map kk) ∧ (l.map kk).map key4 = l.map (keyN s.heap) := fun l => by
   induction l with
   | nil => intro _; exact ⟨.nil, .nil, rfl⟩
   | cons u l ih =>
    intro hl
    obtain ⟨i1, i2, i3⟩ := ih fun v hv => hl v (List.mem_cons_of_mem _ hv)
    obtain ⟨a1, a2, a3⟩ := hl u List.mem_cons_self
    exact ⟨.cons a3 i1, .cons a1 i2, by rw [List.map_cons, List.map_cons, List.map_cons, i3, a2]⟩
  obtain ⟨v1, v2, v3⟩ := vals out.toList rel
  obtain ⟨e, he⟩ := sortedAll_at s.heap its out
  have lo : out.toList.length = its.length := by rw [eo]; exact po.length_eq
  have hlen : (out.toList.map toV).length ≤ sizeLine := by rw [List.length_map, lo, sizeLine_eq]; omega
  refine ⟨.ref (s.heap.objs.size + 1), _, I.laid (t' := s.toks) (a := s.heap.objs.size + 1) (o := .lst (out.toList.map toV)) (fun b o => sortedAll_old) (Nat.le_succ _) ⟨hlen, out.toList, e, v1, by simpa using he⟩, rfl, q _ _ (out.toList.map kk) (I.hok.fresh (Nat.le_succ _)) ?_ ?_ v2⟩
  ·rw [← ek, eo]
   exact po.map _
  ·rw [v3, eo, List.map_map, List.pairwise_map]
   exact hxs
end
end L2
set_option Elab.async false
set_option linter.all false
set_option maxRecDepth 100000
set_option maxHeartbeats 40000000
namespace PyProof.Rows.Tim
open PySem
def foldMin (lt : Value → Value → Bool) : Value → List Value → Value
 | b, [] => b
 | b, v :: r => foldMin lt (if lt v b = true then v else b) r
section
variable {prog : Program} {w : World} {A : Around} {R : Result → Shared → Prop} {lt : Value → Value → Bool} {vs : List Value} {h0 : Heap} {kw : List (Str × Value)}
def Kp (h0 h : Heap) : Prop := ∀ b o, h0.get? b = some o → h.get? b = some o
theorem Zb1 (hh : A.in1.handled = none) {I l S : Addr} (hlI : l ≠ I) (hSI : S ≠ I) (hSl : S ≠ l) (zI : h0.get? I = none) (zS : h0.get? S = none)
  (hcmp : ∀ (s' : Shared) u v (Q : Value → Shared → Prop) (E : Value → Shared → Prop), Kp h0 s'.heap → u ∈ vs → v ∈ vs → Q (.bool (lt u v)) s' → wpAny (model prog w) A.in1 (richCompare .Lt u v) Q E s') :
  ∀ (k j : Nat) (s : Shared) (vb : Value) (c : Nat), vs.length - j = k → j ≤ vs.length → s.heap.IsListIter I l j → s.heap.IsList l vs.toArray → vb ∈ vs → Kp h0 s.heap →
  s.heap.get? S = some { cls := .type "list", dict := none, data := .seq #[vb, vb] c, slots := #[] } →
  (∀ h' tk, Kp h0 h' → R (.ok (.ret (foldMin lt vb (vs.drop j)))) { s with heap := h', toks := tk }) →
  codeAny (model prog w) A (.builtin "min.loop" ⟨[.ref I, .none, .ref S], kw⟩) R s := by
 have hname : (toString "min" ++ toString ".loop" : String) = "min.loop" := by decide
 have W := Walks.list (prog := prog) (w := w) (A := A.in1) hh I l hlI vs.toArray
 have hsz : vs.toArray.size = vs.length := List.size_toArray ..
 have ne : ∀ b o, h0.get? b = some o → b ∉ [I] ∧ b ≠ S := fun b o e => ⟨fun m => (by rw [List.mem_singleton.mp m, zI] at e; cases e), fun m => (by rw [m, zS] at e; cases e)⟩
 intro k
 induction k with
 | zero =>
  intro j s vb c hk hj hit hli hb hkp hS hR
  have hin : j = vs.toArray.size := by omega
  refine codeAny_builtin F.entry_min_loop ?_
  rw [Around.under_plainId F.plain_min_loop _]
  show wpAny _ A.in1 (seqItems? (.ref S) >>= _) _ _ s
  refine wpAny_bind (wpAny_seqItems hS rfl ?_)
  show wpAny _ A.in1 (tryCatch (pyNext (.ref I)) _ >>= _) _ _ s
  refine wpAny_bind (wpAny_tryCatch (W.done s _ _ (hin ▸ ⟨hit, hli⟩) fun h' tk hk' => ?_))
  have hS' := hk' S _ (by simpa using hSI) hS
  show wpAny _ A.in1 (updateSeq S (fun _ => #[]) >>= _) _ _ _
  refine wpAny_bind ?_
  refine wpAny_updateSeq hS' rfl (wpAny_bind (wpAny_letGo (wpAny_pure ?_)))
  have e : vs.drop j = [] := List.drop_eq_nil_of_le (by omega)
  rw [e] at hR
  exact hR _ tk fun b o q => (Heap.get?_update_other _ _ (Ne.symm (ne b o q).2)).trans (hk' b o (ne b o q).1 (hkp b o q))
 | succ k ih =>
  intro j s vb c hk hj hit hli hb hkp hS hR
  have hlt : j < vs.length := by omega
  refine codeAny_builtin F.entry_min_loop ?_
  rw [Around.under_plainId F.plain_min_loop _]
  show wpAny _ A.in1 (seqItems? (.ref S) >>= _) _ _ s
  refine wpAny_bind (wpAny_seqItems hS rfl ?_)
  show wpAny _ A.in1 (tryCatch (pyNext (.ref I)) _ >>= _) _ _ s
  refine wpAny_bind (wpAny_tryCatch (W.item j s _ _ (by omega) ⟨hit, hli⟩ fun v h' tk hP hst' hk' => ?_))
  have hv : vs[j]? = some v := by simpa using hP
  have hvm : v ∈ vs := List.mem_of_getElem? hv
  have hS' := hk' S _ (by simpa using hSI) hS
  have kp' : Kp h0 h' := fun b o q => hk' b o (ne b o q).1 (hkp b o q)
  have ed : vs.drop j = v :: vs.drop (j + 1) := by
   have e2 : vs[j] = v := (List.getElem?_eq_some_iff.mp hv).2
   rw [List.drop_eq_getElem_cons hlt, e2]
  rw [ed] at hR
  show wpAny _ A.in1 (tryCatch (holding [v, v] (richCompare .Lt v vb >>= _)) _ >>= _) _ _ _
  refine wpAny_bind (wpAny_tryCatch (wpAny_holding (wpAny_bind (hcmp _ v vb _ _ kp' hvm hb ?_))))
  refine wpAny_bind (wpAny_holding (wpAny_truthy_bool ?_))
  refine wpAny_bind (wpAny_letGo (wpAny_pure ?_))
  cases hb' : lt v vb with
  | true =>
   simp only [if_true]
   refine wpAny_bind ?_
   refine wpAny_updateSeq hS' rfl (wpAny_bind (wpAny_letGo ?_))
   rw [hname]
   have fr := W.frame (j + 1) _ (h'.update S (Obj.mapSeq fun _ => #[v, v])) hst' fun b hbf o e => (Heap.get?_update_other _ _ (fun h : S = b => by
    simp only [List.mem_cons, List.not_mem_nil, or_false] at hbf
    rcases hbf with q | q
    ·exact hSI (h.trans q)
    ·exact hSl (h.trans q))).trans e
   refine wpAny_pure ⟨plainId_quiet F.plain_min_loop _, ih (j + 1) _ v _ (by omega) hlt fr.1 fr.2 hvm (fun b o q => (Heap.get?_update_other _ _ (Ne.symm (ne b o q).2)).trans (kp' b o q)) (Heap.get?_update_self _ hS' rfl) fun h'' tk'' hk'' => ?_⟩
   have z := hR h'' tk'' hk''
   unfold foldMin at z
   rw [if_pos hb'] at z
   exact z
  | false =>
   simp only [Bool.false_eq_true, if_false]
   refine wpAny_bind (wpAny_letGo ?_)
   rw [hname]
   refine wpAny_pure ⟨plainId_quiet F.plain_min_loop _, ih (j + 1) _ vb c (by omega) hlt hst'.1 hst'.2 hb kp' hS' fun h'' tk'' hk'' => ?_⟩
   have z := hR h'' tk'' hk''
   unfold foldMin at z
   rw [if_neg (by rw [hb']; exact Bool.false_ne_true)] at z
   exact z
theorem JA (a v : Value) : argsOk "min" ⟨[a], [(Str.ofString "default", v)]⟩ := by unfold argsOk; kernel_rfl
theorem Zbl {E : Value → Shared → Prop} {s : Shared} {Q : Value → Shared → Prop} {l : Addr} (hh : A.in1.handled = none) (hls : s.heap.IsList l vs.toArray)
  (hcmp : ∀ (s' : Shared) u v (Q : Value → Shared → Prop) (E : Value → Shared → Prop), Kp s.heap s'.heap → u ∈ vs → v ∈ vs → Q (.bool (lt u v)) s' → wpAny (model prog w) A.in1 (richCompare .Lt u v) Q E s')
  (h1 : ∀ h' tk, vs = [] → Kp s.heap h' → Q .none { s with heap := h', toks := tk }) (h2 : ∀ v r h' tk, vs = v :: r → Kp s.heap h' → Q (foldMin lt v r) { s with heap := h', toks := tk }) :
  wpAny (model prog w) A (call (.builtin "min") [.ref l] [(Str.ofString "default", .none)]) Q E s := by
 have hname : (toString "min" ++ toString ".loop" : String) = "min.loop" := by decide
 obtain ⟨ol, hol, _⟩ := id hls
 have hll : l < s.heap.objs.size := Heap.lt_size hol
 refine kmk_tree PySem.F.kind_min PySem.F.plain_min PySem.F.entry_min (JA _ _) ?_
 show wpAny _ A.in1 (Builtin.Builtins.bindParams "min" ["key", "default"] 0 ⟨[], [(Str.ofString "default", .none)]⟩ >>= _) _ _ s
 refine wpAny_bind (wpAny_of_eq (show Builtin.Builtins.bindParams "min" ["key", "default"] 0 ⟨[], [(Str.ofString "default", .none)]⟩ = pure [none, some .none] from rfl) ?_)
 refine wpAny_bind (wpAny_pure ?_)
 refine wpAny_bind (wpAny_pyIter_list hls ?_)
 refine wpAny_bind (wpAny_newList ?_ (Nat.zero_le _))
 rw [hname]
 have hS : (s.heap.push { cls := .type "list_iterator", data := .fields #[.ref l, .int 0 0] }).objs.size = s.heap.objs.size + 1 := size_push' ..
 have hlI : l ≠ s.heap.objs.size := Nat.ne_of_lt hll
 have hSI : (s.heap.push { cls := .type "list_iterator", data := .fields #[.ref l, .int 0 0] }).objs.size ≠ s.heap.objs.size := by rw [hS]; exact Nat.ne_of_gt (Nat.lt_succ_self _)
 have hSl : (s.heap.push { cls := .type "list_iterator", data := .fields #[.ref l, .int 0 0] }).objs.size ≠ l := by rw [hS]; exact Nat.ne_of_gt (Nat.lt_succ_of_lt hll)
 have zI : s.heap.get? s.heap.objs.size = none := Heap.get?_none_of_le (Nat.le_refl _)
 have zS : s.heap.get? (s.heap.push { cls := .type "list_iterator", data := .fields #[.ref l, .int 0 0] }).objs.size = none := Heap.get?_none_of_le (by rw [hS]; exact Nat.le_succ _)
 refine wpAny_pure ⟨plainId_quiet PySem.F.plain_min_loop _, ?_⟩
 have kpH : Kp s.heap ((s.heap.push { cls := .type "list_iterator", data := .fields #[.ref l, .int 0 0] }).push (seqObj "list" #[] 0)) := fun b o e => Heap.get?_push_of_some _ (Heap.get?_push_of_some _ e)
 have gI : ((s.heap.push { cls := .type "list_iterator", data := .fields #[.ref l, .int 0 0] }).push (seqObj "list" #[] 0)).get? s.heap.objs.size = some { cls := .type "list_iterator", data := .fields #[.ref l, .int 0 0] } :=
  Heap.get?_push_of_some _ (Heap.get?_push_size _ rfl)
 have gS : ((s.heap.push { cls := .type "list_iterator", data := .fields #[.ref l, .int 0 0] }).push (seqObj "list" #[] 0)).get? (s.heap.push { cls := .type "list_iterator", data := .fields #[.ref l, .int 0 0] }).objs.size = some (seqObj "list" #[] 0) := Heap.get?_push_size _ rfl
 have lH : ((s.heap.push { cls := .type "list_iterator", data := .fields #[.ref l, .int 0 0] }).push (seqObj "list" #[] 0)).IsList l vs.toArray := hls.at fun o e => kpH _ _ e
 have W := Walks.list (prog := prog) (w := w) (A := A.in1) hh s.heap.objs.size l hlI vs.toArray
 have hsz : vs.toArray.size = vs.length := List.size_toArray ..
 have ne : ∀ b o, s.heap.get? b = some o → b ∉ [s.heap.objs.size] ∧ b ≠ (s.heap.push { cls := .type "list_iterator", data := .fields #[.ref l, .int 0 0] }).objs.size := fun b o e => ⟨fun m => (by rw [List.mem_singleton.mp m, zI] at e; cases e), fun m => (by rw [m, zS] at e; cases e)⟩
 refine codeAny_builtin PySem.F.entry_min_loop ?_
 rw [Around.under_plainId PySem.F.plain_min_loop _]
 show wpAny _ A.in1 (seqItems? (.ref _) >>= _) _ _ _
 refine wpAny_bind (wpAny_seqItems gS rfl ?_)
 show wpAny _ A.in1 (tryCatch (pyNext (.ref s.heap.objs.size)) _ >>= _) _ _ _
 cases hvs : vs with
 | nil =>
  refine wpAny_bind (wpAny_tryCatch (W.done _ _ _ ⟨⟨_, gI, rfl, by rw [hsz, hvs]; rfl⟩, lH⟩ fun h' tk hk' => ?_))
  refine wpAny_bind (wpAny_rule ?_)
  exact wpAny_pure (h1 h' tk hvs fun b o q => hk' b o (ne b o q).1 (kpH b o q))
 | cons v0 r0 =>
  refine wpAny_bind (wpAny_tryCatch (W.item 0 _ _ _ (by rw [hsz, hvs]; exact Nat.succ_pos _) ⟨⟨_, gI, rfl, rfl⟩, lH⟩ fun v h' tk' hP hst' hk' => ?_))
  have hv : v0 = v := by
   rw [hvs] at hP
   simpa using hP
  subst hv
  have gS' := hk' _ _ (by simpa using hSI) gS
  have kp' : Kp s.heap h' := fun b o q => hk' b o (ne b o q).1 (kpH b o q)
  show wpAny _ A.in1 (updateSeq (s.heap.push { cls := .type "list_iterator", data := .fields #[.ref l, .int 0 0] }).objs.size (fun _ => #[v0, v0]) >>= _) _ _ _
  refine wpAny_bind ?_
  refine wpAny_updateSeq gS' rfl ?_
  rw [hname]
  have fr := W.frame (0 + 1) _ (h'.update (s.heap.push { cls := .type "list_iterator", data := .fields #[.ref l, .int 0 0] }).objs.size (Obj.mapSeq fun _ => #[v0, v0])) hst' fun b hbf o e => (Heap.get?_update_other _ _ (fun h => by
    simp only [List.mem_cons, List.not_mem_nil, or_false] at hbf
    rcases hbf with q | q
    ·exact hSI (h.trans q)
    ·exact hSl (h.trans q))).trans e
  refine wpAny_pure ⟨plainId_quiet PySem.F.plain_min_loop _, Zb1 (lt := lt) (vs := vs) (h0 := s.heap) hh hlI hSI hSl zI zS hcmp _ 1 _ v0 _ rfl (by rw [hvs]; exact Nat.succ_le_succ (Nat.zero_le _)) fr.1 fr.2 (by rw [hvs]; exact List.mem_cons_self) (fun b o q => (Heap.get?_update_other _ _ (Ne.symm (ne b o q).2)).trans (kp' b o q)) (Heap.get?_update_self _ gS' rfl) fun h'' tk'' hk'' => ?_⟩
  have z := h2 v0 r0 h'' tk'' hvs hk''
  rw [hvs]
  exact z
end
theorem JC {lt : Value → Value → Bool} : ∀ {r : List Value} {b : Value}, foldMin lt b r ∈ b :: r
 | [], b => List.mem_cons_self
 | v :: r, b => by
  unfold foldMin
  rcases List.mem_cons.mp (JC (lt := lt) (r := r) (b := if lt v b = true then v else b)) with h | h
  ·rw [h]
   by_cases e : lt v b = true
   ·rw [if_pos e]; exact List.mem_cons_of_mem _ List.mem_cons_self
   ·rw [if_neg e]; exact List.mem_cons_self
  ·exact List.mem_cons_of_mem _ (List.mem_cons_of_mem _ h)
theorem Wm (key : Value → List Int) : ∀ {r : List Value} {b : Value}, ∀ v ∈ b :: r, lexB (key v) (key (foldMin (fun a b => lexB (key a) (key b)) b r)) = false
 | [], b, v, hv => by
  rw [List.mem_singleton.mp hv]
  cases h : lexB (key b) (key (foldMin (fun a b => lexB (key a) (key b)) b [])) with
  | false => rfl
  | true =>
   have := Z8 _ _ h
   exact absurd (h.symm.trans this) (by decide)
 | w :: r, b, v, hv => by
  have ih := fun v hv => Wm key (r := r) (b := if lexB (key w) (key b) = true then w else b) v hv
  show lexB (key v) (key (foldMin (fun a b => lexB (key a) (key b)) (if lexB (key w) (key b) = true then w else b) r)) = false
  have hd := ih _ List.mem_cons_self
  by_cases e : lexB (key w) (key b) = true
  ·rw [if_pos e] at hd ih ⊢
   rcases List.mem_cons.mp hv with rfl | hv
   ·exact YB _ _ _ hd (Z8 _ _ e)
   ·exact ih v hv
  ·rw [if_neg e] at hd ih ⊢
   rcases List.mem_cons.mp hv with rfl | hv
   ·exact hd
   ·rcases List.mem_cons.mp hv with rfl | hv
    ·exact YB _ _ _ hd (by simpa using e)
    ·exact ih v (List.mem_cons_of_mem _ hv)
end PyProof.Rows.Tim
namespace L2
open PySem PySem.Spec PyProof.Rows PyProof.Rows.Tim
theorem YJ : ∀ a b : List Int, HT.lexLt a b = lexB a b
 | [], [] => rfl
 | [], _ :: _ => rfl
 | _ :: _, [] => rfl
 | x :: a, y :: b => by
  unfold lexB
  rw [HT.lexLt_cons, YJ a b]
section
variable {X : Cx}
def tMinD (K : PySem.W.Frag) (te : TE) : TE := fun σ H Q => te σ H fun v H1 => ∃ (a : Addr) (vs : List V) (ks : List (List Int)), v = .ref a ∧ SqL K H1 a vs ∧ Paired (TpAt H1) vs ks ∧ (vs = [] → Q .non H1) ∧
 ∀ v k, v ∈ vs → k ∈ ks → TpAt H1 v k → (∀ k' ∈ ks, lexB k' k = false) → Q v H1
theorem ZcG {x : Str} {te : TE} {p px kp kpos pos : Pos} (hc : X.calm = true) (hu : X.A.units + 1 < cLine) (hg : Gl X "min") (hm : X.mg "min" = none) (he : PE X (.Name x px) te)
  (hall : (backToKw pos (keywordEach [⟨some "default", .Constant .none 0 kp, kpos⟩] X.env)).filterMap (·.1) = [Str.ofString "default"] := by rfl) :
  PE X (.Call (.Name "min" p) [.Name x px] [⟨some "default", .Constant .none 0 kp, kpos⟩] pos) (tMinD X.K te) := by
 intro pins s σ H Q I h
 refine wpAny_Call_Name_kw (YN I hg hm PyProof.Rows.Boot.«min» ?_ (by decide) (by decide))
 have pa : PA X [.Name x px] (tCons te tNil) := Za he Zc
 have pk : PK X [⟨some "default", .Constant .none 0 kp, kpos⟩] (tCons (tC .non) tNil) := ZcC Ys Zdp
 refine PyProof.Rows.callWith_kw (thn (pa pos pins s σ H (fun us H1 => match us with
  | [v] => ∃ (a : Addr) (vs : List V) (ks : List (List Int)), v = .ref a ∧ SqL X.K H1 a vs ∧ Paired (TpAt H1) vs ks ∧ (vs = [] → Q .non H1) ∧ ∀ v k, v ∈ vs → k ∈ ks → TpAt H1 v k → (∀ k' ∈ ks, lexB k' k = false) → Q v H1
  | _ => False) I h) fun us s1 ⟨vs1, H1, I1, r1, q1⟩ => ?_)
 match vs1, q1 with
 | [v], q1 =>
  obtain ⟨a, vs, ks, rfl, hq, pr, q1, q2⟩ := q1
  refine thn (pk pos pins s1 σ H1 (fun zs H2 => zs = [.non] ∧ H2 = H1) I1 ⟨rfl, rfl⟩) fun ws s2 ⟨zs, H2, I2, rz, e1, e2⟩ => ?_
  subst e1 e2
  obtain ⟨u, rfl, ru⟩ := vals1 r1
  obtain ⟨z, rfl, rz2⟩ := vals1 rz
  cases ru
  have ez : z = .none := rz2
  subst ez
  rw [hall]
  show wpAny _ _ (call (.builtin "min") [.ref a] [(Str.ofString "default", .none)]) _ _ _
  obtain ⟨its, rv, pl, _⟩ := I2.list hq
  have key : ∀ {vs : List V} {ks : List (List Int)} {its : List Value}, Paired (TpAt H2) vs ks → Vals vs its → ∀ u ∈ its, ∃ v ∈ vs, ∃ k ∈ ks, RelV v u ∧ TpAt H2 v k ∧ TupI s2.heap u k := by
   intro vs ks its pr
   induction pr generalizing its with
   | nil => intro rv; cases rv; intro u hu; cases hu
   | cons hh _ ih =>
    intro rv
    cases rv with
    | cons r1 r2 =>
     intro u hu
     rcases List.mem_cons.mp hu with rfl | hu
     ·obtain ⟨t, e, ht⟩ := id hh
      obtain ⟨items, ri, ⟨o, go, oc, n, od⟩, _⟩ := I2.tuple (SqT.of ht)
      refine ⟨_, List.mem_cons_self, _, List.mem_cons_self, r1, hh, ?_⟩
      subst e
      cases r1
      exact ⟨t, o, _, n, rfl, go, oc, od, by simpa using Yn ri⟩
     ·obtain ⟨v, hv, k, hk, w⟩ := ih r2 u hu
      exact ⟨v, List.mem_cons_of_mem _ hv, k, List.mem_cons_of_mem _ hk, w⟩
  have key2 : ∀ {vs : List V} {ks : List (List Int)} {its : List Value}, Paired (TpAt H2) vs ks → Vals vs its → ∀ k ∈ ks, ∃ u ∈ its, keyAt s2.heap u = k := by
   intro vs ks its pr
   induction pr generalizing its with
   | nil => intro rv k hk; cases hk
   | cons hh _ ih =>
    intro rv
    cases rv with
    | cons r1 r2 =>
     intro k hk
     rcases List.mem_cons.mp hk with rfl | hk
     ·obtain ⟨t, e, ht⟩ := id hh
      obtain ⟨items, ri, ⟨o, go, oc, n, od⟩, _⟩ := I2.tuple (SqT.of ht)
      refine ⟨_, List.mem_cons_self, ?_⟩
      subst e
      cases r1
      exact YO go od (by simpa using Yn ri)
     ·obtain ⟨u, hu, e⟩ := ih r2 k hk
      exact ⟨u, List.mem_cons_of_mem _ hu, e⟩
  refine Zbl (lt := fun u v => lexB (keyAt s2.heap u) (keyAt s2.heap v)) (I2.ok.hd hc) pl.isList (fun s' u v Q' E' kp hu1 hv1 hq' => ?_) (fun h' tk e kp => ?_) (fun v0 r h' tk e kp => ?_)
  ·obtain ⟨_, _, ku, _, _, _, tu, ou, iu, nu, rfl, gu, cu, du, ju⟩ := key pr rv u hu1
   obtain ⟨_, _, kv, _, _, _, tv, ov, iv, nv, rfl, gv, cv, dv, jv⟩ := key pr rv v hv1
   have e1 : keyAt s2.heap (.ref tu) = ku := YO gu du ju
   have e2 : keyAt s2.heap (.ref tv) = kv := YO gv dv jv
   try dsimp only at hq'
   rw [e1, e2, ← YJ] at hq'
   exact HT.lt_tupInts ⟨_, kp _ _ gu, cu, nu, du⟩ ⟨_, kp _ _ gv, cv, nv, dv⟩ ju jv hu hq'
  ·subst e
   cases rv
   exact ⟨.non, H2, I2.kept kp, rfl, q1 rfl⟩
  ·have hm := JC (lt := fun u v => lexB (keyAt s2.heap u) (keyAt s2.heap v)) (r := r) (b := v0)
   have hle := Wm (keyAt s2.heap) (r := r) (b := v0)
   generalize foldMin (fun u v => lexB (keyAt s2.heap u) (keyAt s2.heap v)) v0 r = m at hm hle
   rw [← e] at hm hle
   obtain ⟨v, hv, k, hk, rvm, htp, tu, ou, iu, nu, e3, gu, cu, du, ju⟩ := key pr rv m hm
   have e1 : keyAt s2.heap m = k := by rw [e3]; exact YO gu du ju
   refine ⟨v, H2, I2.kept kp, rvm, q2 v k hv hk htp fun k' hk' => ?_⟩
   obtain ⟨u', hu', e4⟩ := key2 pr rv k' hk'
   have := hle u' hu'
   rw [e1, e4] at this
   exact this
end
end L2
set_option Elab.async false
set_option linter.all false
set_option maxRecDepth 100000
set_option maxHeartbeats 4000000
namespace U
open PySem L2 PyProof.Rows PyProof.Rows.Tim
def stOf (p : Step4) : Step4 := (p.2.2.1 - p.1, p.2.2.2 - p.2.1, p.1, p.2.2.1)
def Rise (ks : List Step4) : Prop := (ks.map key4).Pairwise fun a b => lexB b a = false
theorem StepAt.same {H H' : Hp} {v : V} {q : Step4} (h : StepAt H v q) (s : Same H H') : StepAt H' v q := by
 obtain ⟨t, t', e, h1, h2⟩ := h
 exact ⟨t, t', e, s _ _ h1, s _ _ h2⟩
theorem ZcA (xs : List V) : (pointsL xs).length ≤ xs.length := by
 unfold pointsL
 have := List.length_filterMap_le (fun l : Nat => (rowAt xs l).map fun r => ((l : Int), r)) (List.range xs.length)
 rw [List.length_range] at this
 exact this
theorem UL {α β : Type} (f : α → List β) (n : Nat) : ∀ l : List α, (∀ a ∈ l, (f a).length ≤ n) → (l.flatMap f).length ≤ l.length * n
 | [], _ => by simp
 | a :: l, h => by
  have h1 := h a List.mem_cons_self
  have h2 := UL f n l fun b hb => h b (List.mem_cons_of_mem _ hb)
  rw [List.flatMap_cons, List.length_append, List.length_cons, Nat.succ_mul]
  omega
theorem ZaW (ps : List (Int × Int)) : (pairsL ps).length ≤ ps.length * ps.length := by
 unfold pairsL pairsTo
 rw [List.take_length]
 refine UL _ _ _ fun a _ => ?_
 unfold pairsOf
 rw [List.length_map]
 refine Nat.le_trans (List.length_filter_le ..) ?_
 rw [List.length_take]
 exact Nat.min_le_right ..
theorem len12 {H : Hp} {x y : V} {wd hg : Int} {xs : List V} (l : LayAt H x y wd hg xs) : xs.length ≤ 12 := by
 have h1 := l.2.2.len
 have h2 := l.1.2.2.1
 omega
theorem pairs144 {H : Hp} {x y : V} {wd hg : Int} {xs : List V} (l : LayAt H x y wd hg xs) : (pairsL (pointsL xs)).length ≤ 144 := by
 have h1 := ZaW (pointsL xs)
 have h2 := ZcA xs
 have h3 := len12 l
 have h4 : (pointsL xs).length ≤ 12 := by omega
 have h5 := Nat.mul_le_mul h4 h4
 omega
section
variable {P : Program} {w : World} {K : PySem.W.Frag} {mg : Str → Option Value} {base : Heap}
abbrev sSteps : Stmt := top 29
def spSteps : Sp := fun vs H Q _ => ∃ x y wd hg xs, vs = [x, y] ∧ LayAt H x y wd hg xs ∧ ∀ (l : Addr) (H' : Hp) (rs : List V) (ks : List Step4), Same H H' → H l = none → H' l = some (.lst rs) → Paired (StepAt H') rs ks → ks.Perm ((pairsL (pointsL xs)).map stOf) → Rise ks → Q (.ref l) H'
theorem scSteps : FnScope ["board", "lay"] ["board", "lay"] (defScope sSteps) := ⟨rfl, rfl, rfl, by decide +kernel, rfl, by decide +kernel, by decide +kernel⟩
theorem ZbQ {f : Addr} {fd : FuncData} (F : Fun K "steps" "steps" sSteps f fd) (G : Gs mg) (D1 : Def P w K mg base 8 "point_pairs" ["board", "lay"] spPairs) : FnOk P w K mg base CX0 9 f fd ["board", "lay"] spSteps := by
 refine F.ok scSteps (fun vs H Q E h => ?_) (fun cdv A outer s H vs Q E hr h => ?_)
 ·obtain ⟨x, y, wd, hg, xs, rfl, _⟩ := h
  rfl
 ·obtain ⟨x, y, wd, hg, xs, rfl, l, q⟩ := h
  have hu := hr.units
  refine ⟨_, Zm (Zx (Zj (YK (Nat.lt_of_le_of_lt (Nat.add_le_add_left (by decide : 2 ≤ 64) _) hu)) rfl G.sorted PyProof.Rows.Boot.«sorted» (Za (Yb ["line", "row", "other", "there"] 4 [] (ZX (Zk D1 hr (Za (pv 0) (Za (pv 1) Zc))))
    (fun C s H fp => show PG (blk _ _ _ C s H fp) _ (gTup K 4 (gCons (gName 0) (gCons (gName 1) (gCons (gName 2) (gCons (gName 3) gNil))))) from ZT rfl (Zn (pb 0) (Zn (pb 1) (Zn (pb 2) (Zn (pb 3) ZK))))) (fun C s H fp => Yp)
    (fun C s H fp D => ZJ rfl (Zv (Za (Zv (Za (Zp YI (pv 2) (pv 0)) (Za (Zp YI (pv 3) (pv 1)) Zc))) (Za (pv 0) (Za (pv 2) Zc)))))) Zc))), ?_⟩
  refine ⟨x, rfl, y, rfl, x, y, wd, hg, xs, rfl, l, fun fa H1 ps s1 hfn hf pr => ?_⟩
  have hlen := pairs144 l
  generalize hqs : pairsL (pointsL xs) = qs at pr q hlen
  have hlq : ps.length = qs.length := Paired.length pr
  refine ⟨fa, rfl, ⟨ps, SqL.of hf⟩, ?_⟩
  refine Yf (xs := ps) (fun i ys σ H2 => ∃ v0 v1 v2 v3, σ = [v0, v1, v2, v3] ∧ Same H1 H2 ∧ Paired (StepAt H2) ys ((qs.take i).map stOf) ∧ ys.length ≤ i) ⟨_, _, _, _, rfl, Same.refl _, .nil, Nat.zero_le _⟩ (fun i ys σ H2 _ ⟨_, _, _, _, _, s2, _⟩ => SqL.of (s2 _ _ hf)) ?_ ?_
  ·rintro i v ys σ H2 hv ⟨v0, v1, v2, v3, rfl, s2, pr2, hl2⟩
   obtain ⟨⟨a, b, c, d⟩, hq, tt, rfl, ht0⟩ := Yx pr hv
   have hi : i < ps.length := (List.getElem?_eq_some_iff.mp hv).1
   refine ⟨tt, _, rfl, SqT.of (s2 _ _ ht0), rfl, _, _, rfl, _, _, rfl, _, _, rfl, _, _, rfl, rfl, ?_⟩
   refine ⟨_, rfl, _, rfl, c, a, rfl, rfl, _, rfl, _, rfl, d, b, rfl, rfl, (by show 2 ≤ sizeLine; decide), fun t' ht' => ?_⟩
   refine ⟨_, rfl, _, rfl, (by show 3 ≤ sizeLine; decide), fun t ht => ⟨by rw [sizeLine_eq]; omega, ?_⟩⟩
   generalize hH4 : upd H2 t' (HO.tup [V.int (c - a), V.int (d - b)]) = H4 at ht
   have s4 : Same H2 H4 := fun e o hc => by rw [← hH4, Zf (Zd hc ht')]; exact hc
   have ht4 : H4 t' = some (.tup [V.int (c - a), V.int (d - b)]) := by rw [← hH4]; exact Zb
   generalize hH5 : upd H4 t (HO.tup [V.ref t', V.int a, V.int c]) = H5
   have s5 : Same H4 H5 := fun e o hc => by rw [← hH5, Zf (Zd hc ht)]; exact hc
   have ht5 : H5 t = some (.tup [V.ref t', V.int a, V.int c]) := by rw [← hH5]; exact Zb
   refine ⟨_, _, _, _, rfl, s2.trans (s4.trans s5), ?_, by rw [List.length_append]; simp; omega⟩
   rw [List.take_add_one, hq, List.map_append]
   exact Paired.snoc (Paired.mapP pr2 fun v q' hq => hq.same (s4.trans s5)) ⟨t, t', rfl, ht5, s5 _ _ ht4⟩
  ·rintro ys σ H2 ⟨v0, v1, v2, v3, rfl, s2, pr2, hl2⟩ p hp
   have s4 : Same H2 (upd H2 p (.lst ys)) := fun c o hc => by rw [Zf (Zd hc hp)]; exact hc
   rw [hlq, List.take_length] at pr2
   refine ⟨p, ys, qs.map stOf, rfl, SqL.of Zb, Paired.mapP pr2 fun v q' hq => hq.same s4, by omega, fun r vs' ks' hrn hperm hpw pr3 => ?_⟩
   have s5 : Same (upd H2 p (.lst ys)) (upd (upd H2 p (.lst ys)) r (.lst vs')) := fun c o hc => by rw [Zf (Zd hc hrn)]; exact hc
   exact q r _ vs' ks' (s1.trans (s2.trans (s4.trans s5))) ((s1.trans (s2.trans s4)).free hrn) Zb (Paired.mapP pr3 fun v q' hq => StepAt.same hq s5) hperm hpw
end
end U
set_option Elab.async false
set_option linter.all false
set_option maxRecDepth 100000
namespace L2
open PySem PySem.Spec PyProof.Rows
def ItzM (K : PySem.W.Frag) (l1 l2 : Addr) : It :=
 ⟨fun i H => ∃ xs ys x y, SqL K H l1 xs ∧ SqL K H l2 ys ∧ xs[i]? = some x ∧ ys[i]? = some y,
  fun i H v H' => ∃ (T : Addr) (x y : V), v = .ref T ∧ H T = none ∧ H' = upd H T (.par [x, y]) ∧ ∀ xs ys, SqL K H l1 xs → SqL K H l2 ys → xs[i]? = some x ∧ ys[i]? = some y,
  fun i H => ∃ xs ys, SqL K H l1 xs ∧ SqL K H l2 ys ∧ min xs.length ys.length = i⟩
theorem ZaO {P : Program} {w : World} {K : PySem.W.Frag} {elts : List Expr} {kk : Nat} {pos : Pos} (z TI TO i1 i2 l1 l2 : Addr) (D : ZipApart z TI TO i1 i2 l1 l2) :
  Turn P w K (.Tuple elts kk pos) (ItzM K l1 l2) [z, TI, TO, i1, i2] z (fun i h => IsZip h z TI TO .none ∧ IsPair h TI (.ref i1) (.ref i2) ∧ (∃ a b, IsPair h TO a b) ∧ h.IsListIter i1 l1 i ∧ h.IsListIter i2 l2 i) where
 mem := by simp
 obj := fun i h st b hb => by
  obtain ⟨a1, a2, ⟨u, v, a3⟩, ⟨o4, h4, _, d4⟩, ⟨o5, h5, _, d5⟩⟩ := st
  simp only [List.mem_cons, List.not_mem_nil, or_false] at hb
  rcases hb with rfl | rfl | rfl | rfl | rfl
  ·exact ⟨_, a1, fun v z => by cases z⟩
  ·exact ⟨_, a2, fun v z => by cases z⟩
  ·exact ⟨_, a3, fun v z => by cases z⟩
  ·exact ⟨_, h4, fun v z => by rw [d4] at z; cases z⟩
  ·exact ⟨_, h5, fun v z => by rw [d5] at z; cases z⟩
 keep := fun i h h' st k => by
  obtain ⟨a1, a2, ⟨u, v, a3⟩, a4, a5⟩ := st
  exact ⟨k z (by simp) _ a1, k TI (by simp) _ a2, ⟨u, v, k TO (by simp) _ a3⟩, a4.at fun o q => k i1 (by simp) o q, a5.at fun o q => k i2 (by simp) o q⟩
 item := by
  intro X hP hw hK hc i pins s σ H E I hf st hg
  subst hP hw hK
  obtain ⟨xs, ys, x, y, hq1, hq2, hx, hy⟩ := hg
  obtain ⟨is1, rv1, pl1, hz1⟩ := I.list hq1
  obtain ⟨is2, rv2, pl2, hz2⟩ := I.list hq2
  obtain ⟨u, hu, ru⟩ := rv1.get hx
  obtain ⟨v, hv, rv⟩ := rv2.get hy
  have hil : i < min is1.toArray.size is2.toArray.size := by
   have e1 := (List.getElem?_eq_some_iff.mp hu).1
   have e2 := (List.getElem?_eq_some_iff.mp hv).1
   simp only [List.size_toArray]
   omega
  have W := WalksT.zip2 (prog := X.prog) (w := X.w) (A := X.A) (I.ok.hd hc) z TI TO i1 i2 l1 l2 D is1.toArray is2.toArray
  obtain ⟨a1, a2, a3, a4, a5⟩ := st
  refine W.item i s _ _ hil ⟨a1, a2, a3, a4, a5, pl1.isList, pl2.isList⟩ fun T vals h' tk hP hTs hTup hmid hk => ⟨_, rfl, W.go elts kk pos i T _ _ _ hmid fun h'' st'' hk'' => ?_⟩
  obtain ⟨x2, y2, hx2, hy2, rfl⟩ := hP
  have hx2' : is1[i]? = some x2 := by simpa using hx2
  have hy2' : is2[i]? = some y2 := by simpa using hy2
  rw [hu] at hx2'
  rw [hv] at hy2'
  cases hx2'
  cases hy2'
  have hTn : H T = none := I.hok.fresh hTs
  have both : ∀ b o, b ∉ [z, TO, i1, i2] → s.heap.get? b = some o → h''.get? b = some o := fun b o hb q => hk'' b o hb (hk b o hb q)
  have sub : ∀ b, b ∉ [z, TI, TO, i1, i2] → b ∉ [z, TO, i1, i2] := fun b hb hm => hb (by
   simp only [List.mem_cons, List.not_mem_nil, or_false] at hm ⊢
   rcases hm with h | h | h | h
   ·exact .inl h
   ·exact .inr (.inr (.inl h))
   ·exact .inr (.inr (.inr (.inl h)))
   ·exact .inr (.inr (.inr (.inr h))))
  have hTw : T ∉ [z, TO, i1, i2] := W.apart _ _ _ hmid
  have hTT : h''.IsTuple T #[u, v] := hTup.at fun o q => hk'' T o hTw q
  have neT : ∀ b o, s.heap.get? b = some o → b ≠ T := fun b o q => Nat.ne_of_lt (Nat.lt_of_lt_of_le (Heap.lt_size q) hTs)
  have neT' : ∀ b o, H b = some o → b ≠ T := fun b o q => Zd q hTn
  have trk : ∀ b o, H b = some o → b ∉ [z, TI, TO, i1, i2] := fun b o q hm => by
   have := (hf b hm).1
   rw [this] at q; cases q
  refine ⟨.ref T, upd H T (.par [x, y]), ?_, rfl, ⟨T, x, y, rfl, hTn, rfl, fun as bs ha hb => by rw [I.list_inj ha hq1, I.list_inj hb hq2]; exact ⟨hx, hy⟩⟩, ⟨st''.1, st''.2.1, st''.2.2.1, st''.2.2.2.1, st''.2.2.2.2.1⟩, fun b hb => ?_⟩
  ·refine (show Inv X pins σ (upd H T (.par [x, y])) { s with heap := h'', toks := tk } from ?_)
   refine I.call (g' := s.gens) (d' := s.drawn) (t' := tk) (h' := h'') (ch := [z, TI, TO, i1, i2]) ⟨fun b o q _ _ hx => both b o (sub b hx) q, fun b o q _ _ hx => ⟨o.slots, both b o (sub b hx) q⟩, fun b o q n hx => by rw [Zf (neT b o q)]; exact n, fun b o q hx => ⟨o, both b o (sub b hx) q⟩,
    fun b ys q => by rw [Zf (neT' b _ q)]; exact q, fun b o u q => by rw [Zf (neT' b _ q)]; exact q, fun b ps q => ⟨#[], by rw [Zf (neT' b _ q), q]; simp⟩⟩ (fun b o q => ?_) I.bare fun b hb => ?_
   ·by_cases hb : b = T
    ·subst hb
     rw [Zb] at q
     cases q
     exact ⟨by show 2 ≤ sizeLine; decide, [u, v], .cons ru (.cons rv .nil), hTT⟩
    ·rw [Zf hb] at q
     refine (I.hok b o q).stay (fun c ob hc' q' => both c ob ?_ q') (fun c q' => by rw [Zf (neT' c _ q')]; exact q') fun c ys q' => by rw [Zf (neT' c _ q')]; exact q'
     rcases hc' with z' | z'
     ·rw [z']; exact sub _ (trk b o q)
     ·exact sub _ (trk c _ z')
   ·obtain ⟨f0, f1, f2, f3, f4, f5⟩ := hf b hb
    exact ⟨f3, f1, f4, f5⟩
  ·have hne : b ≠ T := by
    obtain ⟨f0, _⟩ := hf b hb
    have : ∃ o, s.heap.get? b = some o := by
     obtain ⟨u', v', a3'⟩ := a3
     obtain ⟨o4, h4, _⟩ := a4
     obtain ⟨o5, h5, _⟩ := a5
     simp only [List.mem_cons, List.not_mem_nil, or_false] at hb
     rcases hb with rfl | rfl | rfl | rfl | rfl
     ·exact ⟨_, a1⟩
     ·exact ⟨_, a2⟩
     ·exact ⟨_, a3'⟩
     ·exact ⟨_, h4⟩
     ·exact ⟨_, h5⟩
    obtain ⟨o, ho⟩ := this
    exact neT b o ho
   rw [Zf hne]
   exact (hf b hb).1
 done := by
  intro X hP hw hK hc i pins s σ H E I hf st hg
  subst hP hw hK
  obtain ⟨xs, ys, hq1, hq2, hx⟩ := hg
  obtain ⟨is1, rv1, pl1, hz1⟩ := I.list hq1
  obtain ⟨is2, rv2, pl2, hz2⟩ := I.list hq2
  have e1 := rv1.length
  have e2 := rv2.length
  have W := WalksT.zip2 (prog := X.prog) (w := X.w) (A := X.A) (I.ok.hd hc) z TI TO i1 i2 l1 l2 D is1.toArray is2.toArray
  have hn : i = min is1.toArray.size is2.toArray.size := by simp only [List.size_toArray]; omega
  obtain ⟨a1, a2, a3, a4, a5⟩ := st
  rw [hn] at a4 a5
  have sub : ∀ b, b ∉ [z, TI, TO, i1, i2] → b ∉ [z, TO, i1, i2] := fun b hb hm => hb (by
   simp only [List.mem_cons, List.not_mem_nil, or_false] at hm ⊢
   rcases hm with h | h | h | h
   ·exact .inl h
   ·exact .inr (.inr (.inl h))
   ·exact .inr (.inr (.inr (.inl h)))
   ·exact .inr (.inr (.inr (.inr h))))
  refine W.done s _ _ ⟨a1, a2, a3, a4, a5, pl1.isList, pl2.isList⟩ fun h' tk hk => ⟨rfl, ?_⟩
  have trk : ∀ b o, H b = some o → b ∉ [z, TI, TO, i1, i2] := fun b o q hm => by
   have := (hf b hm).1
   rw [this] at q; cases q
  refine I.call (g' := s.gens) (d' := s.drawn) (t' := tk) (h' := h') (ch := [z, TI, TO, i1, i2]) ⟨fun b o q _ _ hx => hk b o (sub b hx) q, fun b o q _ _ hx => ⟨o.slots, hk b o (sub b hx) q⟩, fun b o q n hx => n, fun b o q hx => ⟨o, hk b o (sub b hx) q⟩, fun b ys q => q, fun b o u q => q, fun b ps q => ⟨#[], by rw [q]; simp⟩⟩ (fun b o q => ?_) I.bare fun b hb => ?_
  ·refine (I.hok b o q).stay (fun c ob hc' q' => hk c ob ?_ q') (fun _ q' => q') fun _ _ q' => q'
   rcases hc' with z' | z'
   ·rw [z']; exact sub _ (trk b o q)
   ·exact sub _ (trk c _ z')
  ·obtain ⟨f0, f1, f2, f3, f4, f5⟩ := hf b hb
   exact ⟨f3, f1, f4, f5⟩
 self := fun A i s Q E st h => wpAny_pyIter_zip st.1 h
section
variable {X : Cx} {elts : List Expr} {kk : Nat} {tp : Pos}
def iZipM (K : PySem.W.Frag) (ta : TA) : TI := fun σ H R => ta σ H fun vs H1 => ∃ l1 l2, vs = [.ref l1, .ref l2] ∧ (∃ xs ys, SqL K H1 l1 xs ∧ SqL K H1 l2 ys) ∧ R (ItzM K l1 l2) H1
theorem Zav {a b : Expr} {ta : TA} {p pos : Pos} (hg : Gl X "zip") (hm : X.mg "zip" = none) (ha : PA X [a, b] ta) (hs : starEach [a, b] X.env = [(false, eval a X.env), (false, eval b X.env)] := by rfl) (hs2 : starEach [b] X.env = [(false, eval b X.env)] := by rfl) :
  PI X (.Tuple elts kk tp) (.Call (.Name "zip" p) [a, b] [] pos) (iZipM X.K ta) := by
 intro pins s σ H R I h
 refine Call_ (YN I hg hm PyProof.Rows.Boot.«zip» (PyProof.Rows.callWith_type1 (thn (ha pos pins s σ H _ I h) fun us s1 ⟨vs, H1, I1, r1, q1⟩ => ?_) (by rw [hs, hs2]) (by rw [hs2]; rfl)))
 obtain ⟨l1, l2, e, ⟨xs, ys, hq1, hq2⟩, q⟩ := q1
 subst e
 obtain ⟨u, v, rfl, ru, rv⟩ := vals2 r1
 cases ru
 cases rv
 obtain ⟨is1, rv1, pl1, hz1⟩ := I1.list hq1
 obtain ⟨is2, rv2, pl2, hz2⟩ := I1.list hq2
 have t1 : l1 < s1.heap.objs.size := by obtain ⟨o, ho, _⟩ := pl1.isList; exact Heap.lt_size ho
 have t2 : l2 < s1.heap.objs.size := by obtain ⟨o, ho, _⟩ := pl2.isList; exact Heap.lt_size ho
 have D := WD s1.heap.objs.size l1 l2 t1 t2
 refine call_zip_2 pl1.isList pl2.isList fun h' b1 b2 b3 b4 b5 b6 hk => wpAny_pyIter_zip b1 ?_
 have I2 : Inv X pins σ H1 { s1 with heap := h' } := I1.kept (t' := s1.toks) hk
 refine ⟨s1.heap.objs.size + 4, [s1.heap.objs.size + 4, s1.heap.objs.size + 2, s1.heap.objs.size + 3, s1.heap.objs.size, s1.heap.objs.size + 1], _, _, H1, rfl, I2,
  ZaO _ _ _ _ _ l1 l2 D, ⟨b1, b2, ⟨_, _, b3⟩, b4, b5⟩, fun b hb => ?_, q⟩
 have hbs : s1.heap.objs.size ≤ b := by
  simp only [List.mem_cons, List.not_mem_nil, or_false] at hb
  rcases hb with z | z | z | z | z <;> rw [z] <;> first | exact Nat.le_refl _ | exact Nat.le_add_right _ _
 exact I1.fpOk hbs (I1.hok.fresh hbs)
end
theorem WK {K : PySem.W.Frag} {l1 l2 : Addr} {xs zs : List V} {g : TG} {tt : TT} {ti : TC} {ys : List V} {σ : St} {H : Hp} {Q : List V → St → Hp → Prop} (Pv : Nat → List V → St → Hp → Prop) (h0 : Pv 0 ys σ H)
  (hl : ∀ i ys σ H, i ≤ min xs.length zs.length → Pv i ys σ H → SqL K H l1 xs ∧ SqL K H l2 zs)
  (hs : ∀ i x y T ys σ H, xs[i]? = some x → zs[i]? = some y → H T = none → Pv i ys σ H → g (.ref T) σ (upd H T (.par [x, y])) fun σ2 H2 => tt σ2 H2 fun b H3 => if b = true then ti ys σ2 H3 (Pv (i + 1)) else Pv (i + 1) ys σ2 H3)
  (hd : ∀ ys σ H, Pv (min xs.length zs.length) ys σ H → Q ys σ H) : tNestW g tt ti (ItzM K l1 l2) ys σ H Q := by
 refine ⟨fun i m ys σ H => m = min xs.length zs.length - i ∧ i ≤ min xs.length zs.length ∧ Pv i ys σ H, ⟨min xs.length zs.length, by simp, Nat.zero_le _, h0⟩, ?_⟩
 rintro i m ys σ H ⟨rfl, hi, p⟩
 obtain ⟨q1, q2⟩ := hl i ys σ H hi p
 by_cases hlt : i < min xs.length zs.length
 ·have h1 : i < xs.length := by omega
  have h2 : i < zs.length := by omega
  refine .inr ⟨⟨xs, zs, xs[i], zs[i], q1, q2, by simp [h1], by simp [h2]⟩, Pv (i + 1), fun ys' σ' H' p' => ⟨min xs.length zs.length - (i + 1), by omega, rfl, hlt, p'⟩, fun x H' y => ?_⟩
  obtain ⟨T, a, b, e1, e2, e3, e4⟩ := y
  subst e1 e3
  obtain ⟨f1, f2⟩ := e4 xs zs q1 q2
  exact hs i a b T ys σ H f1 f2 e2 p
 ·have e : i = min xs.length zs.length := by omega
  subst e
  exact .inl ⟨⟨xs, zs, q1, q2, rfl⟩, hd ys σ H p⟩
end L2
set_option Elab.async false
set_option linter.all false
set_option maxRecDepth 100000
set_option maxHeartbeats 4000000
namespace U
open PySem L2 PyProof.Rows PyProof.Rows.Tim
theorem WL (a b : Int) (l m : List Int) : lexB (a :: l) (b :: m) = true ↔ a < b ∨ (a = b ∧ lexB l m = true) := by
 have z : lexB (a :: l) (b :: m) = if a = b then lexB l m else decide (a < b) := rfl
 rw [z]
 by_cases e : a = b
 ·rw [if_pos e]
  constructor
  ·exact fun h => .inr ⟨e, h⟩
  ·rintro (h | h)
   ·omega
   ·exact h.2
 ·rw [if_neg e, decide_eq_true_eq]
  constructor
  ·exact fun h => .inl h
  ·rintro (h | h)
   ·exact h
   ·exact absurd h.1 e
theorem UD : lexB [] [] = true ↔ False := by simp [lexB]
def SameS (a b : Step4) : Prop := a.1 = b.1 ∧ a.2.1 = b.2.1
instance (a b : Step4) : Decidable (SameS a b) := inferInstanceAs (Decidable (_ ∧ _))
def four (a b : Step4) : Step4 := (a.2.2.1, a.2.2.2, b.2.2.1, b.2.2.2)
def ltL (a b : Step4) : Bool := lexB [a.2.2.1, a.2.2.2] [b.2.2.1, b.2.2.2]
def FirstIs (S : List Step4) : Option Step4 → Prop
 | none => ∀ a ∈ S, ∀ b ∈ S, SameS a b → ltL a b = false
 | some k => (∃ a ∈ S, ∃ b ∈ S, SameS a b ∧ ltL a b = true ∧ k = four a b) ∧ ∀ a ∈ S, ∀ b ∈ S, SameS a b → ltL a b = true → lexB (key4 (four a b)) (key4 k) = false
theorem FirstIs.unique {S S' : List Step4} (hm : ∀ x, x ∈ S ↔ x ∈ S') : ∀ {r r' : Option Step4}, FirstIs S r → FirstIs S' r' → r = r'
 | none, none, _, _ => rfl
 | none, some k, h, h' => by
  obtain ⟨⟨a, ha, b, hb, s, l, _⟩, _⟩ := h'
  have := h a ((hm a).mpr ha) b ((hm b).mpr hb) s
  rw [l] at this; cases this
 | some k, none, h, h' => by
  obtain ⟨⟨a, ha, b, hb, s, l, _⟩, _⟩ := h
  have := h' a ((hm a).mp ha) b ((hm b).mp hb) s
  rw [l] at this; cases this
 | some k, some k', h, h' => by
  obtain ⟨⟨a, ha, b, hb, s, l, e⟩, h2⟩ := h
  obtain ⟨⟨a', ha', b', hb', s', l', e'⟩, h2'⟩ := h'
  have q1 := h2 a' ((hm a').mpr ha') b' ((hm b').mpr hb') s' l'
  have q2 := h2' a ((hm a).mp ha) b ((hm b).mp hb) s l
  rw [← e'] at q1
  rw [← e] at q2
  rw [Wl (Jh _ _ q1 q2)]
def adj (ks : List Step4) : List (Step4 × Step4) := ks.zip (ks.drop 1)
def likesL (ks : List Step4) : List Step4 := ((adj ks).filter fun p => decide (SameS p.1 p.2)).map fun p => four p.1 p.2
theorem nf {b : Bool} : b = false ↔ ¬ b = true := by cases b <;> simp
theorem mid {h d b : Step4} (h1 : lexB (key4 d) (key4 h) = false) (h2 : lexB (key4 b) (key4 d) = false) (s : SameS h b) : SameS h d ∧ lexB (key4 (four h b)) (key4 (four h d)) = false := by
 unfold key4 at *
 unfold SameS at *
 unfold four
 rw [nf] at *
 simp only [WL, UD, and_false, or_false, false_or] at *
 omega
theorem Zb9 {a b : Step4} (s : SameS a b) : lexB (key4 a) (key4 b) = true ↔ ltL a b = true := by
 unfold key4 ltL SameS at *
 simp only [WL, UD, and_false, or_false] at *
 omega
theorem Zct {ks : List Step4} (hr : Rise ks) : ∀ a ∈ ks, ∀ b ∈ ks, SameS a b → ltL a b = true → ∃ p ∈ adj ks, SameS p.1 p.2 ∧ lexB (key4 (four a b)) (key4 (four p.1 p.2)) = false := by
 induction ks with
 | nil => intro a ha; cases ha
 | cons h r ih =>
  have hr' : Rise r := (List.pairwise_cons.mp hr).2
  have hh : ∀ d ∈ r, lexB (key4 d) (key4 h) = false := fun d hd => (List.pairwise_cons.mp hr).1 _ (List.mem_map_of_mem hd)
  intro a ha b hb s l
  have kl := (Zb9 s).mpr l
  rcases List.mem_cons.mp ha with rfl | ha'
  ·have hb' : b ∈ r := by
    rcases List.mem_cons.mp hb with rfl | hb
    ·have := Z8 _ _ kl
     rw [kl] at this; cases this
    ·exact hb
   cases r with
   | nil => cases hb'
   | cons d r' =>
    have hdb : lexB (key4 b) (key4 d) = false := by
     rcases List.mem_cons.mp hb' with rfl | hb2
     ·cases hx : lexB (key4 b) (key4 b) with
      | false => rfl
      | true =>
       have := Z8 _ _ hx
       rw [hx] at this; cases this
     ·exact (List.pairwise_cons.mp hr').1 _ (List.mem_map_of_mem hb2)
    obtain ⟨m1, m2⟩ := mid (hh d List.mem_cons_self) hdb s
    exact ⟨(a, d), List.mem_cons_self, m1, m2⟩
  ·have hb' : b ∈ r := by
    rcases List.mem_cons.mp hb with rfl | hb
    ·have := hh a ha'
     rw [kl] at this; cases this
    ·exact hb
   obtain ⟨p, hp, q1, q2⟩ := ih hr' a ha' b hb' s l
   refine ⟨p, ?_, q1, q2⟩
   cases r with
   | nil => cases ha'
   | cons d r' => exact List.mem_cons_of_mem _ hp
theorem ZdN {ks : List Step4} (hr : Rise ks) (hn : ks.Nodup) : ∀ p ∈ adj ks, SameS p.1 p.2 → p.1 ∈ ks ∧ p.2 ∈ ks ∧ ltL p.1 p.2 = true := by
 induction ks with
 | nil => intro p hp; cases hp
 | cons h r ih =>
  have hr' : Rise r := (List.pairwise_cons.mp hr).2
  have hh : ∀ d ∈ r, lexB (key4 d) (key4 h) = false := fun d hd => (List.pairwise_cons.mp hr).1 _ (List.mem_map_of_mem hd)
  have hn' := (List.nodup_cons.mp hn)
  intro p hp s
  cases r with
  | nil => cases hp
  | cons d r' =>
   rcases List.mem_cons.mp (show p ∈ (h, d) :: adj (d :: r') from hp) with rfl | hp
   ·refine ⟨List.mem_cons_self, List.mem_cons_of_mem _ List.mem_cons_self, (Zb9 s).mp ?_⟩
    cases hx : lexB (key4 h) (key4 d) with
    | true => rfl
    | false =>
     have e := Wl (Jh _ _ hx (hh d List.mem_cons_self))
     rw [e] at hn'
     exact absurd List.mem_cons_self hn'.1
   ·obtain ⟨q1, q2, q3⟩ := ih hr' hn'.2 p hp s
    exact ⟨List.mem_cons_of_mem _ q1, List.mem_cons_of_mem _ q2, q3⟩
theorem Jv {ks : List Step4} {k : Step4} : k ∈ likesL ks ↔ ∃ p ∈ adj ks, SameS p.1 p.2 ∧ four p.1 p.2 = k := by
 unfold likesL
 rw [List.mem_map]
 constructor
 ·rintro ⟨p, hp, e⟩
  rw [List.mem_filter, decide_eq_true_eq] at hp
  exact ⟨p, hp.1, hp.2, e⟩
 ·rintro ⟨p, hp, s, e⟩
  exact ⟨p, List.mem_filter.mpr ⟨hp, decide_eq_true s⟩, e⟩
theorem Zal {ks : List Step4} (hr : Rise ks) (h : likesL ks = []) : FirstIs ks none := fun a ha b hb s => by
 cases hl : ltL a b with
 | false => rfl
 | true =>
  obtain ⟨p, hp, q, _⟩ := Zct hr a ha b hb s hl
  have : four p.1 p.2 ∈ likesL ks := Jv.mpr ⟨p, hp, q, rfl⟩
  rw [h] at this; cases this
theorem Zak {ks : List Step4} (hr : Rise ks) (hn : ks.Nodup) {k : Step4} (hk : k ∈ likesL ks) (hm : ∀ k' ∈ likesL ks, lexB (key4 k') (key4 k) = false) : FirstIs ks (some k) := by
 obtain ⟨p, hp, s, e⟩ := Jv.mp hk
 obtain ⟨m1, m2, m3⟩ := ZdN hr hn p hp s
 refine ⟨⟨p.1, m1, p.2, m2, s, m3, e.symm⟩, fun a ha b hb s' l => ?_⟩
 obtain ⟨p', hp', q1, q2⟩ := Zct hr a ha b hb s' l
 exact YB _ _ _ (hm _ (Jv.mpr ⟨p', hp', q1, rfl⟩)) q2
def IsStep (xs : List V) (q : Step4) : Prop := ∃ l o : Nat, l < o ∧ o < xs.length ∧ stepOf xs o l = some q
theorem JM {xs : List V} {p : Int × Int} : p ∈ pointsL xs ↔ ∃ l : Nat, l < xs.length ∧ rowAt xs l = some p.2 ∧ p.1 = (l : Int) := by
 unfold pointsL
 rw [List.mem_filterMap]
 constructor
 ·rintro ⟨l, hl, e⟩
  rw [Option.map_eq_some_iff] at e
  obtain ⟨r, hr, rfl⟩ := e
  exact ⟨l, List.mem_range.mp hl, hr, rfl⟩
 ·rintro ⟨l, hl, hr, e⟩
  refine ⟨l, List.mem_range.mpr hl, ?_⟩
  rw [hr, Option.map_some, ← e]
theorem ZcY {xs : List V} {q : Step4} : q ∈ lawSteps xs xs.length ↔ IsStep xs q := by
 unfold lawSteps stepsTo IsStep
 simp only [List.mem_flatMap, List.mem_filterMap, List.mem_range]
 constructor
 ·rintro ⟨o, ho, l, hl, e⟩
  exact ⟨l, o, hl, ho, e⟩
 ·rintro ⟨l, o, hl, ho, e⟩
  exact ⟨o, ho, l, hl, e⟩
theorem Ye {xs : List V} {o l : Nat} {q : Step4} : stepOf xs o l = some q ↔ ∃ a b, rowAt xs l = some a ∧ rowAt xs o = some b ∧ q = ((o : Int) - l, b - a, (l : Int), (o : Int)) := by
 unfold stepOf
 cases h1 : rowAt xs l with
 | none => simp
 | some a =>
  cases h2 : rowAt xs o with
  | none => simp
  | some b =>
   simp only [Option.bind_some, Option.map_some, Option.some.injEq]
   constructor
   ·rintro rfl
    exact ⟨a, b, rfl, rfl, rfl⟩
   ·rintro ⟨_, _, rfl, rfl, rfl⟩
    rfl
theorem Zb3 {xs : List V} {q : Step4} : q ∈ (pairsL (pointsL xs)).map stOf ↔ IsStep xs q := by
 unfold pairsL pairsTo
 rw [List.take_length]
 simp only [List.mem_map, List.mem_flatMap, pairsOf, List.take_length, List.mem_filter, decide_eq_true_eq]
 constructor
 ·rintro ⟨_, ⟨a, ha, b, ⟨hb, hlt⟩, rfl⟩, rfl⟩
  obtain ⟨l, hl, hr, e⟩ := JM.mp ha
  obtain ⟨o, ho, hr', e'⟩ := JM.mp hb
  refine ⟨l, o, by omega, ho, Ye.mpr ⟨a.2, b.2, hr, hr', ?_⟩⟩
  unfold stOf
  rw [e, e']
 ·rintro ⟨l, o, hl, ho, e⟩
  obtain ⟨a, b, h1, h2, rfl⟩ := Ye.mp e
  exact ⟨((l : Int), a, (o : Int), b), ⟨((l : Int), a), JM.mpr ⟨l, by omega, h1, rfl⟩, ((o : Int), b), ⟨JM.mpr ⟨o, ho, h2, rfl⟩, by show (l : Int) < (o : Int); omega⟩, rfl⟩, rfl⟩
theorem Ju (xs : List V) (n : Nat) : (lawSteps xs n).Nodup := by
 unfold lawSteps
 rw [List.nodup_iff_pairwise_ne, List.pairwise_flatMap]
 refine ⟨fun o _ => ?_, ?_⟩
 ·unfold stepsTo
  rw [List.pairwise_filterMap]
  refine List.Pairwise.imp ?_ (List.nodup_iff_pairwise_ne.mp List.nodup_range)
  intro l l' hne q hq q' hq' e
  obtain ⟨_, _, _, _, rfl⟩ := Ye.mp hq
  obtain ⟨_, _, _, _, rfl⟩ := Ye.mp hq'
  simp only [Prod.mk.injEq] at e
  omega
 ·refine List.Pairwise.imp ?_ (List.nodup_iff_pairwise_ne.mp List.nodup_range)
  intro o o' hne q hq q' hq' e
  unfold stepsTo at hq hq'
  rw [List.mem_filterMap] at hq hq'
  obtain ⟨l, _, hq⟩ := hq
  obtain ⟨l', _, hq'⟩ := hq'
  obtain ⟨_, _, _, _, rfl⟩ := Ye.mp hq
  obtain ⟨_, _, _, _, rfl⟩ := Ye.mp hq'
  simp only [Prod.mk.injEq] at e
  omega
theorem ZbA (xs : List V) : (pointsL xs).Pairwise fun a b => a.1 ≠ b.1 := by
 unfold pointsL
 rw [List.pairwise_filterMap]
 refine List.Pairwise.imp ?_ (List.nodup_iff_pairwise_ne.mp List.nodup_range)
 intro l l' hne q hq q' hq'
 rw [Option.map_eq_some_iff] at hq hq'
 obtain ⟨_, _, rfl⟩ := hq
 obtain ⟨_, _, rfl⟩ := hq'
 show (l : Int) ≠ (l' : Int)
 omega
theorem Zac (xs : List V) : ((pairsL (pointsL xs)).map stOf).Nodup := by
 unfold pairsL pairsTo
 rw [List.take_length, List.nodup_iff_pairwise_ne, List.pairwise_map, List.pairwise_flatMap]
 refine ⟨fun a _ => ?_, ?_⟩
 ·unfold pairsOf
  rw [List.take_length, List.pairwise_map]
  refine List.Pairwise.imp ?_ ((ZbA xs).filter _)
  intro b b' hne e
  unfold stOf at e
  simp only [Prod.mk.injEq] at e
  exact hne e.2.2.2
 ·refine List.Pairwise.imp ?_ (ZbA xs)
  intro a a' hne q hq q' hq' e
  unfold pairsOf at hq hq'
  rw [List.mem_map] at hq hq'
  obtain ⟨b, _, rfl⟩ := hq
  obtain ⟨b', _, rfl⟩ := hq'
  unfold stOf at e
  simp only [Prod.mk.injEq] at e
  exact hne e.2.2.1
theorem Y6 (xs : List V) : ((pairsL (pointsL xs)).map stOf).Perm (lawSteps xs xs.length) :=
 (List.perm_ext_iff_of_nodup (Zac xs) (Ju xs _)).mpr fun q => Zb3.trans ZcY.symm
theorem Us {ks ks' : List Step4} (h : Rise ks) (h' : Rise ks') (p : ks.Perm ks') : ks = ks' := by
 unfold Rise at h h'
 rw [List.pairwise_map] at h h'
 exact List.Perm.eq_of_pairwise (le := fun a b => lexB (key4 b) (key4 a) = false) (fun a b _ _ h1 h2 => Wl (Jh _ _ h2 h1)) h h' p
end U
set_option Elab.async false
set_option linter.all false
set_option maxRecDepth 100000
set_option maxHeartbeats 4000000
namespace U
open PySem L2 PyProof.Rows PyProof.Rows.Tim
theorem cut1 (vs : List V) : cutV vs (some 1) none = vs.drop 1 := by
 unfold cutV HT.sIx
 cases vs with
 | nil => rfl
 | cons a r => simp
def likesTo (ks : List Step4) (i : Nat) : List Step4 := (((adj ks).take i).filter fun p => decide (SameS p.1 p.2)).map fun p => four p.1 p.2
theorem Ub {ks : List Step4} {i : Nat} {a b : Step4} (h1 : ks[i]? = some a) (h2 : (ks.drop 1)[i]? = some b) : likesTo ks (i + 1) = likesTo ks i ++ (if decide (SameS a b) = true then [four a b] else []) := by
 have e : (adj ks)[i]? = some (a, b) := List.getElem?_zip_eq_some.mpr ⟨h1, h2⟩
 unfold likesTo
 rw [List.take_add_one, e, List.filter_append, List.map_append]
 by_cases h : SameS a b <;> simp [h]
def OptAt (H : Hp) (v : V) : Option Step4 → Prop
 | none => v = .non
 | some k => QdAt H v k
theorem OptAt.same {H H' : Hp} {v : V} (s : Same H H') : ∀ {r : Option Step4}, OptAt H v r → OptAt H' v r
 | none, h => h
 | some _, h => QdAt.same h s
section
variable {P : Program} {w : World} {K : PySem.W.Frag} {mg : Str → Option Value} {base : Heap}
abbrev sFirst : Stmt := top 30
def spFirst : Sp := fun vs H Q _ => ∃ x y wd hg xs, vs = [x, y] ∧ LayAt H x y wd hg xs ∧ ∀ (H' : Hp) (v : V) (r : Option Step4), Same H H' → FirstIs (lawSteps xs xs.length) r → OptAt H' v r → Q v H'
theorem scFirst : FnScope ["board", "lay", "told", "likes"] ["board", "lay"] (defScope sFirst) := ⟨rfl, rfl, rfl, by decide +kernel, rfl, by decide +kernel, by decide +kernel⟩
theorem ZbV {f : Addr} {fd : FuncData} (F : Fun K "first_like" "first_like" sFirst f fd) (G : Gs mg) (D1 : Def P w K mg base 9 "steps" ["board", "lay"] spSteps) : FnOk P w K mg base CX0 10 f fd ["board", "lay"] spFirst := by
 refine F.ok scFirst (fun vs H Q E h => ?_) (fun cdv A outer s H vs Q E hr h => ?_)
 ·obtain ⟨x, y, wd, hg, xs, rfl, _⟩ := h
  rfl
 ·obtain ⟨x, y, wd, hg, xs, rfl, l, q⟩ := h
  have hu := Zcc hr
  refine ⟨_, Zh (Zs (i := 2) scFirst.nd rfl (Or.inl rfl) (Zk D1 hr (Za (pv 0) (Za (pv 1) Zc))))
   (Zh (YV ["step", "line", "other", "beside", "here", "there"] 6 [] (i := 3) scFirst.nd rfl (Or.inl rfl) (Zav rfl G.zip (Za (pv 2) (Za (Yy Zcy (pv 2) (YW Zi) YX) Zc)))
    (fun C s H fp => show PG (blk _ _ _ C s H fp) _ (gTup K 2 (gCons (gTup K 3 (gCons (gName 0) (gCons (gName 1) (gCons (gName 2) gNil)))) (gCons (gTup K 3 (gCons (gName 3) (gCons (gName 4) (gCons (gName 5) gNil)))) gNil))) from
     ZT rfl (Zn (ZT rfl (Zn (pb 0) (Zn (pb 1) (Zn (pb 2) ZK)))) (Zn (ZT rfl (Zn (pb 3) (Zn (pb 4) (Zn (pb 5) ZK)))) ZK)))
    (fun C s H fp => Yo (ZG (show OpR (blk _ _ _ C s H fp) (compareOp .Eq) (fun x y H Q => ∃ (a b : Addr) (ns ms : List Int), x = .ref a ∧ y = .ref b ∧ SqT K H a (ns.map V.int) ∧ SqT K H b (ms.map V.int) ∧ Q (.bl (decide (ns = ms))) H) from W7 hr.units0) (pv 0) (pv 3) (nomark _)))
    (fun C s H fp D => ZJ rfl (Zv (Za (pv 1) (Za (pv 2) (Za (pv 4) (Za (pv 5) Zc)))))))
   (Zm (Zx (ZcG rfl hu rfl G.min (pv 3))))), ?_⟩
  refine ⟨x, rfl, y, rfl, x, y, wd, hg, xs, rfl, l, fun fa H1 ps ks s1 hfn hf pr perm rise => ?_⟩
  have hlk : ps.length = ks.length := Paired.length pr
  have hlen : ks.length ≤ 144 := by
   rw [perm.length_eq, List.length_map]
   exact pairs144 l
  refine ⟨_, rfl, _, rfl, _, rfl, fa, ps, rfl, SqL.of hf, fun c hc => ?_⟩
  generalize hH2 : upd H1 c (HO.lst (cutV ps (some 1) none)) = H2
  have s2 : Same H1 H2 := fun b o hb => by rw [← hH2, Zf (Zd hb hc)]; exact hb
  have hc2 : H2 c = some (.lst (ps.drop 1)) := by rw [← hH2, cut1]; exact Zb
  have hf2 := s2 _ _ hf
  refine ⟨fa, c, rfl, ⟨_, _, SqL.of hf2, SqL.of hc2⟩, ?_⟩
  refine WK (xs := ps) (zs := ps.drop 1) (fun i ys σ H3 => ∃ v0 v1 v2 v3 v4 v5, σ = [v0, v1, v2, v3, v4, v5] ∧ Same H2 H3 ∧ Paired (QdAt H3) ys (likesTo ks i) ∧ ys.length ≤ i) ⟨_, _, _, _, _, _, rfl, Same.refl _, .nil, Nat.zero_le _⟩
   (fun i ys σ H3 _ ⟨_, _, _, _, _, _, _, s3, _⟩ => ⟨SqL.of (s3 _ _ hf2), SqL.of (s3 _ _ hc2)⟩) ?_ ?_
  ·rintro i va vb T ys σ H3 hva hvb hT ⟨v0, v1, v2, v3, v4, v5, rfl, s3, pr3, hl3⟩
   have hi : i < ps.length := (List.getElem?_eq_some_iff.mp hva).1
   obtain ⟨a, hka, ta, ta', rfl, hta, hta'⟩ := Yx pr hva
   have hvb' : ps[1 + i]? = some vb := by rw [← List.getElem?_drop]; exact hvb
   obtain ⟨b, hkb, tb, tb', rfl, htb, htb'⟩ := Yx pr hvb'
   have hkb' : (ks.drop 1)[i]? = some b := by rw [List.getElem?_drop]; exact hkb
   have es := Ub hka hkb'
   have sT : Same H3 (upd H3 T (.par [.ref ta, .ref tb])) := fun e o hc => by rw [Zf (Zd hc hT)]; exact hc
   have sA : Same H1 (upd H3 T (.par [.ref ta, .ref tb])) := s2.trans (s3.trans sT)
   refine ⟨T, _, rfl, SqT.ofP Zb, rfl, _, _, rfl, ta, _, rfl, SqT.of (sA _ _ hta), rfl, _, _, rfl, _, _, rfl, _, _, rfl, rfl, _, _, rfl, tb, _, rfl, SqT.of (sA _ _ htb), rfl, _, _, rfl, _, _, rfl, _, _, rfl, rfl, rfl, ?_⟩
   generalize hH4 : upd H3 T (HO.par [V.ref ta, V.ref tb]) = H4 at sT sA
   refine ⟨_, rfl, _, rfl, ta', tb', [a.1, a.2.1], [b.1, b.2.1], rfl, rfl, SqT.of (sA _ _ hta'), SqT.of (sA _ _ htb'), _, rfl, ?_⟩
   by_cases hs : SameS a b
   ·rw [decide_eq_true hs, if_pos rfl] at es
    have ed : decide ([a.1, a.2.1] = [b.1, b.2.1]) = true := decide_eq_true (by rw [hs.1, hs.2])
    rw [ed]
    refine iteT ?_
    refine ⟨_, rfl, _, rfl, _, rfl, _, rfl, (by show 4 ≤ sizeLine; decide), fun t4 ht4 => ⟨by rw [sizeLine_eq]; omega, ?_⟩⟩
    generalize hH5 : upd H4 t4 (HO.tup [V.int a.2.2.1, V.int a.2.2.2, V.int b.2.2.1, V.int b.2.2.2]) = H5
    have s5 : Same H4 H5 := fun e o hc => by rw [← hH5, Zf (Zd hc ht4)]; exact hc
    refine ⟨_, _, _, _, _, _, rfl, s3.trans (sT.trans s5), ?_, by rw [List.length_append]; simp; omega⟩
    rw [es]
    exact Paired.snoc (Paired.mapP pr3 fun v q' hq => hq.same (sT.trans s5)) ⟨t4, rfl, by rw [← hH5]; exact Zb⟩
   ·rw [decide_eq_false hs, if_neg Bool.false_ne_true, List.append_nil] at es
    have ed : decide ([a.1, a.2.1] = [b.1, b.2.1]) = false := decide_eq_false (fun e => hs (by simp only [List.cons.injEq, and_true] at e; exact e))
    rw [ed]
    refine iteF ⟨_, _, _, _, _, _, rfl, s3.trans sT, ?_, by omega⟩
    rw [es]
    exact Paired.mapP pr3 fun v q' hq => hq.same sT
  ·rintro ys σ H3 ⟨v0, v1, v2, v3, v4, v5, rfl, s3, pr3, hl3⟩ p hp
   have s4 : Same H3 (upd H3 p (.lst ys)) := fun e o hc => by rw [Zf (Zd hc hp)]; exact hc
   have et : likesTo ks (min ps.length (ps.drop 1).length) = likesL ks := by
    unfold likesTo likesL
    rw [List.take_of_length_le]
    unfold adj
    rw [List.length_zip, List.length_drop, List.length_drop, hlk]
    exact Nat.le_refl _
   rw [et] at pr3
   have pr4 : Paired (QdAt (upd H3 p (.lst ys))) ys (likesL ks) := Paired.mapP pr3 fun v q' hq => hq.same s4
   have sA : Same H (upd H3 p (.lst ys)) := s1.trans (s2.trans (s3.trans s4))
   have hmem : ∀ z, z ∈ ks ↔ z ∈ lawSteps xs xs.length := fun z => (perm.trans (Y6 xs)).mem_iff
   have hnd : ks.Nodup := (perm.trans (Y6 xs)).nodup_iff.mpr (Ju xs _)
   have conv : ∀ r, FirstIs ks r → FirstIs (lawSteps xs xs.length) r := fun r hr => by
    cases r with
    | none => exact fun a ha b hb s => hr a ((hmem a).mpr ha) b ((hmem b).mpr hb) s
    | some k =>
     obtain ⟨⟨a, ha, b, hb, w⟩, h2⟩ := hr
     exact ⟨⟨a, (hmem a).mp ha, b, (hmem b).mp hb, w⟩, fun a ha b hb s l => h2 a ((hmem a).mpr ha) b ((hmem b).mpr hb) s l⟩
   refine ⟨_, rfl, p, ys, (likesL ks).map key4, rfl, SqL.of Zb, ?_, fun e => ?_, fun v k hv hk htp hmin => ?_⟩
   ·have : ∀ {ys : List V} {ls : List Step4}, Paired (QdAt (upd H3 p (.lst ys))) ys ls → Paired (TpAt (upd H3 p (.lst ys))) ys (ls.map key4) := by
     intro ys ls h
     generalize (upd H3 p (.lst ys)) = H9 at h
     induction h with
     | nil => exact .nil
     | cons h1 _ ih => exact .cons h1 ih
    exact this pr4
   ·subst e
    have el : likesL ks = [] := by
     have := Paired.length pr4
     exact List.length_eq_zero_iff.mp this.symm
    exact q _ .non none sA (conv _ (Zal rise el)) rfl
   ·obtain ⟨k4, hk4, rfl⟩ := List.mem_map.mp hk
    exact q _ v (some k4) sA (conv _ (Zak rise hnd hk4 fun k' hk' => hmin _ (List.mem_map_of_mem hk'))) htp
abbrev sUnl : Stmt := top 31
def spUnl : Sp := fun vs H Q _ => ∃ x y wd hg xs, vs = [x, y] ∧ LayAt H x y wd hg xs ∧ ∀ (H' : Hp) (r : Option Step4), Same H H' → FirstIs (lawSteps xs xs.length) r → Q (.bl r.isNone) H'
theorem scUnl : FnScope ["board", "lay"] ["board", "lay"] (defScope sUnl) := ⟨rfl, rfl, rfl, by decide +kernel, rfl, by decide +kernel, by decide +kernel⟩
theorem Zdw {f : Addr} {fd : FuncData} (F : Fun K "is_unlike" "is_unlike" sUnl f fd) (D1 : Def P w K mg base 10 "first_like" ["board", "lay"] spFirst) : FnOk P w K mg base CX0 11 f fd ["board", "lay"] spUnl := by
 refine F.ok scUnl (fun vs H Q E h => ?_) (fun cdv A outer s H vs Q E hr h => ?_)
 ·obtain ⟨x, y, wd, hg, xs, rfl, _⟩ := h
  rfl
 ·obtain ⟨x, y, wd, hg, xs, rfl, l, q⟩ := h
  refine ⟨_, Zm (Zx (ZbI (U7 (Zk D1 hr (Za (pv 0) (Za (pv 1) Zc)))))), ?_⟩
  refine ⟨x, rfl, y, rfl, x, y, wd, hg, xs, rfl, l, fun H1 v r s1 hf ho => ?_⟩
  have := q H1 r s1 hf
  cases r with
  | none =>
   have e : v = .non := ho
   subst e
   exact this
  | some k =>
   obtain ⟨t, rfl, _⟩ := (show QdAt H1 v k from ho)
   exact this
end
end U
set_option Elab.async false
set_option linter.all false
set_option maxRecDepth 100000
namespace U
open PySem L2 PyProof.Rows
abbrev bmV : List Value := [.type "ValueError", .type "Exception", .type "BaseException", .type "object"]
structure Exs (K : PySem.W.Frag) (mg : Str → Option Value) (cB cL : Addr) : Prop where
 mB : mg "NoBoard" = some (.ref cB)
 xB : PySem.W.excIn K cB bmV "ValueError.__new__" = true
 mL : mg "NoLay" = some (.ref cL)
 xL : PySem.W.excIn K cL bmV "ValueError.__new__" = true
def BadBoard (K : PySem.W.Frag) (H : Hp) (x : V) : Prop := Pl1 K H x ∧ isBoardL (tupOf H x) = false
def Bad (K : PySem.W.Frag) (cB cL : Addr) (H : Hp) (x y : V) (C : Addr) : Prop :=
 (C = cB ∧ BadBoard K H x) ∨ (C = cL ∧ ∃ wd hg, BoardAt H x wd hg ∧ Pl1 K H y ∧ isLayV wd hg (tupOf H y) = false)
theorem JF {K : PySem.W.Frag} {H H1 : Hp} {y : V} (ty : PlT K H y) (s1 : Same H H1) (e : tupOf H y = none) : tupOf H1 y = none := by
 obtain ⟨T, t⟩ := ty
 cases t with
 | tup e2 => rw [Zu e2] at e; cases e
 | lst e2 => rw [Zw, s1 _ _ e2]; rfl
 | frz e2 => rw [Zw, s1 _ _ e2]; rfl
 | dK e2 => rw [Zw, s1 _ _ e2]; rfl
 | dT e2 => rw [Zw, s1 _ _ e2]; rfl
 | _ => rfl
theorem YE {K : PySem.W.Frag} {H H1 : Hp} {y : V} (ty : PlT K H y) (s1 : Same H H1) : tupOf H1 y = tupOf H y := by
 cases e : tupOf H y with
 | none => exact JF ty s1 e
 | some xs => exact s1.tupOf e
theorem Pl1.same {K : PySem.W.Frag} {H H1 : Hp} {y : V} (p : Pl1 K H y) (s1 : Same H H1) : Pl1 K H1 y := by
 refine ⟨s1.plT p.1, fun xs e z hz => s1.plT (p.2 xs ?_ z hz)⟩
 rw [← YE p.1 s1]; exact e
theorem BadBoard.same {K : PySem.W.Frag} {H H1 : Hp} {x : V} (b : BadBoard K H x) (s1 : Same H H1) : BadBoard K H1 x := ⟨b.1.same s1, by rw [YE b.1.1 s1]; exact b.2⟩
section
variable {P : Program} {w : World} {K : PySem.W.Frag} {mg : Str → Option Value} {base : Heap} {cB cL : Addr}
def spNBx (K : PySem.W.Frag) (cB : Addr) : Sp := fun vs H _ E => ∃ x, vs = [x] ∧ BadBoard K H x ∧ ∀ e H', Same H H' → E (.ref e) (some cB) H'
theorem Wx {f : Addr} {fd : FuncData} (F : Fun K "need_board" "need_board" sNeedBoard f fd) (G : Gs mg) (X : Exs K mg cB cL) (D1 : Def P w K mg base 3 "is_board" ["thing"] (spBoard K)) : FnOk P w K mg base (CXR P w) 4 f fd ["board"] (spNBx K cB) := by
 obtain ⟨tk, hL⟩ := G.longest
 refine F.okR scNeedBoard (fun vs H Q E h => ?_) (fun cdv A outer s H vs Q E hr h => ?_)
 ·obtain ⟨x, rfl, _⟩ := h
  rfl
 ·obtain ⟨x, rfl, b, q⟩ := h
  refine ⟨_, Zm (ZS (Yh (ZU (Zk D1 hr (Za (pv 0) Zc)))) (Zm (Uu PySem.F.excBase_ValueError X.mB X.xB rfl (Za (ZcH W2 (ZH (v := .int 12) rfl hL ⟨_, rfl⟩)) Zc))) ZC), ?_⟩
  refine ⟨x, rfl, x, rfl, b.1, fun H' sm => ⟨_, rfl, ?_⟩⟩
  rw [b.2]
  exact iteT ⟨_, rfl, by decide, 12, rfl, by decide, by decide, fun z => ⟨by show 1 ≤ sizeLine; decide, fun e => q e H' sm⟩⟩
def spLayx (K : PySem.W.Frag) (cB : Addr) : Sp := fun vs H _ E => ∃ x y, vs = [x, y] ∧ BadBoard K H x ∧ ∀ e H', Same H H' → E (.ref e) (some cB) H'
theorem ZcO {f : Addr} {fd : FuncData} (F : Fun K "is_lay" "is_lay" sLay f fd) (D1 : DefR P w K mg base 4 "need_board" ["board"] (spNBx K cB)) : FnOk P w K mg base (CXR P w) 5 f fd ["board", "thing"] (spLayx K cB) := by
 refine F.okR scLay (fun vs H Q E h => ?_) (fun cdv A outer s H vs Q E hr h => ?_)
 ·obtain ⟨x, y, rfl, _⟩ := h
  rfl
 ·obtain ⟨x, y, rfl, b, q⟩ := h
  refine ⟨_, Zh (Ya (Yj D1 hr (Za (pv 0) Zc))) ZE, ?_⟩
  exact ⟨x, rfl, x, rfl, b, q⟩
def spX (K : PySem.W.Frag) (cB cL : Addr) : Sp := fun vs H _ E => ∃ x y C, vs = [x, y] ∧ Bad K cB cL H x y C ∧ ∀ e H', Same H H' → E (.ref e) (some C) H'
theorem Ux {f : Addr} {fd : FuncData} (F : Fun K "need_lay" "need_lay" sNeedLay f fd) (X : Exs K mg cB cL) (D1 : DefR P w K mg base 5 "is_lay" ["board", "thing"] (spLayx K cB)) (D2 : Def P w K mg base 5 "is_lay" ["board", "thing"] (spLay K)) :
  FnOk P w K mg base (CXR P w) 6 f fd ["board", "lay"] (spX K cB cL) := by
 refine F.okR scNeedLay (fun vs H Q E h => ?_) (fun cdv A outer s H vs Q E hr h => ?_)
 ·obtain ⟨x, y, C, rfl, _⟩ := h
  rfl
 ·obtain ⟨x, y, C, rfl, b, q⟩ := h
  rcases b with ⟨rfl, b⟩ | ⟨rfl, wd, hg, b1, b2, b3⟩
  ·refine ⟨_, Zm (ZS (Yh (ZU (Yj D1 hr (Za (pv 0) (Za (pv 1) Zc))))) ZE ZC), ?_⟩
   exact ⟨x, rfl, y, rfl, x, y, rfl, b, q⟩
  ·refine ⟨_, Zm (ZS (Yh (ZU (Zk D2 hr (Za (pv 0) (Za (pv 1) Zc))))) (Zm (Uu PySem.F.excBase_ValueError X.mL X.xL rfl (Za W2 Zc))) ZC), ?_⟩
   refine ⟨x, rfl, y, rfl, x, y, wd, hg, rfl, b1, b2, fun H' sm => ⟨_, rfl, ?_⟩⟩
   rw [b3]
   exact iteT ⟨by show 1 ≤ sizeLine; decide, fun e => q e H' sm⟩
theorem U9 {f : Addr} {fd : FuncData} (F : Fun K "points" "points" sPoints f fd) (D1 : DefR P w K mg base 6 "need_lay" ["board", "lay"] (spX K cB cL)) : FnOk P w K mg base (CXR P w) 7 f fd ["board", "lay"] (spX K cB cL) := by
 refine F.okR scPoints (fun vs H Q E h => ?_) (fun cdv A outer s H vs Q E hr h => ?_)
 ·obtain ⟨x, y, C, rfl, _⟩ := h
  rfl
 ·obtain ⟨x, y, C, rfl, b, q⟩ := h
  refine ⟨_, Zh (Ya (Yj D1 hr (Za (pv 0) (Za (pv 1) Zc)))) ZE, ?_⟩
  exact ⟨x, rfl, y, rfl, x, y, C, rfl, b, q⟩
theorem Za2 {f : Addr} {fd : FuncData} (F : Fun K "point_pairs" "point_pairs" sPairs f fd) (D1 : DefR P w K mg base 7 "points" ["board", "lay"] (spX K cB cL)) : FnOk P w K mg base (CXR P w) 8 f fd ["board", "lay"] (spX K cB cL) := by
 refine F.okR scPairs (fun vs H Q E h => ?_) (fun cdv A outer s H vs Q E hr h => ?_)
 ·obtain ⟨x, y, C, rfl, _⟩ := h
  rfl
 ·obtain ⟨x, y, C, rfl, b, q⟩ := h
  refine ⟨_, Zh (Zs (i := 2) scPairs.nd rfl (Or.inr rfl) (Yj D1 hr (Za (pv 0) (Za (pv 1) Zc)))) ZE, ?_⟩
  exact ⟨x, rfl, y, rfl, x, y, C, rfl, b, q⟩
end
end U
set_option Elab.async false
set_option linter.all false
set_option maxRecDepth 100000
set_option maxHeartbeats 4000000
namespace U
open PySem L2 PyProof.Rows PyProof.Rows.Tim
section
variable {P : Program} {w : World} {K : PySem.W.Frag} {mg : Str → Option Value} {base : Heap} {cB cL : Addr}
theorem ZaY {f : Addr} {fd : FuncData} (F : Fun K "steps" "steps" sSteps f fd) (G : Gs mg) (D1 : DefR P w K mg base 8 "point_pairs" ["board", "lay"] (spX K cB cL)) : FnOk P w K mg base (CXR P w) 9 f fd ["board", "lay"] (spX K cB cL) := by
 refine F.okR scSteps (fun vs H Q E h => ?_) (fun cdv A outer s H vs Q E hr h => ?_)
 ·obtain ⟨x, y, C, rfl, _⟩ := h
  rfl
 ·obtain ⟨x, y, C, rfl, b, q⟩ := h
  have hu := hr.units
  refine ⟨_, Zm (Zx (Zj (YK (Nat.lt_of_le_of_lt (Nat.add_le_add_left (by decide : 2 ≤ 64) _) hu)) rfl G.sorted PyProof.Rows.Boot.«sorted» (Za (Yb ["line", "row", "other", "there"] 4 [] (ZX (Yj D1 hr (Za (pv 0) (Za (pv 1) Zc))))
    (fun C s H fp => show PG (blk _ _ _ C s H fp) _ (gTup K 4 (gCons (gName 0) (gCons (gName 1) (gCons (gName 2) (gCons (gName 3) gNil))))) from ZT rfl (Zn (pb 0) (Zn (pb 1) (Zn (pb 2) (Zn (pb 3) ZK))))) (fun C s H fp => Yp)
    (fun C s H fp D => ZJ rfl (Zv (Za (Zv (Za (Zp YI (pv 2) (pv 0)) (Za (Zp YI (pv 3) (pv 1)) Zc))) (Za (pv 0) (Za (pv 2) Zc)))))) Zc))), ?_⟩
  exact ⟨x, rfl, y, rfl, x, y, C, rfl, b, q⟩
theorem Za5 {f : Addr} {fd : FuncData} (F : Fun K "first_like" "first_like" sFirst f fd) (D1 : DefR P w K mg base 9 "steps" ["board", "lay"] (spX K cB cL)) : FnOk P w K mg base (CXR P w) 10 f fd ["board", "lay"] (spX K cB cL) := by
 refine F.okR scFirst (fun vs H Q E h => ?_) (fun cdv A outer s H vs Q E hr h => ?_)
 ·obtain ⟨x, y, C, rfl, _⟩ := h
  rfl
 ·obtain ⟨x, y, C, rfl, b, q⟩ := h
  refine ⟨_, Zh (Zs (i := 2) scFirst.nd rfl (Or.inl rfl) (Yj D1 hr (Za (pv 0) (Za (pv 1) Zc)))) ZE, ?_⟩
  exact ⟨x, rfl, y, rfl, x, y, C, rfl, b, q⟩
theorem ZcM {f : Addr} {fd : FuncData} (F : Fun K "is_unlike" "is_unlike" sUnl f fd) (D1 : DefR P w K mg base 10 "first_like" ["board", "lay"] (spX K cB cL)) : FnOk P w K mg base (CXR P w) 11 f fd ["board", "lay"] (spX K cB cL) := by
 refine F.okR scUnl (fun vs H Q E h => ?_) (fun cdv A outer s H vs Q E hr h => ?_)
 ·obtain ⟨x, y, C, rfl, _⟩ := h
  rfl
 ·obtain ⟨x, y, C, rfl, b, q⟩ := h
  refine ⟨_, Zm (Zx (ZbI (U7 (Yj D1 hr (Za (pv 0) (Za (pv 1) Zc)))))), ?_⟩
  exact ⟨x, rfl, y, rfl, x, y, C, rfl, b, q⟩
end
end U
set_option Elab.async false
set_option linter.all false
set_option maxRecDepth 100000
namespace U
open PySem L2 PyProof.Rows
def nm15 : List Str := ["NoBoard", "NoLay", "NoNumber", "NoPoints", "NoPoint", "NoPaper", "NoUnlike", "NoPrime", "NoRoot", "NoTurn", "TooFew", "TooMany", "NoText", "NoLine", "NoDeed"]
structure Mk15 (K : PySem.W.Frag) (mg : Str → Option Value) (cS C : Addr) (iC : Nat) : Prop where
 z : ExcK K C
 ms : mg "StepError" = some (.ref cS)
 xs : PySem.W.exmOne K (.ref C) (.ref cS) = some true
 m : ∀ i, i < 15 → ∃ c, mg (nm15.getD i "") = some (.ref c) ∧ PySem.W.kitOne K (.ref C) (.ref c) = some (decide (i = iC))
 mv : mg "ValueError" = none
 xv : PySem.W.kitOne K (.ref C) (.type "ValueError") = some true
section
variable {P : Program} {w : World} {K : PySem.W.Frag} {mg : Str → Option Value} {base : Heap}
abbrev sRef : Stmt := top 36
def spRef (P : Program) (w : World) (K : PySem.W.Frag) (mg : Str → Option Value) (base : Heap) (cS : Addr) (k : Nat) : Sp := fun vs H Q _ => ∃ f fd sp C iC, vs = [.ref f] ∧ (iC = 0 ∨ iC = 1) ∧ Mk15 K mg cS C iC ∧ (∀ s, HOk P w H s → PySem.W.FnAt f s) ∧ FnOk P w K mg base (CXR P w) k f fd [] sp ∧
 (∀ s, BindsTo s fd ⟨[], []⟩ []) ∧ (∀ Q' E', (∀ e H', Same H H' → E' (.ref e) (some C) H') → sp [] H Q' E') ∧ ∀ l H', Same H H' → H l = none → H' l = some (.lst [.int (iC : Int)]) → Q (.ref l) H'
theorem scRef : FnScope ["_law_call", "_law_error", "e", "_law_marks"] ["_law_call"] (defScope sRef) := ⟨rfl, rfl, rfl, by decide +kernel, rfl, by decide +kernel, by decide +kernel⟩
def marksL (iC n : Nat) : List V := (List.range n).map fun i => V.bl (decide (i = iC))
theorem Zg {H : Hp} {p : Addr} {o : HO} (h : H p = none) : Same H (upd H p o) := fun b u hb => by rw [Zf (Zd hb h)]; exact hb
theorem Zdx {k : Nat} {f : Addr} {fd : FuncData} {cS : Addr} (F : Fun K "_law_refused" "_law_refused" sRef f fd) (G : Gs mg) : FnOk P w K mg base CX0 (k + 1) f fd ["_law_call"] (spRef P w K mg base cS k) := by
 refine F.ok scRef (fun vs H Q E h => ?_) (fun cdv A outer s H vs Q E hr h => ?_)
 ·obtain ⟨f, fd, sp, C, iC, rfl, _⟩ := h
  rfl
 ·obtain ⟨f, fd, sp, C, iC, rfl, hi, M, hfn, Fl, hbd, hsp, q⟩ := h
  obtain ⟨c0, m0, k0⟩ := M.m 0 (by decide)
  obtain ⟨c1, m1, k1⟩ := M.m 1 (by decide)
  obtain ⟨c2, m2, k2⟩ := M.m 2 (by decide)
  obtain ⟨c3, m3, k3⟩ := M.m 3 (by decide)
  obtain ⟨c4, m4, k4⟩ := M.m 4 (by decide)
  obtain ⟨c5, m5, k5⟩ := M.m 5 (by decide)
  obtain ⟨c6, m6, k6⟩ := M.m 6 (by decide)
  obtain ⟨c7, m7, k7⟩ := M.m 7 (by decide)
  obtain ⟨c8, m8, k8⟩ := M.m 8 (by decide)
  obtain ⟨c9, m9, k9⟩ := M.m 9 (by decide)
  obtain ⟨c10, m10, k10⟩ := M.m 10 (by decide)
  obtain ⟨c11, m11, k11⟩ := M.m 11 (by decide)
  obtain ⟨c12, m12, k12⟩ := M.m 12 (by decide)
  obtain ⟨c13, m13, k13⟩ := M.m 13 (by decide)
  obtain ⟨c14, m14, k14⟩ := M.m 14 (by decide)
  refine ⟨_, Zh (Zs (i := 1) scRef.nd rfl (Or.inl rfl) Ys)
   (Zh (U3 (ic := 0) (ie := 2) rfl rfl rfl scRef.nd rfl (Or.inl rfl) rfl rfl M.ms rfl hr (fun e => Zm (Zs (i := 1) scRef.nd rfl (Or.inl rfl) (pv 2))))
   (Zh (Zs (i := 3) scRef.nd rfl (Or.inr rfl) (ZD (Za (Zj Zo rfl G.isinstance boot_isinstance (Za (pv 1) (Za (ZH (v := .ref c0) rfl m0 rfl) Zc))) (Za (Zj Zo rfl G.isinstance boot_isinstance (Za (pv 1) (Za (ZH (v := .ref c1) rfl m1 rfl) Zc))) (Za (Zj Zo rfl G.isinstance boot_isinstance (Za (pv 1) (Za (ZH (v := .ref c2) rfl m2 rfl) Zc))) Zc)))))
   (Zh (Zs (i := 3) scRef.nd rfl (Or.inr rfl) (Zp Y7 (pv 3) (ZD (Za (Zj Zo rfl G.isinstance boot_isinstance (Za (pv 1) (Za (ZH (v := .ref c3) rfl m3 rfl) Zc))) (Za (Zj Zo rfl G.isinstance boot_isinstance (Za (pv 1) (Za (ZH (v := .ref c4) rfl m4 rfl) Zc))) (Za (Zj Zo rfl G.isinstance boot_isinstance (Za (pv 1) (Za (ZH (v := .ref c5) rfl m5 rfl) Zc))) Zc))))))
   (Zh (Zs (i := 3) scRef.nd rfl (Or.inr rfl) (Zp Y7 (pv 3) (ZD (Za (Zj Zo rfl G.isinstance boot_isinstance (Za (pv 1) (Za (ZH (v := .ref c6) rfl m6 rfl) Zc))) (Za (Zj Zo rfl G.isinstance boot_isinstance (Za (pv 1) (Za (ZH (v := .ref c7) rfl m7 rfl) Zc))) (Za (Zj Zo rfl G.isinstance boot_isinstance (Za (pv 1) (Za (ZH (v := .ref c8) rfl m8 rfl) Zc))) Zc))))))
   (Zh (Zs (i := 3) scRef.nd rfl (Or.inr rfl) (Zp Y7 (pv 3) (ZD (Za (Zj Zo rfl G.isinstance boot_isinstance (Za (pv 1) (Za (ZH (v := .ref c9) rfl m9 rfl) Zc))) (Za (Zj Zo rfl G.isinstance boot_isinstance (Za (pv 1) (Za (ZH (v := .ref c10) rfl m10 rfl) Zc))) (Za (Zj Zo rfl G.isinstance boot_isinstance (Za (pv 1) (Za (ZH (v := .ref c11) rfl m11 rfl) Zc))) Zc))))))
   (Zh (Zs (i := 3) scRef.nd rfl (Or.inr rfl) (Zp Y7 (pv 3) (ZD (Za (Zj Zo rfl G.isinstance boot_isinstance (Za (pv 1) (Za (ZH (v := .ref c12) rfl m12 rfl) Zc))) (Za (Zj Zo rfl G.isinstance boot_isinstance (Za (pv 1) (Za (ZH (v := .ref c13) rfl m13 rfl) Zc))) (Za (Zj Zo rfl G.isinstance boot_isinstance (Za (pv 1) (Za (ZH (v := .ref c14) rfl m14 rfl) Zc))) Zc))))))
   (Zh (ZS (Yh (ZU (Zj Zo rfl G.isinstance boot_isinstance (Za (pv 1) (Za (ZI (v := .ty "ValueError") rfl M.mv PyProof.Rows.Boot.«ValueError» rfl) Zc))))) (Zm (Zx Ys)) ZC)
   (Zm (Zx (Yb ["_law_k", "_law_marks"] 1 [3] (Z0 rfl G.range (Za Zi Zc)) (fun C s H fp => pb 0)
    (fun C s H fp => Yo (ZU (ZP (show IxR (blk _ _ _ C s H fp) (rIxL K) from ZM) (pv 1) (pv 0) (fun _ _ => rfl)))) (fun C s H fp D => ZJ rfl (pv 0)))))))))))), ?_⟩
  refine ⟨f, fd, sp, rfl, hfn, Fl, hbd, hsp _ _ fun e H1 s1 => ⟨e, C, rfl, rfl, M.xs, fun he0 => ⟨_, rfl, ?_⟩⟩⟩
  have s2 : Same H1 (upd H1 e (excO e C)) := Zg he0
  have he : upd H1 e (excO e C) e = some (excO e C) := Zb
  generalize upd H1 e (excO e C) = H2 at s2 he
  refine ⟨_, rfl, e, C, _, _, _, rfl, he, M.z, fun _ h => h, k0, _, rfl, e, C, _, _, _, rfl, he, M.z, fun _ h => h, k1, _, rfl, e, C, _, _, _, rfl, he, M.z, fun _ h => h, k2, (by show 3 ≤ sizeLine; decide), fun l1 hl1 => ?_⟩
  have sa : Same H2 (upd H2 l1 (.lst (marksL iC 3))) := Zg hl1
  have ha : upd H2 l1 (.lst (marksL iC 3)) l1 = some (.lst (marksL iC 3)) := Zb
  show _
  generalize hGa : upd H2 l1 (HO.lst (marksL iC 3)) = Ha at sa ha
  rw [show upd H2 l1 (HO.lst [V.bl (decide (0 = iC)), V.bl (decide (1 = iC)), V.bl (decide (2 = iC))]) = Ha from hGa]
  have hea := sa _ _ he
  refine ⟨_, rfl, _, rfl, e, C, _, _, _, rfl, hea, M.z, fun _ h => h, k3, _, rfl, e, C, _, _, _, rfl, hea, M.z, fun _ h => h, k4, _, rfl, e, C, _, _, _, rfl, hea, M.z, fun _ h => h, k5, (by show 3 ≤ sizeLine; decide), fun m0 hm0 => ⟨l1, m0, marksL iC 3, _, rfl, rfl, Zg hm0 _ _ ha, Zb, (by show 3 + 3 ≤ sizeLine; decide), fun p0 hp0 => ?_⟩⟩
  have sHb0 : Same Ha (upd Ha m0 (.lst [V.bl (decide (3 = iC)), V.bl (decide (4 = iC)), V.bl (decide (5 = iC))])) := Zg hm0
  generalize upd Ha m0 (HO.lst [V.bl (decide (3 = iC)), V.bl (decide (4 = iC)), V.bl (decide (5 = iC))]) = Hb0 at sHb0 hp0
  have sHc0 : Same Hb0 (upd Hb0 p0 (.lst (marksL iC 6))) := Zg hp0
  have hHc0 : upd Hb0 p0 (.lst (marksL iC 6)) p0 = some (.lst (marksL iC 6)) := Zb
  generalize hG0 : upd Hb0 p0 (HO.lst (marksL iC 6)) = Hc0 at sHc0 hHc0
  rw [show upd Hb0 p0 (HO.lst (marksL iC 3 ++ [V.bl (decide (3 = iC)), V.bl (decide (4 = iC)), V.bl (decide (5 = iC))])) = Hc0 from hG0]
  have he0 := sHc0 _ _ (sHb0 _ _ hea)
  refine ⟨_, rfl, _, rfl, e, C, _, _, _, rfl, he0, M.z, fun _ h => h, k6, _, rfl, e, C, _, _, _, rfl, he0, M.z, fun _ h => h, k7, _, rfl, e, C, _, _, _, rfl, he0, M.z, fun _ h => h, k8, (by show 3 ≤ sizeLine; decide), fun m1 hm1 => ⟨p0, m1, marksL iC 6, _, rfl, rfl, Zg hm1 _ _ hHc0, Zb, (by show 6 + 3 ≤ sizeLine; decide), fun p1 hp1 => ?_⟩⟩
  have sHb1 : Same Hc0 (upd Hc0 m1 (.lst [V.bl (decide (6 = iC)), V.bl (decide (7 = iC)), V.bl (decide (8 = iC))])) := Zg hm1
  generalize upd Hc0 m1 (HO.lst [V.bl (decide (6 = iC)), V.bl (decide (7 = iC)), V.bl (decide (8 = iC))]) = Hb1 at sHb1 hp1
  have sHc1 : Same Hb1 (upd Hb1 p1 (.lst (marksL iC 9))) := Zg hp1
  have hHc1 : upd Hb1 p1 (.lst (marksL iC 9)) p1 = some (.lst (marksL iC 9)) := Zb
  generalize hG1 : upd Hb1 p1 (HO.lst (marksL iC 9)) = Hc1 at sHc1 hHc1
  rw [show upd Hb1 p1 (HO.lst (marksL iC 6 ++ [V.bl (decide (6 = iC)), V.bl (decide (7 = iC)), V.bl (decide (8 = iC))])) = Hc1 from hG1]
  have he1 := sHc1 _ _ (sHb1 _ _ he0)
  refine ⟨_, rfl, _, rfl, e, C, _, _, _, rfl, he1, M.z, fun _ h => h, k9, _, rfl, e, C, _, _, _, rfl, he1, M.z, fun _ h => h, k10, _, rfl, e, C, _, _, _, rfl, he1, M.z, fun _ h => h, k11, (by show 3 ≤ sizeLine; decide), fun m2 hm2 => ⟨p1, m2, marksL iC 9, _, rfl, rfl, Zg hm2 _ _ hHc1, Zb, (by show 9 + 3 ≤ sizeLine; decide), fun p2 hp2 => ?_⟩⟩
  have sHb2 : Same Hc1 (upd Hc1 m2 (.lst [V.bl (decide (9 = iC)), V.bl (decide (10 = iC)), V.bl (decide (11 = iC))])) := Zg hm2
  generalize upd Hc1 m2 (HO.lst [V.bl (decide (9 = iC)), V.bl (decide (10 = iC)), V.bl (decide (11 = iC))]) = Hb2 at sHb2 hp2
  have sHc2 : Same Hb2 (upd Hb2 p2 (.lst (marksL iC 12))) := Zg hp2
  have hHc2 : upd Hb2 p2 (.lst (marksL iC 12)) p2 = some (.lst (marksL iC 12)) := Zb
  generalize hG2 : upd Hb2 p2 (HO.lst (marksL iC 12)) = Hc2 at sHc2 hHc2
  rw [show upd Hb2 p2 (HO.lst (marksL iC 9 ++ [V.bl (decide (9 = iC)), V.bl (decide (10 = iC)), V.bl (decide (11 = iC))])) = Hc2 from hG2]
  have he2 := sHc2 _ _ (sHb2 _ _ he1)
  refine ⟨_, rfl, _, rfl, e, C, _, _, _, rfl, he2, M.z, fun _ h => h, k12, _, rfl, e, C, _, _, _, rfl, he2, M.z, fun _ h => h, k13, _, rfl, e, C, _, _, _, rfl, he2, M.z, fun _ h => h, k14, (by show 3 ≤ sizeLine; decide), fun m3 hm3 => ⟨p2, m3, marksL iC 12, _, rfl, rfl, Zg hm3 _ _ hHc2, Zb, (by show 12 + 3 ≤ sizeLine; decide), fun p3 hp3 => ?_⟩⟩
  have sHb3 : Same Hc2 (upd Hc2 m3 (.lst [V.bl (decide (12 = iC)), V.bl (decide (13 = iC)), V.bl (decide (14 = iC))])) := Zg hm3
  generalize upd Hc2 m3 (HO.lst [V.bl (decide (12 = iC)), V.bl (decide (13 = iC)), V.bl (decide (14 = iC))]) = Hb3 at sHb3 hp3
  have sHc3 : Same Hb3 (upd Hb3 p3 (.lst (marksL iC 15))) := Zg hp3
  have hHc3 : upd Hb3 p3 (.lst (marksL iC 15)) p3 = some (.lst (marksL iC 15)) := Zb
  generalize hG3 : upd Hb3 p3 (HO.lst (marksL iC 15)) = Hc3 at sHc3 hHc3
  rw [show upd Hb3 p3 (HO.lst (marksL iC 12 ++ [V.bl (decide (12 = iC)), V.bl (decide (13 = iC)), V.bl (decide (14 = iC))])) = Hc3 from hG3]
  have he3 := sHc3 _ _ (sHb3 _ _ he2)
  refine ⟨_, rfl, e, C, _, _, _, rfl, he3, M.z, fun _ h => h, M.xv, _, rfl, ?_⟩
  refine iteF ?_
  refine ⟨15, rfl, by decide, by decide, ?_⟩
  refine Wf (n := 15) (fun i ys σ H4 => ys = ((List.range i).filter fun k => decide (k = iC)).map (fun k : Nat => V.int (k : Int)) ∧ H4 = Hc3 ∧ ∃ v, σ = [v, some (.ref p3)]) ⟨rfl, rfl, none, rfl⟩ ?_ ?_
  ·rintro i ys σ H4 hi15 ⟨rfl, rfl, v, rfl⟩
   have hm : atI (marksL iC 15) (0 + (i : Int)) = some (V.bl (decide (i = iC))) := by
    rw [Int.zero_add]
    refine ZY ?_
    unfold marksL
    rw [List.getElem?_map, List.getElem?_range hi15]
    rfl
   refine ⟨_, rfl, _, rfl, p3, _, _, _, rfl, rfl, SqL.of hHc3, hm, _, rfl, ?_⟩
   have er : ((List.range (i + 1)).filter fun k => decide (k = iC)) = ((List.range i).filter fun k => decide (k = iC)) ++ (if decide (i = iC) = true then [i] else []) := by
    rw [List.range_succ, List.filter_append]
    cases hd : decide (i = iC) <;> simp_all
   cases hd : decide (i = iC) with
   | true =>
    rw [hd] at er
    refine iteT ⟨_, rfl, ?_, ?_, rfl, _, rfl⟩
    ·rw [List.length_map, sizeLine_eq]
     have := List.length_filter_le (fun k => decide (k = iC)) (List.range i)
     rw [List.length_range] at this
     omega
    ·rw [er, if_pos rfl, List.map_append, Int.zero_add]
     rfl
   | false =>
    rw [hd] at er
    exact iteF ⟨by rw [er, if_neg Bool.false_ne_true, List.append_nil], rfl, _, rfl⟩
  ·rintro ys σ H4 ⟨rfl, rfl, v, rfl⟩ p hp
   have ef : ((List.range 15).filter fun k => decide (k = iC)).map (fun k : Nat => V.int (k : Int)) = [V.int (iC : Int)] := by
    rcases hi with rfl | rfl <;> rfl
   rw [ef]
   have sAll := s1.trans (s2.trans (sa.trans (sHb0.trans (sHc0.trans (sHb1.trans (sHc1.trans (sHb2.trans (sHc2.trans (sHb3.trans sHc3)))))))))
   exact q p _ (sAll.trans (Zg hp)) (sAll.free hp) Zb
end
end U
set_option Elab.async false
set_option linter.all false
set_option maxRecDepth 100000
namespace U
open PySem L2 PyProof.Rows
theorem StAt.same {H H' : Hp} {p : Addr} (h : StAt H p) (s : Same H H') : StAt H' p := by
 obtain ⟨u, v, e, r⟩ := h
 exact ⟨u, v, s _ _ e, r⟩
def scal : V → Bool
 | .int _ => true
 | .bl _ => true
 | .str _ => true
 | .non => true
 | _ => false
theorem Zau {K : PySem.W.Frag} {H : Hp} : ∀ {v : V}, scal v = true → PlT K H v
 | .int i, _ => ⟨_, .int i⟩
 | .bl b, _ => ⟨_, .bl b⟩
 | .str x, _ => ⟨_, .str x⟩
 | .non, _ => ⟨_, .non⟩
def plLit : Lit → Bool
 | .sc v => scal v
 | .tup xs => xs.all scal
 | _ => true
def litTup : Lit → Option (List V)
 | .tup xs => some xs
 | _ => none
theorem JN {H : Hp} {v : V} : ∀ {l : Lit}, plLit l = true → LitAt H v l → tupOf H v = litTup l
 | .sc u, hp, h => by
  have h' : v = u := h
  subst h'
  cases v with
  | ref a => cases hp
  | _ => rfl
 | .tup xs, _, ⟨a, e, h⟩ => by rw [e, Zu h]; rfl
 | .lst xs, _, ⟨a, e, h⟩ => by rw [e, Zw, h]; rfl
 | .dct, _, ⟨a, e, h⟩ => by rw [e, Zw, h]; rfl
theorem Zaf {K : PySem.W.Frag} {H : Hp} {v : V} : ∀ {l : Lit}, plLit l = true → LitAt H v l → Pl1 K H v
 | .sc u, hp, h => by
  have h' : v = u := h
  subst h'
  refine ⟨Zau hp, fun xs e y hy => ?_⟩
  rw [JN (l := .sc v) hp rfl] at e
  cases e
 | .tup xs, hp, ⟨a, e, h⟩ => by
  subst e
  refine ⟨⟨_, .tup h⟩, fun ys e y hy => ?_⟩
  rw [Zu h] at e
  cases e
  exact Zau (List.all_eq_true.mp hp y hy)
 | .lst xs, hp, ⟨a, e, h⟩ => by
  subst e
  refine ⟨⟨_, .lst h⟩, fun ys e y hy => ?_⟩
  rw [Zw, h] at e
  cases e
 | .dct, hp, ⟨a, e, h⟩ => by
  subst e
  refine ⟨⟨_, .dK h⟩, fun ys e y hy => ?_⟩
  rw [Zw, h] at e
  cases e
theorem Paired.app {α β : Type} {F : α → β → Prop} : ∀ {a c : List α} {b d : List β}, Paired F a b → Paired F c d → Paired F (a ++ c) (b ++ d)
 | _, _, _, _, .nil, h => h
 | _, _, _, _, .cons r t, h => .cons r (Paired.app t h)
section
variable {P : Program} {w : World} {K : PySem.W.Frag} {mg : Str → Option Value} {base : Heap}
abbrev sNoB : Stmt := top 38
def noB1 : List Lit := [.tup [.int 0, .int 1], .tup [.int 1, .int 13], .tup [.int 13, .int 1], .tup [.int 1, .int 0], .tup [.int (-1), .int 2], .tup [.bl true, .int 2], .tup [.int 2, .bl true], .tup [.bl false, .int 1], .tup [.int 2], .tup [.int 2, .int 2, .int 2]]
def noB2 : List Lit := [.lst [.int 2, .int 2], .sc .non, .sc (.int 4), .sc (.str "2x2"), .tup [.str "2", .int 2], .tup [.int 2, .non], .tup [.int (10 ^ (29 : Int).toNat), .int 2], .dct]
def badLit (l : Lit) : Bool := plLit l && !isBoardL (litTup l)
theorem ZcU : (noB1 ++ noB2).all badLit = true := by decide +kernel
def NoRef (p : Addr) (H : Hp) (v : V) : Prop := v ≠ .ref p ∧ ∀ xs, tupOf H v = some xs → ∀ y ∈ xs, y ≠ .ref p
def spNoB (K : PySem.W.Frag) : Sp := fun vs H Q _ => ∃ p : Addr, vs = [.ref p] ∧ StAt H p ∧ ∀ v H', SameX p H H' → StAt H' p → BadBoard K H' v → NoRef p H' v → Q v H'
def noE1 : List Expr := match defBody sNoB with | .Assign _ (.List es _) _ :: _ => es | _ => []
def noE2 : List Expr := match defBody sNoB with | _ :: .Return (some (.Subscript (.BinOp _ _ (.List es _) _) _ _)) _ :: _ => es | _ => []
def noSk (a b : List Expr) : List Stmt := match defBody sNoB with
 | [.Assign x (.List _ p1) p2, .Return (some (.Subscript (.BinOp y o (.List _ p3) p4) z p5)) p6] => [.Assign x (.List a p1) p2, .Return (some (.Subscript (.BinOp y o (.List b p3) p4) z p5)) p6]
 | _ => []
theorem ZcR : defBody sNoB = noSk noE1 noE2 := by kernel_rfl
theorem ZcT : litsOf noE1 = some noB1 := by kernel_rfl
theorem ZcS : litsOf noE2 = some noB2 := by kernel_rfl
theorem scNoB : FnScope ["_law_state_here", "_law_some"] ["_law_state_here"] (defScope sNoB) := ⟨rfl, rfl, rfl, by decide +kernel, rfl, by decide +kernel, by decide +kernel⟩
theorem Zdz {f : Addr} {fd : FuncData} (F : Fun K "_law_no_board" "_law_no_board" sNoB f fd) (D1 : Def P w K mg base 1 "_law_take" ["_law_state_here", "_law_many"] spTake) : FnOk P w K mg base CX0 2 f fd ["_law_state_here"] (spNoB K) := by
 refine F.ok scNoB (fun vs H Q E h => ?_) (fun cdv A outer s H vs Q E hr h => ?_)
 ·obtain ⟨p, rfl, _⟩ := h
  rfl
 ·obtain ⟨p, rfl, st, q⟩ := h
  rw [ZcR]
  have i1 := ZcT
  have i2 := ZcS
  generalize noE1 = es1 at i1
  generalize noE2 = es2 at i2
  refine ⟨_, Zh (Zs (i := 1) scNoB.nd rfl (Or.inl rfl) (ZD (Je (ls := noB1) i1))) (Zm (Zx (ZP ZM (Zp Y7 (pv 1) (ZD (Je (ls := noB2) i2))) (Zk D1 hr (Za (pv 0) (Za Zi Zc))) (fun _ _ => rfl)))), ?_⟩
  refine fun vs1 H1 s1 pr1 n1 => ?_
  have l1 : vs1.length = 10 := Paired.length pr1
  refine ⟨by rw [l1]; decide, fun L1 hL1 => ?_⟩
  have s2 : Same H1 (upd H1 L1 (.lst vs1)) := Zg hL1
  have eL : upd H1 L1 (.lst vs1) L1 = some (.lst vs1) := Zb
  generalize upd H1 L1 (HO.lst vs1) = H2 at s2 eL
  refine ⟨_, rfl, fun vs2 H3 s3 pr2 n2 => ?_⟩
  have l2 : vs2.length = 8 := Paired.length pr2
  refine ⟨by rw [l2]; decide, fun L2 hL2 => ?_⟩
  have s4 : Same H3 (upd H3 L2 (.lst vs2)) := Zg hL2
  have eM : upd H3 L2 (.lst vs2) L2 = some (.lst vs2) := Zb
  generalize upd H3 L2 (HO.lst vs2) = H4 at s4 eM
  refine ⟨L1, L2, _, _, rfl, rfl, s4 _ _ (s3 _ _ eL), eM, by rw [l1, l2]; decide, fun L3 hL3 => ?_⟩
  have s5 : Same H4 (upd H4 L3 (.lst (vs1 ++ vs2))) := Zg hL3
  have eN : upd H4 L3 (.lst (vs1 ++ vs2)) L3 = some (.lst (vs1 ++ vs2)) := Zb
  generalize upd H4 L3 (HO.lst (vs1 ++ vs2)) = H5 at s5 eN
  have sAll : Same H H5 := s1.trans (s2.trans (s3.trans (s4.trans s5)))
  have pr : Paired (LitAt H5) (vs1 ++ vs2) (noB1 ++ noB2) := Paired.app (Paired.mapP pr1 fun _ _ h => h.same (s2.trans (s3.trans (s4.trans s5)))) (Paired.mapP pr2 fun _ _ h => h.same (s4.trans s5))
  have st5 := st.same sAll
  refine ⟨_, rfl, p, 18, rfl, st5, by decide, by decide, fun r o h0 h18 st6 => ?_⟩
  obtain ⟨u0, v0, ep0, _⟩ := id st5
  have lAll : (vs1 ++ vs2).length = 18 := by rw [List.length_append, l1, l2]
  have nL : L3 ≠ p := fun z => by
   rw [z, ep0] at eN
   have y : [V.int u0, V.int v0] = vs1 ++ vs2 := by injection eN with y; injection y
   rw [← y] at lAll
   cases lAll
  have hlt : r.toNat < (vs1 ++ vs2).length := by rw [lAll]; omega
  have hix := List.getElem?_eq_getElem hlt
  have hat := ZY hix
  rw [Int.toNat_of_nonneg h0] at hat
  obtain ⟨l, hl, at5⟩ := Paired.at pr hix
  have hb := List.all_eq_true.mp ZcU l (List.mem_of_getElem? hl)
  unfold badLit at hb
  rw [Bool.and_eq_true] at hb
  refine ⟨L3, _, _, _, rfl, rfl, SqL.of (by rw [Zf nL]; exact eN), hat, ?_⟩
  have keep : ∀ c u, H5 c = some u → c ≠ p → upd H5 p o c = some u := fun c u hc hn => by rw [Zf hn]; exact hc
  have at6 : LitAt (upd H5 p o) (vs1 ++ vs2)[r.toNat] l := by
   cases l with
   | sc v => exact at5
   | tup xs =>
    obtain ⟨a, e, h⟩ := at5
    exact ⟨a, e, keep _ _ h fun z => by rw [z, ep0] at h; cases h⟩
   | lst xs =>
    obtain ⟨a, e, h⟩ := at5
    refine ⟨a, e, keep _ _ h fun z => ?_⟩
    have hm : V.ref a ∈ vs1 ++ vs2 := by rw [← e]; exact List.getElem_mem hlt
    obtain ⟨_, _, y, _⟩ := id st
    rcases List.mem_append.mp hm with hm | hm
    ·have := n1 a hm
     rw [z, y] at this
     cases this
    ·have := n2 a hm
     rw [z, (s1.trans s2) _ _ y] at this
     cases this
   | dct =>
    obtain ⟨a, e, h⟩ := at5
    exact ⟨a, e, keep _ _ h fun z => by rw [z, ep0] at h; cases h⟩
  have nr : NoRef p (upd H5 p o) (vs1 ++ vs2)[r.toNat] := by
   have ep6 : upd H5 p o p = some o := Zb
   cases l with
   | sc v =>
    have e : (vs1 ++ vs2)[r.toNat] = v := at6
    rw [e]
    have hs : scal v = true := hb.1
    refine ⟨fun z => (by rw [z] at hs; cases hs), fun xs h y hy => ?_⟩
    rw [JN (l := .sc v) hs rfl] at h
    cases h
   | tup xs =>
    obtain ⟨a, e, h⟩ := at5
    have hne : a ≠ p := fun z => by rw [z, ep0] at h; cases h
    rw [e]
    refine ⟨fun z => hne (by cases z; rfl), fun ys h2 y hy z => ?_⟩
    rw [Zu (keep _ _ h hne)] at h2
    cases h2
    have hs := List.all_eq_true.mp (show xs.all scal = true from hb.1) y hy
    rw [z] at hs
    cases hs
   | lst xs =>
    obtain ⟨a, e, h⟩ := at6
    have hm : V.ref a ∈ vs1 ++ vs2 := by rw [← e]; exact List.getElem_mem hlt
    obtain ⟨_, _, y, _⟩ := id st
    have hne : a ≠ p := fun z => by
     rcases List.mem_append.mp hm with hm | hm
     ·have := n1 a hm
      rw [z, y] at this
      cases this
     ·have := n2 a hm
      rw [z, (s1.trans s2) _ _ y] at this
      cases this
    rw [e]
    refine ⟨fun z => hne (by cases z; rfl), fun ys h2 y hy => ?_⟩
    rw [Zw, h] at h2
    cases h2
   | dct =>
    obtain ⟨a, e, h⟩ := at5
    have hne : a ≠ p := fun z => by rw [z, ep0] at h; cases h
    rw [e]
    refine ⟨fun z => hne (by cases z; rfl), fun ys h2 y hy => ?_⟩
    rw [Zw, keep _ _ h hne] at h2
    cases h2
  refine q _ _ (fun c u hc hn => keep c u (sAll _ _ hc) hn) st6 ⟨Zaf hb.1 at6, ?_⟩ nr
  rw [JN hb.1 at6]
  simpa using hb.2
end
end U
set_option Elab.async false
set_option linter.all false
set_option maxRecDepth 100000
namespace U
open PySem L2 PyProof.Rows
theorem Z5 {wd hg : Int} {xs : List V} (h : (xs.length : Int) ≠ wd) : isLayV wd hg (some xs) = false := by
 show (decide ((xs.length : Int) = wd) && _ && _) = false
 rw [decide_eq_false h, Bool.false_and, Bool.false_and]
theorem Uc {wd hg : Int} {xs : List V} {y : V} {k : Nat} (hn : y ≠ .non) (hw : wholeIn y 0 (hg - 1) = false) : isLayV wd hg (some (xs.take k ++ [y] ++ xs.drop (k + 1))) = false := by
 show (decide _ && ((rowsOf (xs.take k ++ [y] ++ xs.drop (k + 1))).all fun r => wholeIn r 0 (hg - 1)) && _) = false
 have hm : y ∈ rowsOf (xs.take k ++ [y] ++ xs.drop (k + 1)) := by
  unfold rowsOf
  refine List.mem_filter.mpr ⟨by simp, by simp [hn]⟩
 have : ((rowsOf (xs.take k ++ [y] ++ xs.drop (k + 1))).all fun r => wholeIn r 0 (hg - 1)) = false := by
  rw [Bool.eq_false_iff]
  intro h
  have := List.all_eq_true.mp h y hm
  rw [hw] at this
  cases this
 rw [this, Bool.and_false, Bool.false_and]
theorem Ur (a b : List V) : rowsOf (a ++ b) = rowsOf a ++ rowsOf b := by unfold rowsOf; rw [List.filter_append]
theorem Zc0 {wd hg : Int} {xs : List V} {y : V} {j k : Nat} (hj : xs[j]? = some y) (hjk : j ≠ k) (hn : y ≠ .non) : isLayV wd hg (some (xs.take k ++ [y] ++ xs.drop (k + 1))) = false := by
 show (decide _ && _ && decide (rowsOf (xs.take k ++ [y] ++ xs.drop (k + 1))).Nodup) = false
 have : ¬ (rowsOf (xs.take k ++ [y] ++ xs.drop (k + 1))).Nodup := by
  rw [Ur, Ur]
  have e1 : rowsOf [y] = [y] := by unfold rowsOf; simp [hn]
  rw [e1]
  intro nd
  have hin : ∀ l : List V, y ∈ l → y ∈ rowsOf l := fun l hl => List.mem_filter.mpr ⟨hl, by simp [hn]⟩
  obtain ⟨n1, n2, n3⟩ := List.nodup_append.mp nd
  obtain ⟨m1, m2, m3⟩ := List.nodup_append.mp n1
  by_cases hlt : j < k
  ·have : y ∈ xs.take k := List.mem_of_getElem? (i := j) (by rw [List.getElem?_take, if_pos hlt]; exact hj)
   exact m3 y (hin _ this) y (by simp) rfl
  ·have : y ∈ xs.drop (k + 1) := List.mem_of_getElem? (i := j - (k + 1)) (by rw [List.getElem?_drop, show k + 1 + (j - (k + 1)) = j by omega]; exact hj)
   exact n3 y (by simp) y (hin _ this) rfl
 rw [decide_eq_false this, Bool.and_false]
def BadL (K : PySem.W.Frag) (wd hg : Int) (H : Hp) (v : V) : Prop := Pl1 K H v ∧ isLayV wd hg (tupOf H v) = false
theorem BadL.same {K : PySem.W.Frag} {wd hg : Int} {H H' : Hp} {v : V} (b : BadL K wd hg H v) (s : Same H H') : BadL K wd hg H' v := ⟨b.1.same s, by rw [YE b.1.1 s]; exact b.2⟩
theorem ZN {K : PySem.W.Frag} {wd hg : Int} {H : Hp} {a : Addr} {xs : List V} (h : H a = some (.tup xs)) (hp : ∀ y ∈ xs, PlT K H y) (hb : isLayV wd hg (some xs) = false) : BadL K wd hg H (.ref a) := by
 refine ⟨⟨⟨_, .tup h⟩, fun ys e y hy => ?_⟩, by rw [Zu h]; exact hb⟩
 rw [Zu h] at e
 cases e
 exact hp y hy
theorem Z4 {K : PySem.W.Frag} {wd hg : Int} {H : Hp} {v : V} {l : Lit} (hp : plLit l = true) (hn : litTup l = none) (h : LitAt H v l) : BadL K wd hg H v := ⟨Zaf hp h, by rw [JN hp h, hn]; rfl⟩
theorem Wq {K : PySem.W.Frag} {wd hg : Int} {H : Hp} {a : Addr} {xs : List V} (h : H a = some (.lst xs)) : BadL K wd hg H (.ref a) := by
 have e0 : tupOf H (.ref a) = none := by rw [Zw, h]; rfl
 exact ⟨⟨⟨_, .lst h⟩, fun ys e => by rw [e0] at e; cases e⟩, by rw [e0]; rfl⟩
theorem Yd {K : PySem.W.Frag} {a b : Addr} {xs ys : List V} {H : Hp} {Q : VK} (ha : H a = some (.tup xs)) (hb : H b = some (.tup ys)) (hl : xs.length + ys.length ≤ 1000) (q : ∀ (c : Addr) (H' : Hp), Same H H' → H' c = some (.tup (xs ++ ys)) → Q (.ref c) H') : rCatA K (.ref a) (.ref b) H Q := by
 cases xs with
 | nil => exact .inl ⟨a, b, ys, rfl, rfl, SqT.of ha, SqT.of hb, q b H (Same.refl H) hb⟩
 | cons x r =>
  refine .inr ⟨a, b, x :: r, ys, rfl, rfl, SqT.of ha, SqT.of hb, (by simp), Nat.le_of_lt (small1000 hl), fun e => ?_, fun e p hp => ?_⟩
  ·subst e
   exact q a H (Same.refl H) (by rw [List.append_nil]; exact ha)
  ·exact q p _ (Zg hp) Zb
theorem ZdK {K : PySem.W.Frag} {a : Addr} {xs : List V} {H : Hp} {Q : VK} {k : Nat} (ha : H a = some (.tup xs)) (hk : k < xs.length) (q : ∀ p : Addr, H p = none → Q (.ref p) (upd H p (.tup (xs.take k)))) : rSlT K (.ref a) none (some (k : Int)) H Q := by
 refine ⟨a, xs, rfl, SqT.of ha, fun h => ?_, fun p hp => ?_⟩
 ·rw [HT.sIx_nat] at h
  omega
 ·have e : cutV xs none (some (k : Int)) = xs.take k := by
   unfold cutV
   rw [HT.sIx_none, HT.sIx_nat, List.drop_zero, Nat.sub_zero, Nat.min_eq_left (by omega)]
  rw [e]
  exact q p hp
theorem UP {K : PySem.W.Frag} {a : Addr} {xs : List V} {H : Hp} {Q : VK} {k : Nat} (ha : H a = some (.tup xs)) (hk : 0 < k) (hk2 : k ≤ xs.length) (q : ∀ p : Addr, H p = none → Q (.ref p) (upd H p (.tup (xs.drop k)))) : rSlT K (.ref a) (some (k : Int)) none H Q := by
 refine ⟨a, xs, rfl, SqT.of ha, fun h => ?_, fun p hp => ?_⟩
 ·rw [HT.sIx_nat] at h
  omega
 ·have e : cutV xs (some (k : Int)) none = xs.drop k := by
   unfold cutV
   rw [HT.sIx_none, HT.sIx_nat, Nat.min_eq_left hk2]
   exact List.take_of_length_le (by rw [List.length_drop]; omega)
  rw [e]
  exact q p hp
theorem W0 {K : PySem.W.Frag} {a : Addr} {xs : List V} {y : V} {H : Hp} {Q : VK} {k : Nat} {σ : L2.St} {te tl th tk1 : TE} (ha : H a = some (.tup xs)) (hk : k < xs.length) (hl : xs.length ≤ 100)
  (e1 : ∀ H Q, Q (.ref a) H → te σ H Q) (e2 : ∀ H Q, Q (.int (k : Int)) H → tl σ H Q) (e3 : ∀ H Q, Q y H → th σ H Q) (e4 : ∀ H Q, Q (.int ((k + 1 : Nat) : Int)) H → tk1 σ H Q)
  (q : ∀ (c : Addr) (H' : Hp), Same H H' → H' c = some (.tup (xs.take k ++ [y] ++ xs.drop (k + 1))) → Q (.ref c) H') :
  tOp (rCatA K) (tOp (rCatA K) (tSl (rSlT K) te tNoPart (tPart tl)) (tTup (tCons th tNil))) (tSl (rSlT K) te (tPart tk1) tNoPart) σ H Q := by
 refine e1 _ _ (e2 _ _ ⟨_, rfl, ZdK ha hk fun p1 hp1 => e3 _ _ ⟨(by show 1 ≤ sizeLine; decide), fun p2 hp2 => ?_⟩⟩)
 have s1 : Same H (upd H p1 (.tup (xs.take k))) := Zg hp1
 have s2 := Zg (o := .tup [y]) hp2
 refine Yd (s2 _ _ Zb) Zb (by rw [List.length_take]; simp; omega) fun c H3 s3 hc => ?_
 have sA := s1.trans (s2.trans s3)
 refine e1 _ _ (e4 _ _ ⟨_, rfl, ?_⟩)
 show rSlT K (.ref a) (some ((k + 1 : Nat) : Int)) none H3 (fun y H2 => rCatA K (.ref c) y H2 Q)
 refine UP (k := k + 1) (sA _ _ ha) (by omega) (by omega) fun p4 hp4 => ?_
 have s4 := Zg (o := .tup (xs.drop (k + 1))) hp4
 refine Yd (s4 _ _ hc) Zb (by rw [List.length_append, List.length_take, List.length_drop]; simp; omega) fun c2 H5 s5 hc2 => ?_
 exact q c2 H5 (sA.trans (s4.trans s5)) hc2
end U
set_option Elab.async false
set_option linter.all false
set_option maxRecDepth 100000
namespace U
open PySem L2 PyProof.Rows
section
variable {P : Program} {w : World} {K : PySem.W.Frag} {mg : Str → Option Value} {base : Heap}
abbrev sNoL : Stmt := top 43
def odds : List Lit := [.sc (.int (-1)), .sc (.bl true), .sc (.bl false), .sc (.str "0"), .tup [.int 0], .sc (.int (10 ^ (29 : Int).toNat)), .lst [.int 0]]
def ixL : List Lit := [.sc (.int 0), .sc (.int 0), .sc (.int 0), .sc (.int 1), .sc (.int 1), .sc (.int 2), .sc (.int 3), .sc (.int 4), .sc (.int 5), .sc (.int 6), .sc (.int 7), .sc (.int 8)]
theorem ZcQ {K : PySem.W.Frag} {H : Hp} {v : V} {l : Lit} {hg : Int} (h2 : hg ≤ 12) (hl : l ∈ odds) (h : LitAt H v l) : v ≠ .non ∧ wholeIn v 0 (hg - 1) = false ∧ PlT K H v := by
 have hp : plLit l = true := List.all_eq_true.mp (show odds.all plLit = true by decide +kernel) l hl
 refine ⟨?_, ?_, (Zaf hp h).1⟩
 ·simp only [odds, List.mem_cons, List.not_mem_nil, or_false] at hl
  rcases hl with rfl | rfl | rfl | rfl | rfl | rfl | rfl
  ·rw [show v = _ from h]; simp
  ·rw [show v = _ from h]; simp
  ·rw [show v = _ from h]; simp
  ·rw [show v = _ from h]; simp
  ·obtain ⟨a, e, _⟩ := h; rw [e]; simp
  ·rw [show v = _ from h]; simp
  ·obtain ⟨a, e, _⟩ := h; rw [e]; simp
 ·simp only [odds, List.mem_cons, List.not_mem_nil, or_false] at hl
  rcases hl with rfl | rfl | rfl | rfl | rfl | rfl | rfl
  ·rw [show v = _ from h]; rfl
  ·rw [show v = _ from h]; rfl
  ·rw [show v = _ from h]; rfl
  ·rw [show v = _ from h]; rfl
  ·obtain ⟨a, e, _⟩ := h; rw [e]; rfl
  ·rw [show v = _ from h]
   show (decide ((0 : Int) ≤ 10 ^ (29 : Int).toNat) && decide ((10 : Int) ^ (29 : Int).toNat ≤ hg - 1)) = false
   have : ¬ (10 : Int) ^ (29 : Int).toNat ≤ hg - 1 := by
    have : (10 : Int) ^ (29 : Int).toNat = 100000000000000000000000000000 := by decide
    omega
   rw [decide_eq_false this, Bool.and_false]
  ·obtain ⟨a, e, _⟩ := h; rw [e]; rfl
theorem Zai {r : Int} {vs : List V} {H : Hp} (h0 : 0 ≤ r) (h1 : r < 12) (pr : Paired (LitAt H) vs ixL) : ∃ c : Nat, c ≤ 8 ∧ atI vs r = some (.int (c : Int)) := by
 have key : ∀ (vs : List V) (ls : List Lit), Paired (LitAt H) vs ls → ls.all (fun l => match l with | .sc (.int i) => decide (0 ≤ i ∧ i ≤ 8) | _ => false) = true → ∀ i : Nat, i < ls.length → ∃ c : Nat, c ≤ 8 ∧ vs[i]? = some (.int (c : Int)) := by
  intro vs ls pr
  induction pr with
  | nil => intro _ i hi; simp at hi
  | cons r t ih =>
   rename_i v l vs' ls'
   intro ha i hi
   rw [List.all_cons, Bool.and_eq_true] at ha
   cases i with
   | zero =>
    cases l with
    | sc u =>
     have e : v = u := r
     subst e
     cases v with
     | int j =>
      have hj := of_decide_eq_true ha.1
      exact ⟨j.toNat, by omega, by simp; omega⟩
     | _ => cases ha.1
    | _ => cases ha.1
   | succ i =>
    obtain ⟨c, h1, h2⟩ := ih ha.2 i (by simpa using hi)
    exact ⟨c, h1, by simpa using h2⟩
 obtain ⟨c, h2, h3⟩ := key vs ixL pr (by decide +kernel) r.toNat (by show r.toNat < 12; omega)
 have := ZY h3
 rw [Int.toNat_of_nonneg h0] at this
 exact ⟨c, h2, this⟩
theorem Jj {wd hg : Int} {xs : List V} (h : IsLay wd hg xs) : ∀ x ∈ xs, x = .non ∨ ∃ i : Int, x = .int i := fun x hx => by
 by_cases e : x = .non
 ·exact .inl e
 ·have m : x ∈ rowsOf xs := List.mem_filter.mpr ⟨hx, by simp [e]⟩
  have q' := h.row x m
  cases x with
  | int i => exact .inr ⟨i, rfl⟩
  | _ => cases q'
theorem ZO {K : PySem.W.Frag} {H : Hp} {wd hg : Int} {xs : List V} (h : IsLay wd hg xs) : ∀ x ∈ xs, PlT K H x := fun x hx => by
 rcases Jj h x hx with rfl | ⟨i, rfl⟩
 ·exact ⟨_, .non⟩
 ·exact ⟨_, .int i⟩
theorem UM : ∀ (xs : List V) (i : Int), V.int i ∈ xs → (∀ x ∈ xs, x = .non ∨ ∃ j : Int, x = .int j) → ∃ j : Nat, xs[j]? = some (.int i) ∧ ∀ m y, m < j → xs[m]? = some y → eqV y (.int i) = false
 | [], i, h, _ => by simp at h
 | x :: r, i, h, hr => by
  by_cases e : x = .int i
  ·exact ⟨0, by rw [e]; rfl, fun m y hm _ => absurd hm (Nat.not_lt_zero _)⟩
  ·have h' : V.int i ∈ r := by
    rcases List.mem_cons.mp h with z | z
    ·exact absurd z.symm e
    ·exact z
   obtain ⟨j, hj, hn⟩ := UM r i h' fun y hy => hr y (List.mem_cons_of_mem _ hy)
   refine ⟨j + 1, by simpa using hj, fun m y hm hy => ?_⟩
   cases m with
   | zero =>
    have : y = x := by simpa using hy.symm
    subst this
    rcases hr y List.mem_cons_self with rfl | ⟨k, rfl⟩
    ·rfl
    ·show (k == i) = false
     have : k ≠ i := fun z => e (by rw [z])
     simpa using this
   | succ m => exact hn m y (by omega) (by simpa using hy)
def spNoL (K : PySem.W.Frag) : Sp := fun vs H Q _ => ∃ (p b l : Addr) (wd hg : Int) (xs : List V), vs = [.ref p, .ref b, .ref l] ∧ StAt H p ∧ BoardAt H (.ref b) wd hg ∧ H l = some (.tup xs) ∧ IsLay wd hg xs ∧ ∀ v H', SameX p H H' → StAt H' p → BadL K wd hg H' v → Q v H'
def nlE1 : List Expr := match defBody sNoL with | _ :: .Assign _ (.Subscript (.List (_ :: es) _) _ _) _ :: _ => es | _ => []
def nlE2 : List Expr := match defBody sNoL with | [_, _, _, _, _, _, _, .Return (some (.Subscript _ (.Subscript (.List es _) _ _) _)) _] => es | _ => []
def nlSk (a b : List Expr) : List Stmt := match defBody sNoL with
 | [s0, .Assign x (.Subscript (.List (y :: _) p1) z p2) p3, s2, s3, s4, s5, s6, .Return (some (.Subscript u (.Subscript (.List _ q1) v q2) q3)) q4] => [s0, .Assign x (.Subscript (.List (y :: a) p1) z p2) p3, s2, s3, s4, s5, s6, .Return (some (.Subscript u (.Subscript (.List b q1) v q2) q3)) q4]
 | _ => []
theorem ZcV : defBody sNoL = nlSk nlE1 nlE2 := by kernel_rfl
theorem ZcX : litsOf nlE1 = some odds := by kernel_rfl
theorem ZcW : litsOf nlE2 = some ixL := by kernel_rfl
theorem scNoL : FnScope ["_law_state_here", "_law_board_here", "_law_lay_here", "_law_way", "_law_at", "_law_to", "_law_odd", "_law_rows", "_law_twice", "_law_row", "_law_spot", "_law_some"] ["_law_state_here", "_law_board_here", "_law_lay_here"] (defScope sNoL) := ⟨rfl, rfl, rfl, by decide +kernel, rfl, by decide +kernel, by decide +kernel⟩
theorem Zaq {D : Ends} {σ : L2.St} {H : Hp} (h : D.nx σ H) : tNext D σ H := h
theorem Z9 {t u : TS} {D : Ends} {σ : L2.St} {H : Hp} (h : t { D with nx := u D } σ H) : tSeq t u D σ H := h
theorem Yr {te : TE} {g : TG} {D : Ends} {σ : L2.St} {H : Hp} (h : te σ H fun v H1 => g v σ H1 D.nx) : tAsg te g D σ H := h
theorem UZ {t : TA} {σ : L2.St} {H : Hp} {Q : VK} (h : t σ H fun xs H1 => xs.length ≤ sizeLine ∧ ∀ p, H1 p = none → Q (.ref p) (upd H1 p (.lst xs))) : tLst t σ H Q := h
theorem YT {ta : TE} {tr : TA} {σ : L2.St} {H : Hp} {Q : List V → Hp → Prop} (h : ta σ H fun x H1 => tr σ H1 fun xs H2 => Q (x :: xs) H2) : tCons ta tr σ H Q := h
theorem Z6 {i : Nat} {v : V} {σ : L2.St} {H : Hp} {Q : L2.St → Hp → Prop} (h : Q (σ.set i (some v)) H) : gName i v σ H Q := h
theorem Y9 {K : PySem.W.Frag} {a : Addr} {xs : List V} {H : Hp} {Q : VK} {k : Nat} {σ : L2.St} {te tl : TE} (ha : H a = some (.tup xs)) (hk : 0 < k) (hk2 : k ≤ xs.length) (e1 : ∀ H Q, Q (.ref a) H → te σ H Q) (e2 : ∀ H Q, Q (.int (k : Int)) H → tl σ H Q)
  (q : ∀ p : Addr, H p = none → Q (.ref p) (upd H p (.tup (xs.drop k)))) : tSl (rSlT K) te (tPart tl) tNoPart σ H Q := e1 _ _ (e2 _ _ ⟨_, rfl, show rSlT K (.ref a) (some (k : Int)) none H Q from UP ha hk hk2 q⟩)
set_option maxHeartbeats 4000000 in
theorem Zdy {f : Addr} {fd : FuncData} (F : Fun K "_law_no_lay" "_law_no_lay" sNoL f fd) (G : Gs mg) (D1 : Def P w K mg base 1 "_law_take" ["_law_state_here", "_law_many"] spTake) : FnOk P w K mg base CX0 2 f fd ["_law_state_here", "_law_board_here", "_law_lay_here"] (spNoL K) := by
  refine F.ok scNoL (fun vs H Q E h => ?_) (fun cdv A outer s H vs Q E hr h => ?_)
  · obtain ⟨p, b, l, wd, hg, xs, rfl, _⟩ := h
    rfl
  · obtain ⟨p, b, l, wd, hg, xs, rfl, st, bd, hl, lay, q⟩ := h
    rw [ZcV]
    have i1 := ZcX
    have i2 := ZcW
    generalize nlE1 = es1 at i1
    generalize nlE2 = es2 at i2
    refine ⟨_, Zh (W1 (i := 3) (j := 4) (k := 5) rfl scNoL.nd rfl rfl rfl rfl rfl rfl
        (Za (Zk D1 hr (Za (pv 0) (Za Zi Zc))) (Za (Zk D1 hr (Za (pv 0) (Za (ZP Yu (pv 1) Zi (fun _ _ => rfl)) Zc))) (Za (Zk D1 hr (Za (pv 0) (Za Zi Zc))) Zc))))
      (Zh (Zs (i := 6) scNoL.nd rfl (Or.inl rfl) (ZP ZM (ZD (Za (ZP Yu (pv 1) Zi (fun _ _ => rfl)) (Je (ls := odds) i1))) (Zk D1 hr (Za (pv 0) (Za Zi Zc))) (fun _ _ => rfl)))
      (Zh (YV ["_law_row"] 1 [] (i := 7) scNoL.nd rfl (Or.inl rfl) (U5 (pv 2)) (fun C s H fp => pb 0) (fun C s H fp => Yo (Y5 (Jd (pv 0)))) (fun C s H fp D => ZJ rfl (pv 0)))
      (Zh (Zs (i := 8) scNoL.nd rfl (Or.inl rfl) (Zp Yc (pv 2) (Zv (Za Ys Zc))))
      (Zh (ZS (PW.pt (J5 (ZG (ZbL hr.units0) (pv 7) (ZD Zc) (nomark _)) (JK (ZG Zdg (Zj Zr rfl G.len boot_len (Za (pv 2) Zc)) Zi (nomark _)))))
        (Zh (Zs (i := 9) scNoL.nd rfl (Or.inl rfl) (ZP ZM (pv 7) (Zp Yk (pv 5) (Zj Zr rfl G.len boot_len (Za (pv 7) Zc))) (fun _ _ => rfl)))
        (Zh (Zs (i := 10) scNoL.nd rfl (Or.inl rfl) (Zp Yk (Zp Yt (Zp Yt (Wa PySem.F.plainAttrs_tuple PySem.F.slot_tuple_index PySem.F.type_tuple_index Zba (pv 2) (Za (pv 9) Zc)) Zi) (Zp Yk (pv 4) (Zp YI (Zj Zr rfl G.len boot_len (Za (pv 2) Zc)) Zi))) (Zj Zr rfl G.len boot_len (Za (pv 2) Zc))))
        (Zm (Zs (i := 8) scNoL.nd rfl (Or.inl rfl) (Zp Yc (Zp Yc (Yy JU (pv 2) YX (YW (pv 10))) (Zv (Za (pv 9) Zc))) (Yy JU (pv 2) (YW (Zp Yt (pv 10) Zi)) YX)))))) ZC)
      (Zh (Zs (i := 11) scNoL.nd rfl (Or.inl rfl) (ZD (Za (Zp Yc (Zp Yc (Yy JU (pv 2) YX (YW (pv 4))) (Zv (Za (pv 6) Zc))) (Yy JU (pv 2) (YW (Zp Yt (pv 4) Zi)) YX))
        (Za (pv 8) (Za (Zp Yc (pv 2) (Zv (Za Ys Zc))) (Za (Yy JU (pv 2) (YW Zi) YX) (Za (Yz Uf rfl G.list boot_list (Za (pv 2) Zc)) Zc)))))))
      (Zh (Zs (i := 11) scNoL.nd rfl (Or.inl rfl) (Zp Y7 (pv 11) (ZD (Za Ys (Za W2 (Za Uv (Za (Zp Yc (pv 2) (pv 2)) Zc)))))))
      (Zm (Zx (ZP ZM (pv 11) (ZP ZM (ZD (Je (ls := ixL) i2)) (pv 3) (fun _ _ => rfl)) (fun _ _ => rfl)))))))))), ?_⟩
    obtain ⟨hbt, w1, w2, g1, g2⟩ := id bd
    have hb : H b = some (.tup [.int wd, .int hg]) := by
      obtain ⟨a, e, h⟩ := ZF hbt
      cases e
      exact h
    obtain ⟨u0, v0, ep, _⟩ := id st
    have hbp : b ≠ p := Yl hb ep (by intro z; cases z)
    have hlp : l ≠ p := Yl hl ep (by intro z; cases z)
    have hlen := lay.len
    refine ⟨_, rfl, p, 12, rfl, st, by decide, by decide, fun r1 o1 a1 a2 st1 => ?_⟩
    refine ⟨_, rfl, _, rfl, b, _, _, _, rfl, rfl, SqT.of (by rw [Zf hbp]; exact hb), at0, p, wd, rfl, st1, by omega, by omega, fun r2 o2 a3 a4 st2 => ?_⟩
    obtain ⟨k2, rfl⟩ := Int.eq_ofNat_of_zero_le a3
    refine ⟨_, rfl, p, 12, rfl, st2, by decide, by decide, fun r3 o3 a5 a6 st3 => ⟨_, _, _, rfl, ?_⟩⟩
    have x3 : SameX p H (upd (upd (upd H p o1) p o2) p o3) := (SameX.upd.trans SameX.upd).trans SameX.upd
    generalize upd (upd (upd H p o1) p o2) p o3 = H3 at st3 x3
    have hb3 := x3 _ _ hb hbp
    have hl3 := x3 _ _ hl hlp
    refine ⟨_, rfl, b, _, _, _, rfl, rfl, SqT.of hb3, at1, fun ovs H4 s4 pr4 n4 => ?_⟩
    have lo : ovs.length = 7 := Paired.length pr4
    refine ⟨by show ovs.length + 1 ≤ sizeLine; rw [lo]; decide, fun L4 hL4 => ?_⟩
    have s5 : Same H4 (upd H4 L4 (.lst (V.int hg :: ovs))) := Zg hL4
    have e5 : upd H4 L4 (.lst (V.int hg :: ovs)) L4 = some (.lst (V.int hg :: ovs)) := Zb
    generalize upd H4 L4 (HO.lst (V.int hg :: ovs)) = H5 at s5 e5
    have s35 : Same H3 H5 := s4.trans s5
    refine ⟨_, rfl, p, 8, rfl, st3.same s35, by decide, by decide, fun r4 o4 a7 a8 st6 => ?_⟩
    obtain ⟨u3, v3, ep3, _⟩ := id st3
    have nL4 : L4 ≠ p := fun z => by rw [z, s4 _ _ ep3] at hL4; cases hL4
    have hlt : r4.toNat < (V.int hg :: ovs).length := by rw [List.length_cons, lo]; omega
    have hix := List.getElem?_eq_getElem hlt
    have hat := ZY hix
    rw [Int.toNat_of_nonneg a7] at hat
    have x56 : SameX p H5 (upd H5 p o4) := SameX.upd
    refine ⟨L4, _, _, _, rfl, rfl, SqL.of (by rw [Zf nL4]; exact e5), hat, ?_⟩
    generalize hod : (V.int hg :: ovs)[r4.toNat] = od at hix
    have odd : od ≠ .non ∧ wholeIn od 0 (hg - 1) = false ∧ PlT K (upd H5 p o4) od := by
      cases hr : r4.toNat with
      | zero =>
        rw [hr] at hix
        have e : V.int hg = od := by simpa using hix
        rw [← e]
        refine ⟨by simp, ?_, ⟨_, .int hg⟩⟩
        show (decide (0 ≤ hg) && decide (hg ≤ hg - 1)) = false
        rw [decide_eq_false (show ¬ hg ≤ hg - 1 by omega), Bool.and_false]
      | succ k =>
        rw [hr] at hix
        have hk : ovs[k]? = some od := by simpa using hix
        obtain ⟨lt, hlt2, at4⟩ := Yx pr4 hk
        have at5 := at4.same s5
        have at6 : LitAt (upd H5 p o4) od lt := by
          have nep : ∀ a, od = .ref a → a ≠ p := fun a e z => by
            have := n4 a (by rw [← e]; exact List.mem_of_getElem? hk)
            rw [z, ep3] at this
            cases this
          cases lt with
          | sc v => exact at5
          | tup ys =>
            obtain ⟨a, e, h⟩ := at5
            exact ⟨a, e, by rw [Zf (nep a e)]; exact h⟩
          | lst ys =>
            obtain ⟨a, e, h⟩ := at5
            exact ⟨a, e, by rw [Zf (nep a e)]; exact h⟩
          | dct =>
            obtain ⟨a, e, h⟩ := at5
            exact ⟨a, e, by rw [Zf (nep a e)]; exact h⟩
        exact ZcQ g2 (List.mem_of_getElem? hlt2) at6
    have x6 : SameX p H (upd H5 p o4) := (x3.trans s35.x).trans x56
    generalize upd H5 p o4 = H6 at st6 odd x6
    clear x56 e5 hL4
    have hl6 := x6 _ _ hl hlp
    have hb6 := x6 _ _ hb hbp
    obtain ⟨odn, odw, odp⟩ := odd
    refine ⟨_, rfl, l, rfl, ⟨xs, SqT.of hl6⟩, ?_⟩
    refine We (xs := xs) (fun i ys σ H2 => ys = rowsOf (xs.take i) ∧ H2 = H6 ∧ ∃ v, σ = [v]) ⟨rfl, rfl, none, rfl⟩ (fun i ys σ H2 _ ⟨_, e2, _⟩ => by rw [e2]; exact SqT.of hl6) ?_ ?_
    · rintro i r ys σ H2 hr' ⟨rfl, rfl, v, rfl⟩
      have et : rowsOf (xs.take (i + 1)) = rowsOf (xs.take i) ++ (if (!decide (r = V.non)) = true then [r] else []) := by
        unfold rowsOf
        rw [List.take_add_one, hr', List.filter_append]
        cases hh : (!decide (r = V.non)) with
        | true => simp [hh]
        | false => simp [hh]
      refine ⟨r, rfl, _, rfl, ?_⟩
      cases hh : (!decide (r = V.non)) with
      | true =>
        rw [hh] at et
        refine iteT ?_
        refine ⟨r, rfl, ?_, ?_⟩
        · have := List.length_filter_le (fun x => !decide (x = V.non)) (xs.take i)
          unfold rowsOf
          rw [sizeLine_eq]
          rw [List.length_take] at this
          omega
        · exact ⟨by rw [et, if_pos rfl], rfl, _, rfl⟩
      | false =>
        rw [hh] at et
        exact iteF ⟨by rw [et, if_neg Bool.false_ne_true, List.append_nil], rfl, _, rfl⟩
    · rintro ys σ H2 ⟨rfl, rfl, v, rfl⟩ R7 hR7
      rw [List.take_length]
      have s7 : Same H2 (upd H2 R7 (.lst (rowsOf xs))) := Zg hR7
      have e7 : upd H2 R7 (.lst (rowsOf xs)) R7 = some (.lst (rowsOf xs)) := Zb
      generalize upd H2 R7 (HO.lst (rowsOf xs)) = H7 at s7 e7
      refine ⟨_, rfl, (by show 1 ≤ sizeLine; decide), fun t8 ht8 => ?_⟩
      have s8 : Same H7 (upd H7 t8 (.tup [.non])) := Zg ht8
      refine Yd (s8 _ _ (s7 _ _ hl6)) Zb (by simp; omega) fun c9 H9 s9 hc9 => ?_
      have s29 : Same H2 H9 := s7.trans (s8.trans s9)
      have pl9 : ∀ y ∈ xs ++ [V.non], PlT K H9 y := fun y hy => by
        rcases List.mem_append.mp hy with m | m
        · exact ZO lay y m
        · rw [List.mem_singleton.mp m]; exact ⟨_, .non⟩
      have bt9 : BadL K wd hg H9 (.ref c9) := ZN hc9 pl9 (Z5 (by rw [List.length_append]; simp; omega))
      have e9 := (s8.trans s9) _ _ e7
      refine ⟨_, rfl, Nat.zero_le _, fun z10 hz10 => ?_⟩
      have sz : Same H9 (upd H9 z10 (.lst [])) := Zg hz10
      have ez : upd H9 z10 (.lst []) z10 = some (.lst []) := Zb
      generalize upd H9 z10 (HO.lst []) = H10 at sz ez
      have s10 : Same H2 H10 := s29.trans sz
      refine ⟨R7, z10, rowsOf xs, rfl, rfl, SqL.of (sz _ _ e9), SqL.of ez, _, rfl, ?_⟩
      have bt10 := bt9.same sz
      cases hE : (rowsOf xs).isEmpty with
      | true =>
        refine iteF (iteF (Zaq ?_))
        dsimp only
        have hl10 := s10 _ _ hl6
        refine Z9 (Yr (UZ (YT ?_)))
        refine W0 (K := K) (a := l) (xs := xs) (y := od) (k := k2) hl10 (by omega) (by omega) (fun H Q h => ⟨_, rfl, h⟩) (fun H Q h => ⟨_, rfl, h⟩) (fun H Q h => ⟨_, rfl, h⟩)
          (fun H Q h => ⟨_, rfl, _, _, rfl, rfl, (by have e : ((k2 + 1 : Nat) : Int) = (k2 : Int) + 1 := by omega
                                                     rw [e] at h; exact h)⟩) fun c11 H11 s11 hc11 => ?_
        have b11 : BadL K wd hg H11 (.ref c11) := ZN hc11 (fun y hy => by
          rcases List.mem_append.mp hy with m | m
          · rcases List.mem_append.mp m with m | m
            · exact ZO lay y (List.mem_of_mem_take m)
            · rw [List.mem_singleton.mp m]; exact (s10.trans s11).plT odp
          · exact ZO lay y (List.mem_of_mem_drop m)) (Uc odn odw)
        replace bt10 := bt10.same s11
        have hl11 := s11 _ _ hl10
        refine ⟨_, rfl, _, rfl, (by show 1 ≤ sizeLine; decide), fun t12 ht12 => ?_⟩
        have s12 := Zg (o := .tup [V.non]) ht12
        refine Yd (s12 _ _ hl11) Zb (by simp; omega) fun c13 H13 s13 hc13 => ?_
        have sA := s12.trans s13
        have b13 : BadL K wd hg H13 (.ref c13) := ZN hc13 (fun y hy => by
          rcases List.mem_append.mp hy with m | m
          · exact ZO lay y m
          · rw [List.mem_singleton.mp m]; exact ⟨_, .non⟩) (Z5 (by rw [List.length_append]; simp; omega))
        have hl13 := sA _ _ hl11
        refine YT (Y9 (K := K) (a := l) (xs := xs) (k := 1) hl13 (by omega) (by omega) (fun H Q h => ⟨_, rfl, h⟩) (fun H Q h => h) fun c14 hc14 => ?_)
        have s14 := Zg (o := .tup (xs.drop 1)) hc14
        have b14 : BadL K wd hg (upd H13 c14 (.tup (xs.drop 1))) (.ref c14) := ZN Zb (fun y hy => ZO lay y (List.mem_of_mem_drop hy)) (Z5 (by rw [List.length_drop]; omega))
        generalize upd H13 c14 (HO.tup (xs.drop 1)) = H14 at s14 b14
        have hl14 := s14 _ _ hl13
        refine ⟨_, rfl, l, xs, rfl, .inr (SqT.of hl14), fun c15 hc15 => ?_⟩
        have s15 := Zg (o := .lst xs) hc15
        have b15 : BadL K wd hg (upd H14 c15 (.lst xs)) (.ref c15) := Wq Zb
        generalize upd H14 c15 (HO.lst xs) = H15 at s15 b15
        refine ⟨(by show 5 ≤ sizeLine; decide), fun L16 hL16 => ?_⟩
        have s16 := Zg (o := .lst [V.ref c11, V.ref c9, V.ref c13, V.ref c14, V.ref c15]) hL16
        have e16 : upd H15 L16 (.lst [V.ref c11, V.ref c9, V.ref c13, V.ref c14, V.ref c15]) L16 = some (.lst [V.ref c11, V.ref c9, V.ref c13, V.ref c14, V.ref c15]) := Zb
        generalize upd H15 L16 (HO.lst [V.ref c11, V.ref c9, V.ref c13, V.ref c14, V.ref c15]) = H16 at s16 e16
        have hl16 := s16 _ _ (s15 _ _ hl14)
        refine ⟨_, rfl, fun d17 hd17 => ?_⟩
        have s17 := Zg (o := .dK []) hd17
        have b17 : BadL K wd hg (upd H16 d17 (.dK [])) (.ref d17) := Z4 (l := .dct) rfl rfl ⟨d17, rfl, Zb⟩
        generalize upd H16 d17 (HO.dK []) = H17 at s17 b17
        have hl17 := s17 _ _ hl16
        refine ⟨_, rfl, _, rfl, Yd hl17 hl17 (by omega) fun c18 H18 s18 hc18 => ?_⟩
        have b18 : BadL K wd hg H18 (.ref c18) := ZN hc18 (fun y hy => by
          rcases List.mem_append.mp hy with m | m
          · exact ZO lay y m
          · exact ZO lay y m) (Z5 (by rw [List.length_append]; omega))
        refine ⟨(by show 4 ≤ sizeLine; decide), fun L19 hL19 => ?_⟩
        have s19 := Zg (o := .lst [V.non, V.str "1x1: .", V.ref d17, V.ref c18]) hL19
        refine ⟨L16, L19, _, _, rfl, rfl, s19 _ _ (s18 _ _ (s17 _ _ e16)), Zb, (by show 5 + 4 ≤ sizeLine; decide), fun L20 hL20 => ?_⟩
        have s20 := Zg (o := .lst ([V.ref c11, V.ref c9, V.ref c13, V.ref c14, V.ref c15] ++ [V.non, V.str "1x1: .", V.ref d17, V.ref c18])) hL20
        have e20 : upd (upd H18 L19 (.lst [V.non, V.str "1x1: .", V.ref d17, V.ref c18])) L20 (.lst ([V.ref c11, V.ref c9, V.ref c13, V.ref c14, V.ref c15] ++ [V.non, V.str "1x1: .", V.ref d17, V.ref c18])) L20 = some (.lst ([V.ref c11, V.ref c9, V.ref c13, V.ref c14, V.ref c15] ++ [V.non, V.str "1x1: .", V.ref d17, V.ref c18])) := Zb
        generalize upd (upd H18 L19 (.lst [V.non, V.str "1x1: .", V.ref d17, V.ref c18])) L20 (HO.lst ([V.ref c11, V.ref c9, V.ref c13, V.ref c14, V.ref c15] ++ [V.non, V.str "1x1: .", V.ref d17, V.ref c18])) = H20 at s20 e20
        refine ⟨_, rfl, fun ivs H21 s21 pr21 n21 => ?_⟩
        have li : ivs.length = 12 := Paired.length pr21
        refine ⟨by rw [li]; decide, fun L22 hL22 => ?_⟩
        have s22 := Zg (o := .lst ivs) hL22
        obtain ⟨ci, hci, hai⟩ := Zai a1 a2 pr21
        refine ⟨_, rfl, L22, _, _, _, rfl, rfl, SqL.of Zb, hai, ?_⟩
        have sB := s19.trans (s20.trans (s21.trans s22))
        have all9 : ∀ v ∈ [V.ref c11, V.ref c9, V.ref c13, V.ref c14, V.ref c15] ++ [V.non, V.str "1x1: .", V.ref d17, V.ref c18], BadL K wd hg (upd H21 L22 (.lst ivs)) v := by
          intro v hv
          have sC := s18.trans sB
          have sD := s17.trans sC
          have sE := s16.trans sD
          have sF := s15.trans sE
          have sG := s14.trans sF
          simp only [List.cons_append, List.nil_append, List.mem_cons, List.not_mem_nil, or_false] at hv
          rcases hv with rfl | rfl | rfl | rfl | rfl | rfl | rfl | rfl | rfl
          · exact b11.same (sA.trans sG)
          · exact bt10.same (sA.trans sG)
          · exact b13.same sG
          · exact b14.same sF
          · exact b15.same sE
          · exact Z4 (l := .sc .non) rfl rfl rfl
          · exact Z4 (l := .sc (.str "1x1: .")) rfl rfl rfl
          · exact b17.same sC
          · exact b18.same sB
        have hlt9 : ci < ([V.ref c11, V.ref c9, V.ref c13, V.ref c14, V.ref c15] ++ [V.non, V.str "1x1: .", V.ref d17, V.ref c18]).length := by show ci < 9; omega
        refine ⟨L20, _, _, _, rfl, rfl, SqL.of ((s21.trans s22) _ _ e20), ZY (List.getElem?_eq_getElem hlt9), ?_⟩
        have sAll := s10.trans (s11.trans (sA.trans (s14.trans (s15.trans (s16.trans (s17.trans (s18.trans sB)))))))
        exact q _ _ (x6.trans sAll.x) (st6.same sAll) (all9 _ (List.getElem_mem hlt9))
      | false =>
        refine iteT ?_
        refine ⟨_, rfl, l, xs, rfl, .inr (SqT.of (s10 _ _ hl6)), _, _, rfl, rfl, _, rfl, ?_⟩
        refine ite2 (fun h1 => ?_) (fun _ => ?_)
        · have h1' : 1 < xs.length := by
            have := of_decide_eq_true h1
            omega
          have nr : 0 < (rowsOf xs).length := by
            cases hr0 : rowsOf xs with
            | nil => rw [hr0] at hE; cases hE
            | cons a b => simp
          have hmod : 0 ≤ r3 % ((rowsOf xs).length : Int) ∧ r3 % ((rowsOf xs).length : Int) < ((rowsOf xs).length : Int) := ⟨Int.emod_nonneg _ (by omega), Int.emod_lt_of_pos _ (by omega)⟩
          have hlt3 : (r3 % ((rowsOf xs).length : Int)).toNat < (rowsOf xs).length := by omega
          have hat3 := ZY (List.getElem?_eq_getElem hlt3)
          rw [Int.toNat_of_nonneg hmod.1] at hat3
          have hmr : (rowsOf xs)[(r3 % ((rowsOf xs).length : Int)).toNat] ∈ rowsOf xs := List.getElem_mem hlt3
          generalize (rowsOf xs)[(r3 % ((rowsOf xs).length : Int)).toNat] = row at hat3 hmr
          have hmx : row ∈ xs := (List.mem_filter.mp hmr).1
          have hrn : row ≠ .non := by simpa using (List.mem_filter.mp hmr).2
          obtain ⟨ri, rfl⟩ : ∃ ri : Int, row = .int ri := by
            rcases Jj lay row hmx with z | z
            · exact absurd z hrn
            · exact z
          obtain ⟨j, hj, hno⟩ := UM xs ri hmx (Jj lay)
          have hjl : j < xs.length := (List.getElem?_eq_some_iff.mp hj).1
          have flat : xs.all flatV = true := List.all_eq_true.mpr fun x hx => by
            rcases Jj lay x hx with z | ⟨i, z⟩ <;> rw [z] <;> rfl
          have hl10 := s10 _ _ hl6
          refine ⟨_, rfl, _, rfl, _, rfl, R7, _, rfl, .inl (SqL.of (sz _ _ e9)), _, _, rfl, rfl, by omega, R7, _, _, _, rfl, rfl, SqL.of (sz _ _ e9), hat3, ?_⟩
          refine ⟨_, rfl, .inr (.inl ⟨rfl, .inr ⟨_, hl10⟩⟩), _, rfl, l, xs, .int ri, j, rfl, rfl, SqT.of hl10, rfl, flat, ⟨_, hj, by show (ri == ri) = true; simp⟩, hno, ?_⟩
          have sp0 : 0 ≤ ((j : Int) + 1 + (k2 : Int) % ((xs.length : Int) - 1)) % (xs.length : Int) ∧ ((j : Int) + 1 + (k2 : Int) % ((xs.length : Int) - 1)) % (xs.length : Int) < (xs.length : Int) := ⟨Int.emod_nonneg _ (by omega), Int.emod_lt_of_pos _ (by omega)⟩
          have spj : ((j : Int) + 1 + (k2 : Int) % ((xs.length : Int) - 1)) % (xs.length : Int) ≠ (j : Int) := by
            have m1 : 0 ≤ (k2 : Int) % ((xs.length : Int) - 1) := Int.emod_nonneg _ (by omega)
            have m2 : (k2 : Int) % ((xs.length : Int) - 1) < (xs.length : Int) - 1 := Int.emod_lt_of_pos _ (by omega)
            generalize (k2 : Int) % ((xs.length : Int) - 1) = m at m1 m2
            intro hz
            by_cases hlt : (j : Int) + 1 + m < (xs.length : Int)
            · rw [Int.emod_eq_of_lt (by omega) hlt] at hz
              omega
            · have e : ((j : Int) + 1 + m) % (xs.length : Int) = (j : Int) + 1 + m - (xs.length : Int) := by
                rw [← Int.sub_emod_right, Int.emod_eq_of_lt (by omega) (by omega)]
              rw [e] at hz
              omega
          refine ⟨_, _, rfl, rfl, _, rfl, _, rfl, l, xs, rfl, .inr (SqT.of hl10), _, _, rfl, rfl, _, _, rfl, rfl, by omega, _, _, rfl, rfl, _, rfl, l, xs, rfl, .inr (SqT.of hl10), _, _, rfl, rfl, by omega, ?_⟩
          refine Z6 ?_
          dsimp only
          generalize ((j : Int) + 1 + (k2 : Int) % ((xs.length : Int) - 1)) % (xs.length : Int) = spz at sp0 spj ⊢
          obtain ⟨sp, rfl⟩ := Int.eq_ofNat_of_zero_le sp0.1
          have hspl : sp < xs.length := by omega
          have hspj : j ≠ sp := by omega
          refine Yr ?_
          refine W0 (K := K) (a := l) (xs := xs) (y := .int ri) (k := sp) hl10 hspl (by omega) (fun H Q h => ⟨_, rfl, h⟩) (fun H Q h => ⟨_, rfl, h⟩) (fun H Q h => ⟨_, rfl, h⟩)
            (fun H Q h => ⟨_, rfl, _, _, rfl, rfl, (by have e : ((sp + 1 : Nat) : Int) = (sp : Int) + 1 := by omega
                                                       rw [e] at h; exact h)⟩) fun cz Hz sz2 hcz => ?_
          refine Z6 ?_
          dsimp only
          have btz : BadL K wd hg Hz (.ref cz) := ZN hcz (fun y hy => by
            rcases List.mem_append.mp hy with m | m
            · rcases List.mem_append.mp m with m | m
              · exact ZO lay y (List.mem_of_mem_take m)
              · rw [List.mem_singleton.mp m]; exact ⟨_, .int ri⟩
            · exact ZO lay y (List.mem_of_mem_drop m)) (Zc0 hj hspj (by simp))
          clear bt10
          have s10 := s10.trans sz2
          have bt10 := btz
          clear hl10
          have hl10 := s10 _ _ hl6
          refine Z9 (Yr (UZ (YT ?_)))
          refine W0 (K := K) (a := l) (xs := xs) (y := od) (k := k2) hl10 (by omega) (by omega) (fun H Q h => ⟨_, rfl, h⟩) (fun H Q h => ⟨_, rfl, h⟩) (fun H Q h => ⟨_, rfl, h⟩)
            (fun H Q h => ⟨_, rfl, _, _, rfl, rfl, (by have e : ((k2 + 1 : Nat) : Int) = (k2 : Int) + 1 := by omega
                                                       rw [e] at h; exact h)⟩) fun c11 H11 s11 hc11 => ?_
          have b11 : BadL K wd hg H11 (.ref c11) := ZN hc11 (fun y hy => by
            rcases List.mem_append.mp hy with m | m
            · rcases List.mem_append.mp m with m | m
              · exact ZO lay y (List.mem_of_mem_take m)
              · rw [List.mem_singleton.mp m]; exact (s10.trans s11).plT odp
            · exact ZO lay y (List.mem_of_mem_drop m)) (Uc odn odw)
          replace bt10 := bt10.same s11
          have hl11 := s11 _ _ hl10
          refine ⟨_, rfl, _, rfl, (by show 1 ≤ sizeLine; decide), fun t12 ht12 => ?_⟩
          have s12 := Zg (o := .tup [V.non]) ht12
          refine Yd (s12 _ _ hl11) Zb (by simp; omega) fun c13 H13 s13 hc13 => ?_
          have sA := s12.trans s13
          have b13 : BadL K wd hg H13 (.ref c13) := ZN hc13 (fun y hy => by
            rcases List.mem_append.mp hy with m | m
            · exact ZO lay y m
            · rw [List.mem_singleton.mp m]; exact ⟨_, .non⟩) (Z5 (by rw [List.length_append]; simp; omega))
          have hl13 := sA _ _ hl11
          refine YT (Y9 (K := K) (a := l) (xs := xs) (k := 1) hl13 (by omega) (by omega) (fun H Q h => ⟨_, rfl, h⟩) (fun H Q h => h) fun c14 hc14 => ?_)
          have s14 := Zg (o := .tup (xs.drop 1)) hc14
          have b14 : BadL K wd hg (upd H13 c14 (.tup (xs.drop 1))) (.ref c14) := ZN Zb (fun y hy => ZO lay y (List.mem_of_mem_drop hy)) (Z5 (by rw [List.length_drop]; omega))
          generalize upd H13 c14 (HO.tup (xs.drop 1)) = H14 at s14 b14
          have hl14 := s14 _ _ hl13
          refine ⟨_, rfl, l, xs, rfl, .inr (SqT.of hl14), fun c15 hc15 => ?_⟩
          have s15 := Zg (o := .lst xs) hc15
          have b15 : BadL K wd hg (upd H14 c15 (.lst xs)) (.ref c15) := Wq Zb
          generalize upd H14 c15 (HO.lst xs) = H15 at s15 b15
          refine ⟨(by show 5 ≤ sizeLine; decide), fun L16 hL16 => ?_⟩
          have s16 := Zg (o := .lst [V.ref c11, V.ref cz, V.ref c13, V.ref c14, V.ref c15]) hL16
          have e16 : upd H15 L16 (.lst [V.ref c11, V.ref cz, V.ref c13, V.ref c14, V.ref c15]) L16 = some (.lst [V.ref c11, V.ref cz, V.ref c13, V.ref c14, V.ref c15]) := Zb
          generalize upd H15 L16 (HO.lst [V.ref c11, V.ref cz, V.ref c13, V.ref c14, V.ref c15]) = H16 at s16 e16
          have hl16 := s16 _ _ (s15 _ _ hl14)
          refine ⟨_, rfl, fun d17 hd17 => ?_⟩
          have s17 := Zg (o := .dK []) hd17
          have b17 : BadL K wd hg (upd H16 d17 (.dK [])) (.ref d17) := Z4 (l := .dct) rfl rfl ⟨d17, rfl, Zb⟩
          generalize upd H16 d17 (HO.dK []) = H17 at s17 b17
          have hl17 := s17 _ _ hl16
          refine ⟨_, rfl, _, rfl, Yd hl17 hl17 (by omega) fun c18 H18 s18 hc18 => ?_⟩
          have b18 : BadL K wd hg H18 (.ref c18) := ZN hc18 (fun y hy => by
            rcases List.mem_append.mp hy with m | m
            · exact ZO lay y m
            · exact ZO lay y m) (Z5 (by rw [List.length_append]; omega))
          refine ⟨(by show 4 ≤ sizeLine; decide), fun L19 hL19 => ?_⟩
          have s19 := Zg (o := .lst [V.non, V.str "1x1: .", V.ref d17, V.ref c18]) hL19
          refine ⟨L16, L19, _, _, rfl, rfl, s19 _ _ (s18 _ _ (s17 _ _ e16)), Zb, (by show 5 + 4 ≤ sizeLine; decide), fun L20 hL20 => ?_⟩
          have s20 := Zg (o := .lst ([V.ref c11, V.ref cz, V.ref c13, V.ref c14, V.ref c15] ++ [V.non, V.str "1x1: .", V.ref d17, V.ref c18])) hL20
          have e20 : upd (upd H18 L19 (.lst [V.non, V.str "1x1: .", V.ref d17, V.ref c18])) L20 (.lst ([V.ref c11, V.ref cz, V.ref c13, V.ref c14, V.ref c15] ++ [V.non, V.str "1x1: .", V.ref d17, V.ref c18])) L20 = some (.lst ([V.ref c11, V.ref cz, V.ref c13, V.ref c14, V.ref c15] ++ [V.non, V.str "1x1: .", V.ref d17, V.ref c18])) := Zb
          generalize upd (upd H18 L19 (.lst [V.non, V.str "1x1: .", V.ref d17, V.ref c18])) L20 (HO.lst ([V.ref c11, V.ref cz, V.ref c13, V.ref c14, V.ref c15] ++ [V.non, V.str "1x1: .", V.ref d17, V.ref c18])) = H20 at s20 e20
          refine ⟨_, rfl, fun ivs H21 s21 pr21 n21 => ?_⟩
          have li : ivs.length = 12 := Paired.length pr21
          refine ⟨by rw [li]; decide, fun L22 hL22 => ?_⟩
          have s22 := Zg (o := .lst ivs) hL22
          obtain ⟨ci, hci, hai⟩ := Zai a1 a2 pr21
          refine ⟨_, rfl, L22, _, _, _, rfl, rfl, SqL.of Zb, hai, ?_⟩
          have sB := s19.trans (s20.trans (s21.trans s22))
          have all9 : ∀ v ∈ [V.ref c11, V.ref cz, V.ref c13, V.ref c14, V.ref c15] ++ [V.non, V.str "1x1: .", V.ref d17, V.ref c18], BadL K wd hg (upd H21 L22 (.lst ivs)) v := by
            intro v hv
            have sC := s18.trans sB
            have sD := s17.trans sC
            have sE := s16.trans sD
            have sF := s15.trans sE
            have sG := s14.trans sF
            simp only [List.cons_append, List.nil_append, List.mem_cons, List.not_mem_nil, or_false] at hv
            rcases hv with rfl | rfl | rfl | rfl | rfl | rfl | rfl | rfl | rfl
            · exact b11.same (sA.trans sG)
            · exact bt10.same (sA.trans sG)
            · exact b13.same sG
            · exact b14.same sF
            · exact b15.same sE
            · exact Z4 (l := .sc .non) rfl rfl rfl
            · exact Z4 (l := .sc (.str "1x1: .")) rfl rfl rfl
            · exact b17.same sC
            · exact b18.same sB
          have hlt9 : ci < ([V.ref c11, V.ref cz, V.ref c13, V.ref c14, V.ref c15] ++ [V.non, V.str "1x1: .", V.ref d17, V.ref c18]).length := by show ci < 9; omega
          refine ⟨L20, _, _, _, rfl, rfl, SqL.of ((s21.trans s22) _ _ e20), ZY (List.getElem?_eq_getElem hlt9), ?_⟩
          have sAll := s10.trans (s11.trans (sA.trans (s14.trans (s15.trans (s16.trans (s17.trans (s18.trans sB)))))))
          exact q _ _ (x6.trans sAll.x) (st6.same sAll) (all9 _ (List.getElem_mem hlt9))
        · refine Zaq ?_
          dsimp only
          have hl10 := s10 _ _ hl6
          refine Z9 (Yr (UZ (YT ?_)))
          refine W0 (K := K) (a := l) (xs := xs) (y := od) (k := k2) hl10 (by omega) (by omega) (fun H Q h => ⟨_, rfl, h⟩) (fun H Q h => ⟨_, rfl, h⟩) (fun H Q h => ⟨_, rfl, h⟩)
            (fun H Q h => ⟨_, rfl, _, _, rfl, rfl, (by have e : ((k2 + 1 : Nat) : Int) = (k2 : Int) + 1 := by omega
                                                       rw [e] at h; exact h)⟩) fun c11 H11 s11 hc11 => ?_
          have b11 : BadL K wd hg H11 (.ref c11) := ZN hc11 (fun y hy => by
            rcases List.mem_append.mp hy with m | m
            · rcases List.mem_append.mp m with m | m
              · exact ZO lay y (List.mem_of_mem_take m)
              · rw [List.mem_singleton.mp m]; exact (s10.trans s11).plT odp
            · exact ZO lay y (List.mem_of_mem_drop m)) (Uc odn odw)
          replace bt10 := bt10.same s11
          have hl11 := s11 _ _ hl10
          refine ⟨_, rfl, _, rfl, (by show 1 ≤ sizeLine; decide), fun t12 ht12 => ?_⟩
          have s12 := Zg (o := .tup [V.non]) ht12
          refine Yd (s12 _ _ hl11) Zb (by simp; omega) fun c13 H13 s13 hc13 => ?_
          have sA := s12.trans s13
          have b13 : BadL K wd hg H13 (.ref c13) := ZN hc13 (fun y hy => by
            rcases List.mem_append.mp hy with m | m
            · exact ZO lay y m
            · rw [List.mem_singleton.mp m]; exact ⟨_, .non⟩) (Z5 (by rw [List.length_append]; simp; omega))
          have hl13 := sA _ _ hl11
          refine YT (Y9 (K := K) (a := l) (xs := xs) (k := 1) hl13 (by omega) (by omega) (fun H Q h => ⟨_, rfl, h⟩) (fun H Q h => h) fun c14 hc14 => ?_)
          have s14 := Zg (o := .tup (xs.drop 1)) hc14
          have b14 : BadL K wd hg (upd H13 c14 (.tup (xs.drop 1))) (.ref c14) := ZN Zb (fun y hy => ZO lay y (List.mem_of_mem_drop hy)) (Z5 (by rw [List.length_drop]; omega))
          generalize upd H13 c14 (HO.tup (xs.drop 1)) = H14 at s14 b14
          have hl14 := s14 _ _ hl13
          refine ⟨_, rfl, l, xs, rfl, .inr (SqT.of hl14), fun c15 hc15 => ?_⟩
          have s15 := Zg (o := .lst xs) hc15
          have b15 : BadL K wd hg (upd H14 c15 (.lst xs)) (.ref c15) := Wq Zb
          generalize upd H14 c15 (HO.lst xs) = H15 at s15 b15
          refine ⟨(by show 5 ≤ sizeLine; decide), fun L16 hL16 => ?_⟩
          have s16 := Zg (o := .lst [V.ref c11, V.ref c9, V.ref c13, V.ref c14, V.ref c15]) hL16
          have e16 : upd H15 L16 (.lst [V.ref c11, V.ref c9, V.ref c13, V.ref c14, V.ref c15]) L16 = some (.lst [V.ref c11, V.ref c9, V.ref c13, V.ref c14, V.ref c15]) := Zb
          generalize upd H15 L16 (HO.lst [V.ref c11, V.ref c9, V.ref c13, V.ref c14, V.ref c15]) = H16 at s16 e16
          have hl16 := s16 _ _ (s15 _ _ hl14)
          refine ⟨_, rfl, fun d17 hd17 => ?_⟩
          have s17 := Zg (o := .dK []) hd17
          have b17 : BadL K wd hg (upd H16 d17 (.dK [])) (.ref d17) := Z4 (l := .dct) rfl rfl ⟨d17, rfl, Zb⟩
          generalize upd H16 d17 (HO.dK []) = H17 at s17 b17
          have hl17 := s17 _ _ hl16
          refine ⟨_, rfl, _, rfl, Yd hl17 hl17 (by omega) fun c18 H18 s18 hc18 => ?_⟩
          have b18 : BadL K wd hg H18 (.ref c18) := ZN hc18 (fun y hy => by
            rcases List.mem_append.mp hy with m | m
            · exact ZO lay y m
            · exact ZO lay y m) (Z5 (by rw [List.length_append]; omega))
          refine ⟨(by show 4 ≤ sizeLine; decide), fun L19 hL19 => ?_⟩
          have s19 := Zg (o := .lst [V.non, V.str "1x1: .", V.ref d17, V.ref c18]) hL19
          refine ⟨L16, L19, _, _, rfl, rfl, s19 _ _ (s18 _ _ (s17 _ _ e16)), Zb, (by show 5 + 4 ≤ sizeLine; decide), fun L20 hL20 => ?_⟩
          have s20 := Zg (o := .lst ([V.ref c11, V.ref c9, V.ref c13, V.ref c14, V.ref c15] ++ [V.non, V.str "1x1: .", V.ref d17, V.ref c18])) hL20
          have e20 : upd (upd H18 L19 (.lst [V.non, V.str "1x1: .", V.ref d17, V.ref c18])) L20 (.lst ([V.ref c11, V.ref c9, V.ref c13, V.ref c14, V.ref c15] ++ [V.non, V.str "1x1: .", V.ref d17, V.ref c18])) L20 = some (.lst ([V.ref c11, V.ref c9, V.ref c13, V.ref c14, V.ref c15] ++ [V.non, V.str "1x1: .", V.ref d17, V.ref c18])) := Zb
          generalize upd (upd H18 L19 (.lst [V.non, V.str "1x1: .", V.ref d17, V.ref c18])) L20 (HO.lst ([V.ref c11, V.ref c9, V.ref c13, V.ref c14, V.ref c15] ++ [V.non, V.str "1x1: .", V.ref d17, V.ref c18])) = H20 at s20 e20
          refine ⟨_, rfl, fun ivs H21 s21 pr21 n21 => ?_⟩
          have li : ivs.length = 12 := Paired.length pr21
          refine ⟨by rw [li]; decide, fun L22 hL22 => ?_⟩
          have s22 := Zg (o := .lst ivs) hL22
          obtain ⟨ci, hci, hai⟩ := Zai a1 a2 pr21
          refine ⟨_, rfl, L22, _, _, _, rfl, rfl, SqL.of Zb, hai, ?_⟩
          have sB := s19.trans (s20.trans (s21.trans s22))
          have all9 : ∀ v ∈ [V.ref c11, V.ref c9, V.ref c13, V.ref c14, V.ref c15] ++ [V.non, V.str "1x1: .", V.ref d17, V.ref c18], BadL K wd hg (upd H21 L22 (.lst ivs)) v := by
            intro v hv
            have sC := s18.trans sB
            have sD := s17.trans sC
            have sE := s16.trans sD
            have sF := s15.trans sE
            have sG := s14.trans sF
            simp only [List.cons_append, List.nil_append, List.mem_cons, List.not_mem_nil, or_false] at hv
            rcases hv with rfl | rfl | rfl | rfl | rfl | rfl | rfl | rfl | rfl
            · exact b11.same (sA.trans sG)
            · exact bt10.same (sA.trans sG)
            · exact b13.same sG
            · exact b14.same sF
            · exact b15.same sE
            · exact Z4 (l := .sc .non) rfl rfl rfl
            · exact Z4 (l := .sc (.str "1x1: .")) rfl rfl rfl
            · exact b17.same sC
            · exact b18.same sB
          have hlt9 : ci < ([V.ref c11, V.ref c9, V.ref c13, V.ref c14, V.ref c15] ++ [V.non, V.str "1x1: .", V.ref d17, V.ref c18]).length := by show ci < 9; omega
          refine ⟨L20, _, _, _, rfl, rfl, SqL.of ((s21.trans s22) _ _ e20), ZY (List.getElem?_eq_getElem hlt9), ?_⟩
          have sAll := s10.trans (s11.trans (sA.trans (s14.trans (s15.trans (s16.trans (s17.trans (s18.trans sB)))))))
          exact q _ _ (x6.trans sAll.x) (st6.same sAll) (all9 _ (List.getElem_mem hlt9))
end
end U
set_option Elab.async false
set_option linter.all false
set_option maxRecDepth 100000
set_option maxHeartbeats 40000000
namespace U
open PySem L2 PyProof.Rows
section
variable {P : Program} {w : World} {K : PySem.W.Frag} {mg : Str → Option Value} {base : Heap}
abbrev sSame : Stmt := top 44
def spSame (R : Hp → V → V → Prop) : Sp := fun vs H Q _ => ∃ x y, vs = [x, y] ∧ R H x y ∧ ∀ H', Same H H' → Q (.bl true) H'
theorem scSame : FnScope ["_law_found", "_law_due"] ["_law_found", "_law_due"] (defScope sSame) := ⟨rfl, rfl, rfl, by decide +kernel, rfl, by decide +kernel, by decide +kernel⟩
end
end U
set_option Elab.async false
set_option linter.all false
set_option maxRecDepth 100000
set_option maxHeartbeats 40000000
namespace L2
open PySem PySem.Spec PyProof.Rows SeqAt
section
variable {X : Cx}
theorem Y4 {a b : String} : CallR X (.builtin "isinstance") (fun xs H Q => ∃ (x : V) (t : Addr) (T : Value) (r : Bool), xs = [x, .ref t] ∧ SqT X.K H t [.ty a, .ty b] ∧ ((∃ i, x = .int i ∧ T = .type "int") ∨ (∃ k, x = .bl k ∧ T = .type "bool") ∨ (x = .non ∧ T = .type "NoneType") ∨ (∃ l ys, x = .ref l ∧ H l = some (.lst ys) ∧ T = .type "list") ∨ ∃ l ys, x = .ref l ∧ H l = some (.tup ys) ∧ T = .type "tuple") ∧
  PySem.W.kitAny X.K T [.type a, .type b] = some r ∧ Q (.bl r) H) := by
 intro pins s σ H xs us Q I rv h
 obtain ⟨x, t, T, r, rfl, hq, hx, hk, q⟩ := h
 obtain ⟨u, v, rfl, ru, rv⟩ := vals2 rv
 cases rv
 obtain ⟨its, rt, pl, hz⟩ := I.tuple hq
 cases rt with
 | cons r1 r2 =>
  cases r2 with
  | cons r3 r4 =>
   cases r4
   cases r1
   cases r3
   obtain ⟨o, ho, hc, n, hd⟩ := id pl
   obtain ⟨cls, dd, dt, sl⟩ := o
   replace hc : cls = .type "tuple" := hc
   replace hd : dt = .seq [Value.type a, Value.type b].toArray n := hd
   subst hc hd
   rcases hx with ⟨i, rfl, rfl⟩ | ⟨k, rfl, rfl⟩ | ⟨rfl, rfl⟩ | ⟨l, ys, rfl, hl, rfl⟩ | ⟨l, ys, rfl, hl, rfl⟩
   ·obtain ⟨tk, rfl⟩ := ru
    exact PySem.W.kia_tup PySem.W.kitx_int I.kIn True.intro ho hk (fun z => nomatch z) fun tk => ⟨.bl r, H, I.tok _, rfl, q⟩
   ·cases ru
    exact PySem.W.kia_tup PySem.W.kitx_bool I.kIn True.intro ho hk (fun z => nomatch z) fun tk => ⟨.bl r, H, I.tok _, rfl, q⟩
   ·cases ru
    exact PySem.W.kia_tup PySem.W.kitx_none I.kIn True.intro ho hk (fun z => nomatch z) fun tk => ⟨.bl r, H, I.tok _, rfl, q⟩
   ·cases ru
    obtain ⟨_, _, n, _, h1⟩ := (show ObjOk X.prog X.w H s.heap l (.lst ys) from I.hok l _ hl)
    exact PySem.W.kia_tup PySem.W.kitx_list I.kIn ⟨_, h1, rfl⟩ ho hk (fun z => nomatch z) fun tk => ⟨.bl r, H, I.tok _, rfl, q⟩
   ·cases ru
    obtain ⟨_, _, _, p, _⟩ := (show ObjOk X.prog X.w H s.heap l (.tup ys) from I.hok l _ hl)
    obtain ⟨o, h1, h2, _⟩ := p
    exact PySem.W.kia_tup PySem.W.kitx_tuple I.kIn ⟨o, h1, h2⟩ ho hk (fun z => nomatch z) fun tk => ⟨.bl r, H, I.tok _, rfl, q⟩
end
end L2
namespace U
open PySem L2 PyProof.Rows PyProof.Rows.Tim
section
variable {P : Program} {w : World} {K : PySem.W.Frag} {mg : Str → Option Value} {base : Heap}
def Rl (_ : Hp) (x y : V) : Prop := (∃ i : Int, x = .int i ∧ y = .int i) ∨ (∃ k : Bool, x = .bl k ∧ y = .bl k) ∨ (x = .non ∧ y = .non)
def RTu (R : Hp → V → V → Prop) (H : Hp) (x y : V) : Prop := ∃ (a b : Addr) (xs ys : List V), x = .ref a ∧ y = .ref b ∧ H a = some (.tup xs) ∧ H b = some (.tup ys) ∧ Paired (R H) xs ys ∧ xs.length ≤ 1000
def RLi (R : Hp → V → V → Prop) (H : Hp) (x y : V) : Prop := ∃ (a b : Addr) (xs ys : List V), x = .ref a ∧ y = .ref b ∧ H a = some (.lst xs) ∧ H b = some (.lst ys) ∧ Paired (R H) xs ys ∧ xs.length ≤ 1000
def RSt (R : Hp → V → V → Prop) (H : Hp) (x y : V) : Prop := Rl H x y ∨ RTu R H x y
theorem Rl.same {H H' : Hp} {x y : V} (r : Rl H x y) (_ : Same H H') : Rl H' x y := r
theorem RSt.same {R : Hp → V → V → Prop} (hR : ∀ {H H' : Hp} {x y : V}, R H x y → Same H H' → R H' x y) {H H' : Hp} {x y : V} (r : RSt R H x y) (s : Same H H') : RSt R H' x y := by
 rcases r with r | ⟨a, b, xs, ys, e1, e2, h1, h2, pr, hl⟩
 ·exact .inl r
 ·exact .inr ⟨a, b, xs, ys, e1, e2, s _ _ h1, s _ _ h2, Paired.mapP pr fun _ _ q => hR q s, hl⟩
theorem Uw {f : Addr} {fd : FuncData} (F : Fun K "_law_same" "_law_same" sSame f fd) (G : Gs mg) {k : Nat} : FnOk P w K mg base CX0 (k + 1) f fd ["_law_found", "_law_due"] (spSame Rl) := by
 refine F.ok scSame (fun vs H Q E h => ?_) (fun cdv A outer s H vs Q E hr h => ?_)
 ·obtain ⟨x, y, rfl, _⟩ := h
  rfl
 ·obtain ⟨x, y, rfl, r, q⟩ := h
  refine ⟨_, Zh (ZS (ZU (Zj (Y4 (a := "tuple") (b := "list")) rfl G.isinstance boot_isinstance (Za (pv 1) (Za (Zv (Za (ZI (v := .ty "tuple") rfl G.tuple boot_tuple rfl) (Za (ZI (v := .ty "list") rfl G.list boot_list rfl) Zc))) Zc)))) ZE ZC)
   (Zm (Zx (YG (Yq Wc (Zj (Zy (c := "bool")) rfl G.isinstance boot_isinstance (Za (pv 0) (Za (ZI (v := .ty "bool") rfl G.bool boot_bool rfl) Zc)))
     (Zj (Zy (c := "bool")) rfl G.isinstance boot_isinstance (Za (pv 1) (Za (ZI (v := .ty "bool") rfl G.bool boot_bool rfl) Zc))) (nomark _))
    (YF (Yq Wc (pv 0) (pv 1) (nomark _)))))), ?_⟩
  refine ⟨_, rfl, (by show 2 ≤ sizeLine; decide), fun t ht => ?_⟩
  have s1 := Zg (o := .tup [V.ty "tuple", V.ty "list"]) ht
  rcases r with ⟨i, rfl, rfl⟩ | ⟨k, rfl, rfl⟩ | ⟨rfl, rfl⟩
  ·refine ⟨_, t, _, _, rfl, SqT.of Zb, .inl ⟨i, rfl, rfl⟩, (show _ = some false from rfl), _, rfl, iteF ?_⟩
   refine ⟨_, rfl, _, _, _, rfl, .int i, (show _ = some false from rfl), _, rfl, _, _, _, rfl, .int i, (show _ = some false from rfl), rfl, _, rfl, ?_⟩
   refine iteT ⟨_, rfl, _, rfl, rfl, ?_⟩
   have e : decide (V.int i = V.int i) = true := decide_eq_true rfl
   rw [e]
   exact q _ s1
  ·refine ⟨_, t, _, _, rfl, SqT.of Zb, .inr (.inl ⟨k, rfl, rfl⟩), (show _ = some false from rfl), _, rfl, iteF ?_⟩
   refine ⟨_, rfl, _, _, _, rfl, .bl k, (show _ = some true from rfl), _, rfl, _, _, _, rfl, .bl k, (show _ = some true from rfl), rfl, _, rfl, ?_⟩
   refine iteT ⟨_, rfl, _, rfl, (by cases k <;> rfl), ?_⟩
   have e : decide (V.bl k = V.bl k) = true := decide_eq_true rfl
   rw [e]
   exact q _ s1
  ·refine ⟨_, t, _, _, rfl, SqT.of Zb, .inr (.inr (.inl ⟨rfl, rfl⟩)), (show _ = some false from rfl), _, rfl, iteF ?_⟩
   refine ⟨_, rfl, _, _, _, rfl, .non, (show _ = some false from rfl), _, rfl, _, _, _, rfl, .non, (show _ = some false from rfl), rfl, _, rfl, ?_⟩
   refine iteT ⟨_, rfl, _, rfl, rfl, ?_⟩
   have e : decide (V.non = V.non) = true := decide_eq_true rfl
   rw [e]
   exact q _ s1
theorem ZaZ {R : Hp → V → V → Prop} {k : Nat} (hR : ∀ {H H' : Hp} {x y : V}, R H x y → Same H H' → R H' x y) {f : Addr} {fd : FuncData} (F : Fun K "_law_same" "_law_same" sSame f fd) (G : Gs mg) (D : Def P w K mg base k "_law_same" ["_law_found", "_law_due"] (spSame R)) :
  FnOk P w K mg base CX0 (k + 1) f fd ["_law_found", "_law_due"] (spSame (RTu R)) := by
 refine F.ok scSame (fun vs H Q E h => ?_) (fun cdv A outer s H vs Q E hr h => ?_)
 ·obtain ⟨x, y, rfl, _⟩ := h
  rfl
 ·obtain ⟨x, y, rfl, ⟨a, b, xs, ys, rfl, rfl, ha, hb, pr, hl⟩, q⟩ := h
  refine ⟨_, Zh (ZS (ZU (Zj (Y4 (a := "tuple") (b := "list")) rfl G.isinstance boot_isinstance (Za (pv 1) (Za (Zv (Za (ZI (v := .ty "tuple") rfl G.tuple boot_tuple rfl) (Za (ZI (v := .ty "list") rfl G.list boot_list rfl) Zc))) Zc))))
    (Zh (ZS (PW.pt (Ut (ZG Zax (Zj (Zy (c := "tuple")) rfl G.isinstance boot_isinstance (Za (pv 0) (Za (ZI (v := .ty "tuple") rfl G.tuple boot_tuple rfl) Zc))) (Zj (Zy (c := "tuple")) rfl G.isinstance boot_isinstance (Za (pv 1) (Za (ZI (v := .ty "tuple") rfl G.tuple boot_tuple rfl) Zc))) (nomark _))
      (JZ (ZG Zax (Zj (Zy (c := "list")) rfl G.isinstance boot_isinstance (Za (pv 0) (Za (ZI (v := .ty "list") rfl G.list boot_list rfl) Zc))) (Zj (Zy (c := "list")) rfl G.isinstance boot_isinstance (Za (pv 1) (Za (ZI (v := .ty "list") rfl G.list boot_list rfl) Zc))) (nomark _))))) ZE ZC)
    (Zm (Zx (YG (Yq Wc (Zj Zr rfl G.len boot_len (Za (pv 0) Zc)) (Zj Zr rfl G.len boot_len (Za (pv 1) Zc)) (nomark _))
     (YF (Zj Jo rfl G.all boot_all (Za (Yb ["_law_one", "_law_other"] 2 [] (ZcD rfl G.zip (Za (pv 0) (Za (pv 1) Zc)))
      (fun C s H fp => show PG (blk _ _ _ C s H fp) _ (gTup K 2 (gCons (gName 0) (gCons (gName 1) gNil))) from ZT rfl (Zn (pb 0) (Zn (pb 1) ZK))) (fun C s H fp => Yp)
      (fun C s H fp D' => ZJ rfl (Zk D hr (Za (pv 0) (Za (pv 1) Zc))))) Zc))))))) ZC) ZE, ?_⟩
  refine ⟨_, rfl, (by show 2 ≤ sizeLine; decide), fun t ht => ?_⟩
  have s1 := Zg (o := .tup [V.ty "tuple", V.ty "list"]) ht
  have e1 : upd H t (.tup [V.ty "tuple", V.ty "list"]) t = some (.tup [V.ty "tuple", V.ty "list"]) := Zb
  generalize upd H t (HO.tup [V.ty "tuple", V.ty "list"]) = H1 at s1 e1
  have ha1 := s1 _ _ ha
  have hb1 := s1 _ _ hb
  refine ⟨_, t, _, _, rfl, SqT.of e1, .inr (.inr (.inr (.inr ⟨b, ys, rfl, hb1, rfl⟩))), (show _ = some true from rfl), _, rfl, iteT ?_⟩
  refine ⟨_, rfl, _, _, _, rfl, .tup ha1, (show _ = some true from rfl), _, rfl, _, _, _, rfl, .tup hb1, (show _ = some true from rfl), rfl, _, rfl, iteF ?_⟩
  refine ⟨_, rfl, _, _, _, rfl, .tup ha1, (show _ = some false from rfl), _, rfl, _, _, _, rfl, .tup hb1, (show _ = some false from rfl), rfl, _, rfl, iteF ?_⟩
  have hlen : xs.length = ys.length := Paired.length pr
  refine ⟨_, rfl, a, xs, rfl, .inr (SqT.of ha1), _, rfl, b, ys, rfl, .inr (SqT.of hb1), rfl, _, rfl, ?_⟩
  have el : decide (V.int (xs.length : Int) = V.int (ys.length : Int)) = true := decide_eq_true (by rw [hlen])
  rw [el]
  refine iteT ⟨_, rfl, _, rfl, a, b, rfl, ⟨xs, ys, SqT.of ha1, SqT.of hb1⟩, ?_⟩
  refine Za8 (xs := xs) (zs := ys) hlen (fun i zs σ H2 => ∃ v0 v1, σ = [v0, v1] ∧ Same H1 H2 ∧ zs = List.replicate i (V.bl true)) ⟨_, _, rfl, Same.refl _, rfl⟩ (fun i zs σ H2 _ ⟨_, _, _, s2, _⟩ => ⟨SqT.of (s2 _ _ ha1), SqT.of (s2 _ _ hb1)⟩) ?_ ?_
  ·rintro i x y T zs σ H2 hx hy hT ⟨v0, v1, rfl, s2, rfl⟩
   obtain ⟨y', hy', r⟩ := Yx pr hx
   rw [hy] at hy'
   cases hy'
   have sT := Zg (o := .par [x, y]) hT
   have hi : i < xs.length := (List.getElem?_eq_some_iff.mp hx).1
   refine ⟨T, _, rfl, SqT.ofP Zb, rfl, _, _, rfl, _, _, rfl, rfl, ?_⟩
   refine ⟨x, rfl, y, rfl, x, y, rfl, hR r (s1.trans (s2.trans sT)), fun H3 s3 => ⟨by rw [List.length_replicate, sizeLine_eq]; omega, _, _, rfl, s2.trans (sT.trans s3), ?_⟩⟩
   rw [List.replicate_succ']
  ·rintro zs σ H2 ⟨v0, v1, rfl, s2, rfl⟩ p hp
   refine ⟨p, List.replicate xs.length true, rfl, ?_, ?_⟩
   ·rw [List.map_replicate]
    exact SqL.of Zb
   ·have e : (List.replicate xs.length true).all id = true := by simp
    rw [e]
    exact q _ (s1.trans (s2.trans (Zg hp)))
theorem Za0 {R : Hp → V → V → Prop} {k : Nat} (hR : ∀ {H H' : Hp} {x y : V}, R H x y → Same H H' → R H' x y) {f : Addr} {fd : FuncData} (F : Fun K "_law_same" "_law_same" sSame f fd) (G : Gs mg) (D : Def P w K mg base k "_law_same" ["_law_found", "_law_due"] (spSame R)) :
  FnOk P w K mg base CX0 (k + 1) f fd ["_law_found", "_law_due"] (spSame (RLi R)) := by
 refine F.ok scSame (fun vs H Q E h => ?_) (fun cdv A outer s H vs Q E hr h => ?_)
 ·obtain ⟨x, y, rfl, _⟩ := h
  rfl
 ·obtain ⟨x, y, rfl, ⟨a, b, xs, ys, rfl, rfl, ha, hb, pr, hl⟩, q⟩ := h
  refine ⟨_, Zh (ZS (ZU (Zj (Ug (a := "tuple") (b := "list")) rfl G.isinstance boot_isinstance (Za (pv 1) (Za (Zv (Za (ZI (v := .ty "tuple") rfl G.tuple boot_tuple rfl) (Za (ZI (v := .ty "list") rfl G.list boot_list rfl) Zc))) Zc))))
    (Zh (ZS (PW.pt (Ut (ZG Zax (Zj (Zy (c := "tuple")) rfl G.isinstance boot_isinstance (Za (pv 0) (Za (ZI (v := .ty "tuple") rfl G.tuple boot_tuple rfl) Zc))) (Zj (Zy (c := "tuple")) rfl G.isinstance boot_isinstance (Za (pv 1) (Za (ZI (v := .ty "tuple") rfl G.tuple boot_tuple rfl) Zc))) (nomark _))
      (JZ (ZG Zax (Zj (Zy (c := "list")) rfl G.isinstance boot_isinstance (Za (pv 0) (Za (ZI (v := .ty "list") rfl G.list boot_list rfl) Zc))) (Zj (Zy (c := "list")) rfl G.isinstance boot_isinstance (Za (pv 1) (Za (ZI (v := .ty "list") rfl G.list boot_list rfl) Zc))) (nomark _))))) ZE ZC)
    (Zm (Zx (YG (Yq Wc (Zj Zr rfl G.len boot_len (Za (pv 0) Zc)) (Zj Zr rfl G.len boot_len (Za (pv 1) Zc)) (nomark _))
     (YF (Zj Jo rfl G.all boot_all (Za (Yb ["_law_one", "_law_other"] 2 [] (Zav rfl G.zip (Za (pv 0) (Za (pv 1) Zc)))
      (fun C s H fp => show PG (blk _ _ _ C s H fp) _ (gTup K 2 (gCons (gName 0) (gCons (gName 1) gNil))) from ZT rfl (Zn (pb 0) (Zn (pb 1) ZK))) (fun C s H fp => Yp)
      (fun C s H fp D' => ZJ rfl (Zk D hr (Za (pv 0) (Za (pv 1) Zc))))) Zc))))))) ZC) ZE, ?_⟩
  refine ⟨_, rfl, (by show 2 ≤ sizeLine; decide), fun t ht => ?_⟩
  have s1 := Zg (o := .tup [V.ty "tuple", V.ty "list"]) ht
  have e1 : upd H t (.tup [V.ty "tuple", V.ty "list"]) t = some (.tup [V.ty "tuple", V.ty "list"]) := Zb
  generalize upd H t (HO.tup [V.ty "tuple", V.ty "list"]) = H1 at s1 e1
  have ha1 := s1 _ _ ha
  have hb1 := s1 _ _ hb
  refine ⟨_, t, _, _, rfl, SqT.of e1, .inr ⟨b, ys, rfl, hb1, rfl⟩, (show _ = some true from rfl), _, rfl, iteT ?_⟩
  refine ⟨_, rfl, _, _, _, rfl, .lst ha1, (show _ = some false from rfl), _, rfl, _, _, _, rfl, .lst hb1, (show _ = some false from rfl), rfl, _, rfl, iteF ?_⟩
  refine ⟨_, rfl, _, _, _, rfl, .lst ha1, (show _ = some true from rfl), _, rfl, _, _, _, rfl, .lst hb1, (show _ = some true from rfl), rfl, _, rfl, iteF ?_⟩
  have hlen : xs.length = ys.length := Paired.length pr
  refine ⟨_, rfl, a, xs, rfl, .inl (SqL.of ha1), _, rfl, b, ys, rfl, .inl (SqL.of hb1), rfl, _, rfl, ?_⟩
  have el : decide (V.int (xs.length : Int) = V.int (ys.length : Int)) = true := decide_eq_true (by rw [hlen])
  rw [el]
  refine iteT ⟨_, rfl, _, rfl, a, b, rfl, ⟨xs, ys, SqL.of ha1, SqL.of hb1⟩, ?_⟩
  refine WK (xs := xs) (zs := ys) (fun i zs σ H2 => ∃ v0 v1, σ = [v0, v1] ∧ Same H1 H2 ∧ zs = List.replicate i (V.bl true)) ⟨_, _, rfl, Same.refl _, rfl⟩ (fun i zs σ H2 _ ⟨_, _, _, s2, _⟩ => ⟨SqL.of (s2 _ _ ha1), SqL.of (s2 _ _ hb1)⟩) ?_ ?_
  ·rintro i x y T zs σ H2 hx hy hT ⟨v0, v1, rfl, s2, rfl⟩
   obtain ⟨y', hy', r⟩ := Yx pr hx
   rw [hy] at hy'
   cases hy'
   have sT := Zg (o := .par [x, y]) hT
   have hi : i < xs.length := (List.getElem?_eq_some_iff.mp hx).1
   refine ⟨T, _, rfl, SqT.ofP Zb, rfl, _, _, rfl, _, _, rfl, rfl, ?_⟩
   refine ⟨x, rfl, y, rfl, x, y, rfl, hR r (s1.trans (s2.trans sT)), fun H3 s3 => ⟨by rw [List.length_replicate, sizeLine_eq]; omega, _, _, rfl, s2.trans (sT.trans s3), ?_⟩⟩
   rw [List.replicate_succ']
  ·rintro zs σ H2 ⟨v0, v1, rfl, s2, ez⟩ p hp
   rw [Nat.min_eq_left (by omega)] at ez
   subst ez
   refine ⟨p, List.replicate xs.length true, rfl, ?_, ?_⟩
   ·rw [List.map_replicate]
    exact SqL.of Zb
   ·have e : (List.replicate xs.length true).all id = true := by simp
    rw [e]
    exact q _ (s1.trans (s2.trans (Zg hp)))
theorem ZdQ {CX : CXT} {k : Nat} {f : Addr} {fd : FuncData} {ps : List Str} {R S : Hp → V → V → Prop} (h1 : FnOk P w K mg base CX k f fd ps (spSame R)) (h2 : FnOk P w K mg base CX k f fd ps (spSame S)) : FnOk P w K mg base CX k f fd ps (spSame fun H x y => R H x y ∨ S H x y) := by
 refine ⟨fun vs H Q E h => ?_, fun A outer s H args us vs Q E hr he hb hv h => ?_⟩
 ·obtain ⟨x, y, e, r | r, q⟩ := h
  ·exact h1.len vs H Q E ⟨x, y, e, r, q⟩
  ·exact h2.len vs H Q E ⟨x, y, e, r, q⟩
 ·obtain ⟨x, y, e, r | r, q⟩ := h
  ·exact h1.run A outer s H args us vs Q E hr he hb hv ⟨x, y, e, r, q⟩
  ·exact h2.run A outer s H args us vs Q E hr he hb hv ⟨x, y, e, r, q⟩
theorem WI {R : Hp → V → V → Prop} {k : Nat} (hR : ∀ {H H' : Hp} {x y : V}, R H x y → Same H H' → R H' x y) {f : Addr} {fd : FuncData} (F : Fun K "_law_same" "_law_same" sSame f fd) (G : Gs mg) (D : Def P w K mg base k "_law_same" ["_law_found", "_law_due"] (spSame R)) :
  FnOk P w K mg base CX0 (k + 1) f fd ["_law_found", "_law_due"] (spSame (RSt R)) := ZdQ (Uw F G) (ZaZ (R := R) hR F G D)
end
end U
set_option Elab.async false
set_option linter.all false
set_option maxRecDepth 100000
set_option maxHeartbeats 40000000
namespace U
open PySem L2 PyProof.Rows PyProof.Rows.Tim
def Good (p : Step4 × Step4) : Prop := SameS p.1 p.2 ∧ ltL p.1 p.2 = true
def BestOf (C : List (Step4 × Step4)) : Option Step4 → Prop
 | none => ∀ p ∈ C, ¬ Good p
 | some k => (∃ p ∈ C, Good p ∧ k = four p.1 p.2) ∧ ∀ p ∈ C, Good p → lexB (key4 (four p.1 p.2)) (key4 k) = false
theorem Jw (l : List Int) : lexB l l = false := by
 cases h : lexB l l with
 | false => rfl
 | true =>
  have := Z8 _ _ h
  rw [h] at this; cases this
theorem BestOf.skip {C : List (Step4 × Step4)} {p : Step4 × Step4} (hn : ¬ Good p) : ∀ {r : Option Step4}, BestOf C r → BestOf (C ++ [p]) r
 | none, h => fun q hq => by
  rcases List.mem_append.mp hq with hq | hq
  ·exact h q hq
  ·rw [List.mem_singleton.mp hq]; exact hn
 | some k, ⟨⟨q, hq, g, e⟩, h⟩ => ⟨⟨q, List.mem_append_left _ hq, g, e⟩, fun q hq g => by
  rcases List.mem_append.mp hq with hq | hq
  ·exact h q hq g
  ·rw [List.mem_singleton.mp hq] at g; exact absurd g hn⟩
theorem BestOf.keep {C : List (Step4 × Step4)} {p : Step4 × Step4} {k : Step4} (hl : lexB (key4 (four p.1 p.2)) (key4 k) = false) (h : BestOf C (some k)) : BestOf (C ++ [p]) (some k) := by
 obtain ⟨⟨q, hq, g, e⟩, h⟩ := h
 refine ⟨⟨q, List.mem_append_left _ hq, g, e⟩, fun q hq g => ?_⟩
 rcases List.mem_append.mp hq with hq | hq
 ·exact h q hq g
 ·rw [List.mem_singleton.mp hq]; exact hl
theorem BestOf.first {C : List (Step4 × Step4)} {p : Step4 × Step4} (g : Good p) (h : BestOf C none) : BestOf (C ++ [p]) (some (four p.1 p.2)) := by
 refine ⟨⟨p, List.mem_append_right _ (List.mem_singleton.mpr rfl), g, rfl⟩, fun q hq g' => ?_⟩
 rcases List.mem_append.mp hq with hq | hq
 ·exact absurd g' (h q hq)
 ·rw [List.mem_singleton.mp hq]; exact Jw _
theorem BestOf.take {C : List (Step4 × Step4)} {p : Step4 × Step4} {k : Step4} (g : Good p) (hl : lexB (key4 (four p.1 p.2)) (key4 k) = true) (h : BestOf C (some k)) : BestOf (C ++ [p]) (some (four p.1 p.2)) := by
 refine ⟨⟨p, List.mem_append_right _ (List.mem_singleton.mpr rfl), g, rfl⟩, fun q hq g' => ?_⟩
 rcases List.mem_append.mp hq with hq | hq
 ·exact YB _ _ _ (Z8 _ _ hl) (h.2 q hq g')
 ·rw [List.mem_singleton.mp hq]; exact Jw _
def rowC (S : List Step4) (a : Step4) (j : Nat) : List (Step4 × Step4) := (S.take j).map fun b => (a, b)
def allC (S : List Step4) (i : Nat) : List (Step4 × Step4) := (S.take i).flatMap fun a => rowC S a S.length
theorem ZaU {S : List Step4} {a b : Step4} {j : Nat} (h : S[j]? = some b) : rowC S a (j + 1) = rowC S a j ++ [(a, b)] := by
 unfold rowC
 rw [List.take_add_one, h, List.map_append]
 rfl
theorem Zbn {S : List Step4} {a : Step4} {i : Nat} (h : S[i]? = some a) : allC S (i + 1) = allC S i ++ rowC S a S.length := by
 unfold allC
 rw [List.take_add_one, h, List.flatMap_append]
 simp
theorem Jf {S : List Step4} {p : Step4 × Step4} : p ∈ allC S S.length ↔ p.1 ∈ S ∧ p.2 ∈ S := by
 unfold allC rowC
 rw [List.take_length]
 simp only [List.mem_flatMap, List.mem_map]
 constructor
 ·rintro ⟨a, ha, b, hb, rfl⟩
  exact ⟨ha, hb⟩
 ·rintro ⟨h1, h2⟩
  exact ⟨p.1, h1, p.2, h2, rfl⟩
theorem Zan {S : List Step4} : ∀ {r : Option Step4}, BestOf (allC S S.length) r → FirstIs S r
 | none, h => fun a ha b hb s => by
  cases hl : ltL a b with
  | false => rfl
  | true => exact absurd ⟨s, hl⟩ (h (a, b) (Jf.mpr ⟨ha, hb⟩))
 | some k, ⟨⟨p, hp, g, e⟩, h⟩ => ⟨⟨p.1, (Jf.mp hp).1, p.2, (Jf.mp hp).2, g.1, g.2, e⟩, fun a ha b hb s l => h (a, b) (Jf.mpr ⟨ha, hb⟩) ⟨s, l⟩⟩
def TrAt (H : Hp) (v : V) (q : Step4) : Prop := ∃ t t' : Addr, v = .ref t ∧ H t = some (.tup [.int q.2.2.1, .int q.2.2.2, .ref t']) ∧ H t' = some (.tup [.int q.1, .int q.2.1])
theorem TrAt.same {H H' : Hp} {v : V} {q : Step4} (h : TrAt H v q) (s : Same H H') : TrAt H' v q := by
 obtain ⟨t, t', e, h1, h2⟩ := h
 exact ⟨t, t', e, s _ _ h1, s _ _ h2⟩
section
variable {P : Program} {w : World} {K : PySem.W.Frag} {mg : Str → Option Value} {base : Heap}
abbrev sLFirst : Stmt := top 45
def spLFirst : Sp := fun vs H Q _ => ∃ (a : Addr) (xs : List V), vs = [.ref a] ∧ H a = some (.tup xs) ∧ RowsOk xs ∧ xs.length ≤ 12 ∧ ∀ (H' : Hp) (v : V) (r : Option Step4), Same H H' → FirstIs (lawSteps xs xs.length) r → OptAt H' v r → Q v H'
theorem scLFirst : FnScope ["_law_lay_here", "_law_step", "_law_line", "_law_other", "_law_some", "_law_best", "_law_here", "_law_there", "_law_more", "_law_four"] ["_law_lay_here"] (defScope sLFirst) := ⟨rfl, rfl, rfl, by decide +kernel, rfl, by decide +kernel, by decide +kernel⟩
theorem Za4 {f : Addr} {fd : FuncData} (F : Fun K "_law_first" "_law_first" sLFirst f fd) (D1 : Def P w K mg base 1 "_law_steps" ["_law_lay_here"] (spLSteps K)) : FnOk P w K mg base CX0 2 f fd ["_law_lay_here"] spLFirst := by
 refine F.ok scLFirst (fun vs H Q E h => ?_) (fun cdv A outer s H vs Q E hr h => ?_)
 ·obtain ⟨a, xs, rfl, _⟩ := h
  rfl
 ·obtain ⟨a, xs, rfl, ha, hrow, hlen, q⟩ := h
  have hu := hr.units0
  refine ⟨_, Zh (YV ["_law_step", "_law_line", "_law_other"] 3 [] (i := 4) scLFirst.nd rfl (Or.inl rfl) (ZX (Zk D1 hr (Za (pv 0) Zc)))
    (fun C s H fp => show PG (blk _ _ _ C s H fp) _ (gTup K 3 (gCons (gName 0) (gCons (gName 1) (gCons (gName 2) gNil)))) from ZT rfl (Zn (pb 0) (Zn (pb 1) (Zn (pb 2) ZK)))) (fun C s H fp => Yp)
    (fun C s H fp D => ZJ rfl (Zv (Za (pv 1) (Za (pv 2) (Za (pv 0) Zc))))))
   (Zh (Zs (i := 5) scLFirst.nd rfl (Or.inl rfl) Ys)
   (Zh (Yi PassesOwn.never rfl (ZX (pv 4)) (ZT rfl (Zn (Zz (i := 2) scLFirst.nd rfl (Or.inl rfl)) (Zn (Zz (i := 3) scLFirst.nd rfl (Or.inl rfl)) (Zn (Zz (i := 1) scLFirst.nd rfl (Or.inl rfl)) ZK))))
    (Zm (Yi PassesOwn.never rfl (ZX (pv 4)) (ZT rfl (Zn (Zz (i := 6) scLFirst.nd rfl (Or.inl rfl)) (Zn (Zz (i := 7) scLFirst.nd rfl (Or.inl rfl)) (Zn (Zz (i := 8) scLFirst.nd rfl (Or.inl rfl)) ZK))))
     (Zh (Zs (i := 9) scLFirst.nd rfl (Or.inl rfl) (Zv (Za (pv 2) (Za (pv 3) (Za (pv 6) (Za (pv 7) Zc))))))
     (Zm (ZS (PW.pt (J5 (ZG (W7 hu) (pv 1) (pv 8) (nomark _)) (J5 (ZG (ZbM hu) (Zv (Za (pv 2) (Za (pv 3) Zc))) (Zv (Za (pv 6) (Za (pv 7) Zc))) (nomark _))
       (JK (PW.pt (Ut (Y5 (U7 (pv 5))) (JZ (ZG (ZbM hu) (pv 9) (pv 5) (nomark _)))))))))
      (Zm (Zs (i := 5) scLFirst.nd rfl (Or.inl rfl) (pv 9))) ZC))))))
   (Zm (Zx (pv 5))))), ?_⟩
  refine ⟨_, rfl, a, xs, rfl, SqT.of ha, ha, hrow, hlen, fun l H1 rs s1 hl0 hl pr => ⟨l, rfl, ⟨rs, SqL.of hl⟩, ?_⟩⟩
  have hS := Ym xs hlen
  generalize hqs : lawSteps xs xs.length = S at pr q hS
  have hlq : rs.length = S.length := Paired.length pr
  refine Yf (xs := rs) (fun i ys σ H2 => ∃ v0 v1 v2, σ = [v0, v1, v2] ∧ Same H1 H2 ∧ Paired (TrAt H2) ys (S.take i) ∧ ys.length ≤ i) ⟨_, _, _, rfl, Same.refl _, .nil, Nat.zero_le _⟩ (fun i ys σ H2 _ ⟨_, _, _, _, s2, _⟩ => SqL.of (s2 _ _ hl)) ?_ ?_
  ·rintro i v ys σ H2 hv ⟨v0, v1, v2, rfl, s2, pr2, hl2⟩
   have hi : i < rs.length := (List.getElem?_eq_some_iff.mp hv).1
   obtain ⟨qq, hq, t, t', rfl, ht, ht'⟩ := Yx pr hv
   refine ⟨t, _, rfl, SqT.of (s2 _ _ ht), rfl, _, _, rfl, _, _, rfl, _, _, rfl, rfl, ?_⟩
   refine ⟨_, rfl, _, rfl, _, rfl, (by show 3 ≤ sizeLine; decide), fun t4 ht4 => ⟨by rw [sizeLine_eq]; omega, ?_⟩⟩
   have s4 : Same H2 (upd H2 t4 (.tup [.int qq.2.2.1, .int qq.2.2.2, .ref t'])) := Zg ht4
   refine ⟨_, _, _, rfl, s2.trans s4, ?_, by rw [List.length_append]; simp; omega⟩
   rw [List.take_add_one, hq]
   exact Paired.snoc (Paired.mapP pr2 fun v q' hq => hq.same s4) ⟨t4, t', rfl, Zb, s4 _ _ (s2 _ _ ht')⟩
  ·rintro ys σ H2 ⟨v0, v1, v2, rfl, s2, pr2, hl2⟩ M hM
   have s3 := Zg (o := .lst ys) hM
   have eM : upd H2 M (.lst ys) M = some (.lst ys) := Zb
   generalize upd H2 M (HO.lst ys) = H3 at s3 eM
   rw [hlq, List.take_length] at pr2
   have pr3 : Paired (TrAt H3) ys S := Paired.mapP pr2 fun v q' hq => hq.same s3
   have s13 : Same H H3 := s1.trans (s2.trans s3)
   have hlS : ys.length = S.length := Paired.length pr3
   refine ⟨_, rfl, M, rfl, ⟨ys, SqL.of eM⟩, ?_⟩
   refine YQ (K := K) (a := M) (xs := ys) (fun i σ H4 => ∃ (x1 x2 x3 x6 x7 x8 x9 : Option V) (vb : V) (r : Option Step4), σ = [some (.ref a), x1, x2, x3, some (.ref M), some vb, x6, x7, x8, x9] ∧ Same H3 H4 ∧ BestOf (allC S i) r ∧ OptAt H4 vb r)
    ⟨none, none, none, none, none, none, none, .non, none, rfl, Same.refl _, (fun p hp => by cases hp), rfl⟩ (fun i σ H4 _ ⟨_, _, _, _, _, _, _, _, _, _, s4, _⟩ => SqL.of (s4 _ _ eM)) ?_ ?_
   ·rintro i v σ H4 hv ⟨x1, x2, x3, x6, x7, x8, x9, vb, r, rfl, s4, best, ob⟩
    obtain ⟨qa, hqa, ta, ta', rfl, hta, hta'⟩ := Yx pr3 hv
    refine ⟨ta, _, rfl, SqT.of (s4 _ _ hta), rfl, _, _, rfl, _, _, rfl, _, _, rfl, rfl, ?_⟩
    refine ⟨_, rfl, M, rfl, ⟨ys, SqL.of (s4 _ _ eM)⟩, ?_⟩
    refine YQ (K := K) (a := M) (xs := ys) (fun j σ H5 => ∃ (x6 x7 x8 x9 : Option V) (vb : V) (r : Option Step4), σ = [some (.ref a), some (.ref ta'), some (.int qa.2.2.1), some (.int qa.2.2.2), some (.ref M), some vb, x6, x7, x8, x9] ∧ Same H3 H5 ∧ BestOf (allC S i ++ rowC S qa j) r ∧ OptAt H5 vb r)
     ⟨x6, x7, x8, x9, vb, r, rfl, s4, by simpa [rowC] using best, ob⟩ (fun i σ H4 _ ⟨_, _, _, _, _, _, _, s5, _⟩ => SqL.of (s5 _ _ eM)) ?_ ?_
    ·rintro j v σ H5 hvj ⟨x6, x7, x8, x9, vb, r, rfl, s5, best, ob⟩
     obtain ⟨qb, hqb, tb, tb', rfl, htb, htb'⟩ := Yx pr3 hvj
     have eC := ZaU (a := qa) hqb
     refine ⟨tb, _, rfl, SqT.of (s5 _ _ htb), rfl, _, _, rfl, _, _, rfl, _, _, rfl, rfl, ?_⟩
     refine ⟨_, rfl, _, rfl, _, rfl, _, rfl, (by show 4 ≤ sizeLine; decide), fun t4 ht4 => ?_⟩
     have s6 : Same H5 (upd H5 t4 (.tup [.int qa.2.2.1, .int qa.2.2.2, .int qb.2.2.1, .int qb.2.2.2])) := Zg ht4
     have e4 : upd H5 t4 (.tup [.int qa.2.2.1, .int qa.2.2.2, .int qb.2.2.1, .int qb.2.2.2]) t4 = some (.tup [.int qa.2.2.1, .int qa.2.2.2, .int qb.2.2.1, .int qb.2.2.2]) := Zb
     generalize upd H5 t4 (HO.tup [V.int qa.2.2.1, V.int qa.2.2.2, V.int qb.2.2.1, V.int qb.2.2.2]) = H6 at s6 e4
     have sk : ∀ H7, Same H6 H7 → ¬ Good (qa, qb) → ∃ (x6' x7' x8' x9' : Option V) (vb' : V) (r' : Option Step4), ([some (.ref a), some (.ref ta'), some (.int qa.2.2.1), some (.int qa.2.2.2), some (.ref M), some vb, some (.int qb.2.2.1), some (.int qb.2.2.2), some (.ref tb'), some (.ref t4)] : L2.St) = [some (.ref a), some (.ref ta'), some (.int qa.2.2.1), some (.int qa.2.2.2), some (.ref M), some vb', x6', x7', x8', x9'] ∧ Same H3 H7 ∧ BestOf (allC S i ++ rowC S qa (j + 1)) r' ∧ OptAt H7 vb' r' := fun H7 s7 ng =>
      ⟨_, _, _, _, vb, r, rfl, s5.trans (s6.trans s7), by rw [eC, ← List.append_assoc]; exact best.skip ng, ob.same (s6.trans s7)⟩
     refine ⟨_, rfl, _, rfl, ta', tb', [qa.1, qa.2.1], [qb.1, qb.2.1], rfl, rfl, SqT.of (s6 _ _ (s5 _ _ hta')), SqT.of (s6 _ _ (s5 _ _ htb')), _, rfl, ?_⟩
     by_cases hs : SameS qa qb
     ·have ed : decide ([qa.1, qa.2.1] = [qb.1, qb.2.1]) = true := decide_eq_true (by rw [hs.1, hs.2])
      rw [ed]
      refine iteT ?_
      refine ⟨_, rfl, _, rfl, (by show 2 ≤ sizeLine; decide), fun t5 ht5 => ?_⟩
      have s7 := Zg (o := .tup [.int qa.2.2.1, .int qa.2.2.2]) ht5
      have e5 : upd H6 t5 (.tup [.int qa.2.2.1, .int qa.2.2.2]) t5 = some (.tup [.int qa.2.2.1, .int qa.2.2.2]) := Zb
      generalize upd H6 t5 (HO.tup [V.int qa.2.2.1, V.int qa.2.2.2]) = H7 at s7 e5
      refine ⟨_, rfl, _, rfl, (by show 2 ≤ sizeLine; decide), fun t6 ht6 => ?_⟩
      have s8 := Zg (o := .tup [.int qb.2.2.1, .int qb.2.2.2]) ht6
      have e6 : upd H7 t6 (.tup [.int qb.2.2.1, .int qb.2.2.2]) t6 = some (.tup [.int qb.2.2.1, .int qb.2.2.2]) := Zb
      generalize upd H7 t6 (HO.tup [V.int qb.2.2.1, V.int qb.2.2.2]) = H8 at s8 e6
      refine ⟨t5, t6, [qa.2.2.1, qa.2.2.2], [qb.2.2.1, qb.2.2.2], rfl, rfl, SqT.of (s8 _ _ e5), SqT.of e6, _, rfl, ?_⟩
      have el : HT.lexLt [qa.2.2.1, qa.2.2.2] [qb.2.2.1, qb.2.2.2] = ltL qa qb := YJ _ _
      rw [el]
      have s68 := s7.trans s8
      cases hl : ltL qa qb with
      | false => exact iteF (iteF (sk H8 s68 (fun g => by have := g.2; rw [hl] at this; cases this)))
      | true =>
       have g : Good (qa, qb) := ⟨hs, hl⟩
       refine iteT ?_
       cases r with
       | none =>
        have evb : vb = .non := ob
        subst evb
        refine ⟨_, rfl, _, rfl, iteT (iteT ?_)⟩
        refine ⟨_, rfl, _, _, _, _, _, some (four qa qb), rfl, s5.trans (s6.trans s68), ?_, t4, rfl, s68 _ _ e4⟩
        rw [eC, ← List.append_assoc]
        exact best.first g
       | some k =>
        obtain ⟨tk, rfl, htk⟩ := (show QdAt H5 vb k from ob)
        refine ⟨_, rfl, _, rfl, iteF ?_⟩
        refine ⟨_, rfl, _, rfl, t4, tk, key4 (four qa qb), key4 k, rfl, rfl, SqT.of (s68 _ _ e4), SqT.of (s68 _ _ (s6 _ _ htk)), _, rfl, ?_⟩
        rw [YJ]
        cases hk : lexB (key4 (four qa qb)) (key4 k) with
        | true =>
         refine iteT ⟨_, rfl, _, _, _, _, _, some (four qa qb), rfl, s5.trans (s6.trans s68), ?_, t4, rfl, s68 _ _ e4⟩
         rw [eC, ← List.append_assoc]
         exact best.take g hk
        | false =>
         refine iteF ⟨_, _, _, _, _, some k, rfl, s5.trans (s6.trans s68), ?_, tk, rfl, s68 _ _ (s6 _ _ htk)⟩
         rw [eC, ← List.append_assoc]
         exact best.keep hk
     ·have ed : decide ([qa.1, qa.2.1] = [qb.1, qb.2.1]) = false := decide_eq_false (fun e => hs (by simp only [List.cons.injEq, and_true] at e; exact e))
      rw [ed]
      exact iteF (iteF (sk H6 (Same.refl _) (fun g => hs g.1)))
    ·rintro σ H5 ⟨x6, x7, x8, x9, vb, r, rfl, s5, best, ob⟩
     exact ⟨_, _, _, _, _, _, _, vb, r, rfl, s5, by rw [Zbn hqa, ← hlS]; exact best, ob⟩
   ·rintro σ H4 ⟨x1, x2, x3, x6, x7, x8, x9, vb, r, rfl, s4, best, ob⟩
    rw [hlS] at best
    exact ⟨vb, rfl, q H4 vb r (s13.trans s4) (Zan best) ob⟩
end
end U
set_option Elab.async false
set_option linter.all false
set_option maxRecDepth 100000
set_option maxHeartbeats 40000000
namespace U
open PySem L2 PyProof.Rows PyProof.Rows.Tim
theorem Zby {α : Type} {R : α → α → Prop} (hs : ∀ a b, R a b → R b a) : ∀ {S : List α}, S.Nodup → (S.Pairwise R ↔ ∀ a ∈ S, ∀ b ∈ S, a ≠ b → R a b)
 | [], _ => ⟨fun _ a ha => (by cases ha), fun _ => List.Pairwise.nil⟩
 | x :: S, hn => by
  obtain ⟨h1, h2⟩ := List.nodup_cons.mp hn
  rw [List.pairwise_cons, Zby hs h2]
  constructor
  ·rintro ⟨p, q⟩ a ha b hb ne
   rcases List.mem_cons.mp ha with rfl | ha'
   ·rcases List.mem_cons.mp hb with rfl | hb'
    ·exact absurd rfl ne
    ·exact p b hb'
   ·rcases List.mem_cons.mp hb with rfl | hb'
    ·exact hs _ _ (p a ha')
    ·exact q a ha' b hb' ne
  ·intro h
   exact ⟨fun b hb => h x List.mem_cons_self b (List.mem_cons_of_mem _ hb) (fun e => h1 (e ▸ hb)), fun a ha b hb ne => h a (List.mem_cons_of_mem _ ha) b (List.mem_cons_of_mem _ hb) ne⟩
theorem UE {a b : Step4} : keyOf a = keyOf b ↔ SameS a b := by
 unfold keyOf SameS
 simp
theorem Zb4 {a b : Step4} (s : SameS a b) (h1 : ltL a b = false) (h2 : ltL b a = false) : a = b := by
 have e := Jh _ _ h1 h2
 obtain ⟨a1, a2, a3, a4⟩ := a
 obtain ⟨b1, b2, b3, b4⟩ := b
 obtain ⟨s1, s2⟩ := s
 simp only [List.cons.injEq, and_true] at e s1 s2
 obtain ⟨e1, e2⟩ := e
 subst s1 s2 e1 e2
 rfl
theorem WW {xs : List V} {r : Option Step4} (h : FirstIs (lawSteps xs xs.length) r) : unlikeB xs = r.isNone := by
 have hn := Ju xs xs.length
 unfold unlikeB
 generalize lawSteps xs xs.length = S at h hn
 have e : (S.map keyOf).Nodup ↔ ∀ a ∈ S, ∀ b ∈ S, a ≠ b → ¬ SameS a b := by
  rw [List.nodup_iff_pairwise_ne, List.pairwise_map]
  rw [Zby (R := fun a b => keyOf a ≠ keyOf b) (fun a b h e => h e.symm) hn]
  constructor
  ·exact fun h a ha b hb ne s => h a ha b hb ne (UE.mpr s)
  ·exact fun h a ha b hb ne s => h a ha b hb ne (UE.mp s)
 cases r with
 | none =>
  refine decide_eq_true (e.mpr fun a ha b hb ne s => ?_)
  exact ne (Zb4 s (h a ha b hb s) (h b hb a ha ⟨s.1.symm, s.2.symm⟩))
 | some k =>
  obtain ⟨⟨a, ha, b, hb, s, l, _⟩, _⟩ := h
  refine decide_eq_false fun nd => e.mp nd a ha b hb (fun z => ?_) s
  subst z
  unfold ltL at l
  rw [Jw] at l; cases l
theorem Jr {H : Hp} : ∀ ns : List Int, Paired (Rl H) (ns.map V.int) (ns.map V.int)
 | [] => .nil
 | n :: ns => .cons (.inl ⟨n, rfl, rfl⟩) (Jr ns)
theorem ZaT {H : Hp} {x y : V} {q : Step4} (h1 : StepAt H x q) (h2 : StepAt H y q) : RSt (RSt Rl) H x y := by
 obtain ⟨t, t', rfl, a1, a2⟩ := h1
 obtain ⟨u, u', rfl, b1, b2⟩ := h2
 refine .inr ⟨t, u, _, _, rfl, rfl, a1, b1, .cons (.inr ⟨t', u', _, _, rfl, rfl, a2, b2, Jr [q.1, q.2.1], by show 2 ≤ 1000; decide⟩) (.cons (.inl (.inl ⟨_, rfl, rfl⟩)) (.cons (.inl (.inl ⟨_, rfl, rfl⟩)) .nil)), by show 3 ≤ 1000; decide⟩
theorem JX {H : Hp} : ∀ {xs ys : List V} {ks : List Step4}, Paired (StepAt H) xs ks → Paired (StepAt H) ys ks → Paired (RSt (RSt Rl) H) xs ys
 | _, _, _, .nil, .nil => .nil
 | _, _, _, .cons h1 r1, .cons h2 r2 => .cons (ZaT h1 h2) (JX r1 r2)
theorem Zbr {H : Hp} {x y : V} : ∀ {r : Option Step4}, OptAt H x r → OptAt H y r → RSt Rl H x y
 | none, h1, h2 => .inl (.inr (.inr ⟨h1, h2⟩))
 | some k, ⟨t, e1, a1⟩, ⟨u, e2, b1⟩ => .inr ⟨t, u, _, _, e1, e2, a1, b1, Jr (key4 k), by show 4 ≤ 1000; decide⟩
section
variable {P : Program} {w : World} {K : PySem.W.Frag} {mg : Str → Option Value} {base : Heap}
abbrev sRight : Stmt := top 46
def spRight : Sp := fun vs H Q _ => ∃ x y wd hg xs, vs = [x, y] ∧ LayAt H x y wd hg xs ∧ ∀ H', Same H H' → Q (.bl true) H'
theorem scRight : FnScope ["_law_board_here", "_law_lay_here", "_law_due", "_law_turn", "_law_found"] ["_law_board_here", "_law_lay_here"] (defScope sRight) := ⟨rfl, rfl, rfl, by decide +kernel, rfl, by decide +kernel, by decide +kernel⟩
theorem ZbS {f : Addr} {fd : FuncData} (F : Fun K "_law_right" "_law_right" sRight f fd) (G : Gs mg) (Dls : Def P w K mg base 1 "_law_steps" ["_law_lay_here"] (spLSteps K)) (Dlu : Def P w K mg base 2 "_law_unlike" ["_law_lay_here"] spLUnlike) (Dlf : Def P w K mg base 2 "_law_first" ["_law_lay_here"] spLFirst)
  (Dst : Def P w K mg base 9 "steps" ["board", "lay"] spSteps) (Dun : Def P w K mg base 11 "is_unlike" ["board", "lay"] spUnl) (Dfi : Def P w K mg base 10 "first_like" ["board", "lay"] spFirst)
  (DsL : Def P w K mg base 4 "_law_same" ["_law_found", "_law_due"] (spSame (RLi (RSt (RSt Rl))))) (DsS : Def P w K mg base 1 "_law_same" ["_law_found", "_law_due"] (spSame Rl)) (DsT : Def P w K mg base 2 "_law_same" ["_law_found", "_law_due"] (spSame (RSt Rl))) :
  FnOk P w K mg base CX0 12 f fd ["_law_board_here", "_law_lay_here"] spRight := by
 refine F.ok scRight (fun vs H Q E h => ?_) (fun cdv A outer s H vs Q E hr h => ?_)
 ·obtain ⟨x, y, wd, hg, xs, rfl, _⟩ := h
  rfl
 ·obtain ⟨x, y, wd, hg, xs, rfl, l, q⟩ := h
  have hu := hr.units
  refine ⟨_, Zh (Zs (i := 2) scRight.nd rfl (Or.inl rfl) (Zj (YK (Nat.lt_of_le_of_lt (Nat.add_le_add_left (by decide : 2 ≤ 64) _) hu)) rfl G.sorted PyProof.Rows.Boot.«sorted» (Za (Zk Dls (hr.mono (by decide)) (Za (pv 1) Zc)) Zc)))
   (Zh (Yi PassesOwn.never rfl (Z0 rfl G.range (Za Zi Zc)) (Zz (i := 3) scRight.nd rfl (Or.inl rfl))
    (Zh (Zs (i := 4) scRight.nd rfl (Or.inl rfl) (Zk Dst (hr.mono (by decide)) (Za (pv 0) (Za (pv 1) Zc))))
    (Zh (ZS (PW.pt (Ut (Yh (ZU (Zk DsL (hr.mono (by decide)) (Za (pv 4) (Za (pv 2) Zc))))) (JZ (Yh (ZU (Zk DsS (hr.mono (by decide)) (Za (Zk Dun hr (Za (pv 0) (Za (pv 1) Zc))) (Za (Zk Dlu (hr.mono (by decide)) (Za (pv 1) Zc)) Zc)))))))) ZE ZC)
    (Zh (ZS (Yh (ZU (Zk DsT (hr.mono (by decide)) (Za (Zk Dfi (hr.mono (by decide)) (Za (pv 0) (Za (pv 1) Zc))) (Za (Zk Dlf (hr.mono (by decide)) (Za (pv 1) Zc)) Zc))))) ZE ZC)
    (Zm (Ya (Wa PySem.F.plainAttrs_list PySem.F.slot_list_append PySem.F.type_list_append YA (pv 4) (Za (Zv Zc) Zc))))))))
   (Zm (Zx WH))), ?_⟩
  have hl12 := len12 l
  have rok := l.2.2.ok
  obtain ⟨a, rfl, ha⟩ := ZF l.2.1
  refine ⟨_, rfl, a, xs, rfl, SqT.of ha, ha, rok, hl12, fun d H1 rs s1 hd0 hd pr => ?_⟩
  have hS := Ym xs hl12
  have hlq : rs.length = (lawSteps xs xs.length).length := Paired.length pr
  refine ⟨d, rs, lawSteps xs xs.length, rfl, SqL.of hd, pr, by omega, fun D vs' ks' hDn hperm hrise pr2 => ?_⟩
  have s2 := Zg (o := .lst vs') hDn
  have eD : upd H1 D (.lst vs') D = some (.lst vs') := Zb
  generalize upd H1 D (HO.lst vs') = H2 at s2 eD
  have pr3 : Paired (StepAt H2) vs' ks' := Paired.mapP pr2 fun v q' hq => StepAt.same hq s2
  have l2 := l.same (s1.trans s2)
  refine ⟨2, rfl, by decide, by decide, ?_⟩
  refine Yg (n := (2 : Int).toNat) (fun i σ H3 => ∃ (x3 x4 : Option V), σ = [some x, some (.ref a), some (.ref D), x3, x4] ∧ Same H2 H3) ⟨none, none, rfl, Same.refl _⟩ ?_ ?_
  ·rintro i σ H3 hi ⟨x3, x4, rfl, s3⟩
   have l3 := l2.same s3
   refine ⟨_, rfl, _, rfl, x, .ref a, wd, hg, xs, rfl, l3, fun fo H4 fs ks s4 hfn hf prf permf risef => ?_⟩
   have ek : ks = ks' := Us risef hrise ((permf.trans (Y6 xs)).trans hperm.symm)
   subst ek
   have lk : fs.length ≤ 144 := by
    rw [Paired.length prf, permf.length_eq, List.length_map]
    exact pairs144 l
   have s24 := s3.trans s4
   refine ⟨_, rfl, _, rfl, _, _, rfl, ⟨fo, D, fs, vs', rfl, rfl, hf, s24 _ _ eD, JX prf (Paired.mapP pr3 fun v q' hq => StepAt.same hq s24), by omega⟩, fun H5 s5 => ⟨_, rfl, iteF ?_⟩⟩
   have l5 := l2.same (s24.trans s5)
   refine ⟨_, rfl, _, rfl, x, .ref a, wd, hg, xs, rfl, l5, fun H6 r s6 hfr => ?_⟩
   have ha6 := ((s1.trans s2).trans ((s24.trans s5).trans s6)) _ _ ha
   refine ⟨_, rfl, a, xs, rfl, ha6, rok, hl12, fun H7 s7 => ?_⟩
   rw [WW hfr]
   refine ⟨_, _, rfl, .inr (.inl ⟨_, rfl, rfl⟩), fun H8 s8 => ⟨_, rfl, iteF ?_⟩⟩
   have s28 := (s24.trans s5).trans (s6.trans (s7.trans s8))
   have l8 := l2.same s28
   refine ⟨_, rfl, _, rfl, x, .ref a, wd, hg, xs, rfl, l8, fun H9 v1 r1 s9 hf1 o1 => ?_⟩
   have ha9 := ((s1.trans s2).trans (s28.trans s9)) _ _ ha
   refine ⟨_, rfl, a, xs, rfl, ha9, rok, hl12, fun H10 v2 r2 s10 hf2 o2 => ?_⟩
   have er := FirstIs.unique (fun _ => Iff.rfl) hf1 hf2
   subst er
   refine ⟨_, _, rfl, Zbr (o1.same s10) o2, fun H11 s11 => ⟨_, rfl, iteF ?_⟩⟩
   have s411 := s5.trans (s6.trans (s7.trans (s8.trans (s9.trans (s10.trans s11)))))
   have hf11 := s411 _ _ hf
   refine ⟨_, rfl, .inl ⟨rfl, _, SqL.of hf11⟩, Nat.zero_le _, fun t ht => ?_⟩
   have s12 := Zg (o := .tup []) ht
   refine ⟨fo, fs, _, rfl, rfl, s12 _ _ hf11, by rw [sizeLine_eq]; omega, _, _, rfl, fun c o hc => ?_⟩
   have h3 := s3 _ _ hc
   rw [Zf (Zd h3 hfn)]
   exact s12 _ _ (s411 _ _ (s4 _ _ h3))
  ·rintro σ H3 ⟨x3, x4, rfl, s3⟩
   exact q H3 ((s1.trans s2).trans s3)
end
end U
set_option Elab.async false
set_option linter.all false
set_option maxRecDepth 100000
set_option maxHeartbeats 40000000
namespace L2
open PySem PySem.Spec PyProof.Rows
section
variable {X : Cx} {CX : CXT} {k : Nat} {f : Addr} {fd : FuncData} {ps : List Str} {ds : List Value} {dvs : List V} {sp : Sp} {E : XK} {x : Str} {p pos : Pos} {e : Expr} {es : List Expr} {t : TA}
theorem U6 {i : Nat} (F : FnOk X.prog X.w X.K X.mg X.base CX k f fd ps sp) (hr : Room k X.A) (hv : PE X (.Name x p) (tVar i)) (hk : PySem.W.keepIn X.K (.ref f) = true) (hb : Binds X.K fd ps ds) (hd : Vals dvs ds) (hx : Passes CX X E)
  (ha : PA X (e :: es) t) (he : starEach (e :: es) X.env = (false, eval e X.env) :: starEach es X.env := by rfl) (hpl : (backTo pos (starEach es X.env)).any (·.1) = false := by rfl) :
  PE X (.Call (.Name x p) (e :: es) [] pos) (fun σ H Q => σ[i]? = some (some (.ref f)) ∧ tCall sp dvs E t σ H Q) := by
 intro pins s σ H Q I h
 obtain ⟨hσ, h⟩ := h
 refine wpAny_Call_Name_kw (thn (hv pins s σ H (fun v H1 => v = .ref f ∧ H1 = H) I ⟨_, hσ, rfl, rfl⟩) fun u s1 ⟨v, H1, I1, rv, e1, e2⟩ => ?_)
 subst e1 e2
 cases rv
 refine PySem.W.callWith_K (h₀ := X.base) I1.ok.mod.kin hk (thn (ha pos pins s1 σ H1 _ I1 h) fun us s2 ⟨vs, H2, I2, r, q⟩ => ⟨I2.kIn, ?_⟩) he hpl
 exact Zbt F hr hb hd hx I2 r q
end
end L2
namespace U
open PySem L2 PyProof.Rows PyProof.Rows.Tim
def CellAt (Y : Cx) (cl : List (Str × Addr)) (x : Str) (v : V) (H : Hp) (s : Shared) : Prop := ∃ c u, cl.lookup x = some c ∧ s.heap.IsCell c (some u) ∧ RelV v u ∧ H c = none ∧ c ∉ frs Y.stack
def lfOk (so si : Scope) : Bool := si.names.all fun z => z.2 != .free || so.names.lookup z.1 == some .cell || so.names.lookup z.1 == some .free
theorem Zb5 {X : Cx} {scope : Scope} (h : lfOk X.env.scope scope = true) : ∀ z ∈ scope.names, z.2 = .free → X.env.kindOf z.1 = some .cell ∨ X.env.kindOf z.1 = some .free := fun z hz e => by
 have := List.all_eq_true.mp h z hz
 simp only [Bool.or_eq_true, bne_iff_ne, ne_eq, beq_iff_eq] at this
 rcases this with (h | h) | h
 ·exact absurd e h
 ·exact .inl h
 ·exact .inr h
section
variable {Y : Cx} {pins : List (Addr × Obj)} {σ : L2.St} {H : Hp} {s : Shared}
theorem Zcs {i : Nat} {x : Str} {v : V} {scope : Scope} (I : Inv Y pins σ H s) (hi : Y.N[i]? = some x) (hσ : σ[i]? = some (some v)) (hk : Y.env.scope.names.lookup x = some .cell) (hfn : Y.fn x = true) (hfr : (x, NameKind.free) ∈ scope.names) : CellAt Y (clOf scope Y.env) x v H s := by
 obtain ⟨m, hn, hl⟩ := I.loc
 obtain ⟨u, r, l⟩ := hl i x v hi hσ (.inr (.inl hk))
 obtain ⟨c, hc⟩ := Wp (env := Y.env) hfr
 have e1 := (YC hc).1
 rcases l with ⟨hk', _⟩ | ⟨_, c', hc', hcell⟩
 ·have : Y.env.scope.names.lookup x = some .local := hk'
  rw [hk] at this
  cases this
 ·rw [hc'] at e1
  have e2 : c = c' := e1
  subst e2
  refine ⟨c, u, hc, hcell, r, I.freeC x c hc', fun hm => ?_⟩
  rcases List.mem_cons.mp (I.stkSub c hm) with z | z
  ·exact I.cne x c hc' z
  ·obtain ⟨_, o, ho, _⟩ := I.ok.funs.mem z
   exact absurd (Nat.lt_of_lt_of_le (Heap.lt_size ho) (I.ok.cab x c hfn hc')) (Nat.lt_irrefl _)
theorem ZdL {scope : Scope} {env : Env} {z : Str} {c : Addr} (h : (clOf scope env).lookup z = some c) : (z, NameKind.free) ∈ scope.names := (YC h).2
end
section
variable {X : Cx} {cS c P fR : Addr} {kf : Nat}
abbrev lq (X : Cx) : Str := X.env.qual ++ "<lambda>"
theorem ZV {H H' : Hp} {P : Addr} {q : Str} (h : TabAt H P q) (s : Same H H') : TabAt H' P q := by
 obtain ⟨ps, h1, h2, h3⟩ := h
 exact ⟨ps, s _ _ h1, h2, fun pos cv z => by obtain ⟨d, e, g⟩ := h3 pos cv z; exact ⟨d, e, s _ _ g⟩⟩
structure LCtx (X : Cx) (cS c P fR : Addr) (kf : Nat) : Prop where
 lam : LamX X c P
 hR : ∀ b', Def X.prog X.w X.K X.mg b' (kf + 2) "_law_refused" ["_law_call"] (spRef X.prog X.w X.K X.mg b' cS (kf + 1))
 room : Room (kf + 2) X.A
 mR : X.mg "_law_refused" = some (.ref fR)
 kR : PySem.W.keepIn X.K (.ref fR) = true
structure LN (X : Cx) (x : Str) (i : Nat) : Prop where
 nx : X.N[i]? = some x
 kx : X.env.scope.names.lookup x = some .cell
 fx : X.fn x = true
def Refuses (sp : Sp) (vs : List V) (C : Addr) (H : Hp) : Prop := ∀ Q' E', (∀ e H', Same H H' → E' (.ref e) (some C) H') → sp vs H Q' E'
structure LScopeN (params : Arguments) (body : Expr) (scope : Scope) (N : List Str) : Prop where
 kind : scope.kind = .function
 co : scope.isCoroutine = false
 gen : scope.isGenerator = false
 nocell : ∀ z ∈ scope.names, z.2 ≠ .cell
 only : ∀ z ∈ scope.names, z.2 = .free → z.1 ∈ N
 free : ∀ x ∈ N, scope.names.lookup x = some .free
 bind : ∀ (q : Str) (cl : List (Str × Addr)) (pm : Value) (c : Addr) (ct : Value), bindArgs (PySem.W.kla_fn "<lambda>" q params body scope cl pm (.ref c) ct) ⟨[], []⟩ = pure []
def BodyN (X : Cx) (kf : Nat) (C : Addr) (f : Addr) (q : Str) (bd : Expr) (scope : Scope) (cl : List (Str × Addr)) (N : List Str) (ws : List V) (Pre : Hp → Prop) : Prop :=
 ∀ (base' : Heap) (cc : Addr) (A : Around) (outer : List Env) (s2 : Shared) (H2 : Hp) (Q2 : VK) (E2 : XK), Room kf (A.deeper (PySem.W.envX q scope s2.heap.objs.size f (.ref cc) cl)) → Pre H2 → (∀ e H', Same H2 H' → E2 (.ref e) (some C) H') →
  ∃ t, PE (cxL X.prog X.w X.K X.mg base' N q scope f (.ref cc) cl A outer s2 H2 E2) bd t ∧ t (ws.map some) H2 Q2
theorem Zbs {pins : List (Addr × Obj)} {σ : L2.St} {H : Hp} {s : Shared} {f C : Addr} {iC : Nat} {q : Str} {params : Arguments} {bd : Expr} {scope : Scope} {cl : List (Str × Addr)} {Q : VK} {N : List Str} {ws : List V} {Pre : Hp → Prop} (L : LCtx X cS c P fR kf)
  (LS : LScopeN params bd scope N) (I : Inv X pins σ H s) (hl : LamAt H f q params bd scope cl) (hlen : ws.length = N.length) (hcl : ∀ (i : Nat) x v, N[i]? = some x → ws[i]? = some v → CellAt X cl x v H s) (hmem : ∀ z c, cl.lookup z = some c → (z, NameKind.free) ∈ scope.names)
  (hinj : ∀ a b c, cl.lookup a = some c → cl.lookup b = some c → a = b) (hi : iC = 0 ∨ iC = 1) (M : Mk15 X.K X.mg cS C iC) (bad : BodyN X kf C f q bd scope cl N ws Pre) (pre : Pre H) (hq : ∀ l H', Same H H' → H l = none → H' l = some (.lst [.int (iC : Int)]) → Q (.ref l) H') :
  wpAny (model X.prog X.w) X.A (call (.ref fR) [.ref f]) (EP X pins σ Q) X.xe s := by
 obtain ⟨base', st, e0, cov⟩ := I.rebase
 obtain ⟨pm, cc, ct, hf, hc⟩ := hl
 have T : Cells base' scope cl N ws := ⟨hlen, fun u hu => by
   rcases hu with hu | hu
   ·exact absurd rfl (LS.nocell _ (PySem.mem_of_lookup hu))
   ·exact LS.only _ (PySem.mem_of_lookup hu) rfl, fun i a v h1 h2 => by
   obtain ⟨ax, ux, lx, ⟨ox, gx, dx⟩, rx, nx, fx⟩ := hcl i a v h1 h2
   exact ⟨LS.free a (List.mem_of_getElem? h1), ax, ux, lx, ⟨ox, cov _ _ gx nx fx, dx⟩, rx⟩, fun u c h => LS.only _ (hmem u c h) rfl, hinj⟩
 have FL : FnOk X.prog X.w X.K X.mg base' (CXR X.prog X.w) (kf + 1) f (PySem.W.kla_fn "<lambda>" q params bd scope cl pm (.ref cc) ct) []
   (fun vs H2 Q2 E2 => (vs = [] ∧ H2 f = some (lamO f q params bd scope cl pm cc ct) ∧ H2 cc = some (codeO cc q)) ∧ Pre H2 ∧ ∀ e H', Same H2 H' → E2 (.ref e) (some C) H') := by
  refine Zc1 (k := kf) T LS.kind LS.co LS.gen LS.nocell (fun vs H2 Q2 E2 h => h.1) fun A outer s2 H2 Q2 E2 hr2 h => ?_
  exact bad base' cc A outer s2 H2 Q2 E2 hr2 h.2.1 h.2.2
 obtain ⟨fR', fdR, FR, hm', hk, hb⟩ := L.hR base'
 rw [L.mR] at hm'
 cases hm'
 refine wpAny_call (codeAny_mono (FR.run X.A X.stack s H ⟨[.ref f], []⟩ [.ref f] [.ref f] Q E0 L.room e0 (hb s [.ref f] I.kIn rfl) (.cons rfl .nil)
  ⟨f, _, _, C, iC, rfl, hi, M, fun h hok => ?_, FL, fun s2 => .of_eq (LS.bind q cl pm cc ct), fun Q' E' hE => ⟨⟨rfl, hf, hc⟩, pre, hE⟩, hq⟩) fun r s' h => ?_)
 ·have z : h.get? f = some _ := (hok f _ hf).1
  exact ⟨_, _, _, _, z⟩
 ·cases r with
  | error e => exact h.elim
  | ok fl =>
   cases fl with
   | ret u => exact I.after h
   | next => exact False.elim h
   | brk => exact False.elim h
   | cont => exact False.elim h
def tRefN (X : Cx) (cS P : Addr) (kf : Nat) (bd : Expr) (scope : Scope) (N : List Str) (idx : List Nat) : TE := fun σ H Q => ∃ (ws : List V) (C : Addr) (iC : Nat) (Pre : Hp → Prop), ws.length = idx.length ∧ (∀ (k i : Nat) v, idx[k]? = some i → ws[k]? = some v → σ[i]? = some (some v)) ∧ TabAt H P (lq X) ∧ (iC = 0 ∨ iC = 1) ∧ Mk15 X.K X.mg cS C iC ∧
 (∀ f, BodyN X kf C f (lq X) bd scope (clOf scope X.env) N ws Pre) ∧ (∀ H', SameX P H H' → Pre H') ∧ ∀ l H', SameX P H H' → TabAt H' P (lq X) → H l = none → H' l = some (.lst [.int (iC : Int)]) → Q (.ref l) H'
theorem W3 {params : Arguments} {scope : Scope} {bd : Expr} {p lp pos : Pos} {N : List Str} {idx : List Nat} (L : LCtx X cS c P fR kf) (LS : LScopeN params bd scope N) (hN : idx.length = N.length) (LNs : ∀ (k : Nat) x i, N[k]? = some x → idx[k]? = some i → LN X x i) (hg : Gl X "_law_refused") (hdef : defaultsOf params X.env = ([], []))
  (hfr : ∀ z ∈ scope.names, z.2 = .free → X.env.kindOf z.1 = some .cell ∨ X.env.kindOf z.1 = some .free) :
  PE X (.Call (.Name "_law_refused" p) [.Lambda params bd scope lp] [] pos) (tRefN X cS P kf bd scope N idx) := by
 intro pins s σ H Q I h
 obtain ⟨ws, C, iC, Pre, hws, hσ, tab, hi, M, bad, pre, q⟩ := h
 refine wpAny_Call_Name_kw (Ji I hg L.mR ?_ (by decide))
 have ha : PA X [.Lambda params bd scope lp] _ := Za (Zds L.lam hdef hfr) Zc
 refine PySem.W.callWith_K (h₀ := X.base) I.ok.mod.kin L.kR (thn (ha pos pins s σ H (fun vs H1 => ∃ f, vs = [.ref f] ∧ SameX P H H1 ∧ TabAt H1 P (lq X) ∧ LamAt H1 f (lq X) params bd scope (clOf scope X.env)) I ⟨tab, fun f H1 sx nf t1 l1 => ⟨f, rfl, sx, t1, l1⟩⟩) fun us s1 ⟨vs, H1, I1, r, f, ev, sx, t1, l1⟩ => ⟨I1.kIn, ?_⟩) rfl rfl
 subst ev
 obtain ⟨u, rfl, ru⟩ := vals1 r
 cases ru
 refine Zbs L LS I1 l1 (by rw [hws, hN]) (fun i x v h1 h2 => ?_) (fun z c h => ZdL h) (fun a b c h1 h2 => ?_) hi M (bad f) (pre H1 sx) fun l H2 s2 nl hl => q l H2 (sx.trans s2.x) (ZV t1 s2) ?_ hl
 ·have hi : i < idx.length := by
   have := (List.getElem?_eq_some_iff.mp h1).1
   omega
  have ei := List.getElem?_eq_getElem hi
  have n := LNs i x _ h1 ei
  exact Zcs I1 n.nx (hσ i _ v ei h2) n.kx n.fx (PySem.mem_of_lookup (LS.free x (List.mem_of_getElem? h1)))
 obtain ⟨e1, m1⟩ := YC h1
 obtain ⟨e2, m2⟩ := YC h2
 obtain ⟨c1, g1⟩ := I1.ok.has a (hfr _ m1 rfl)
 obtain ⟨c2, g2⟩ := I1.ok.has b (hfr _ m2 rfl)
 rw [g1] at e1
 rw [g2] at e2
 have z1 : c1 = c2 := by
  have y1 : _ = c1 := e1
  have y2 : _ = c2 := e2
  rw [← y1, ← y2]
 subst z1
 exact I1.ok.inj _ _ _ g1 g2
 cases hh : H l with
 | none => rfl
 | some u =>
  by_cases z : l = P
  ·obtain ⟨ps, e, _⟩ := t1
   rw [z, e] at nl; cases nl
  ·rw [sx _ _ hh z] at nl; cases nl
end
def ScrAt (K : PySem.W.Frag) (H : Hp) (a : Addr) (ns : List Int) : Prop := (∃ o, H a = some (.frz o (.lst (ns.map V.int)))) ∨ ∃ (o : Obj) (its : Array Value) (n : Nat), K.lookup a = some o ∧ o.cls = .type "list" ∧ o.dict = none ∧ o.data = .seq its n ∧ its.size ≤ sizeLine ∧ Vals (ns.map V.int) its.toList
theorem ScrAt.sq {K : PySem.W.Frag} {H : Hp} {a : Addr} {ns : List Int} (h : ScrAt K H a ns) : SqL K H a (ns.map V.int) := by
 rcases h with ⟨o, h⟩ | h
 ·exact .inl (.inr ⟨o, h⟩)
 ·exact .inr h
theorem ScrAt.same {K : PySem.W.Frag} {H H' : Hp} {a : Addr} {ns : List Int} (h : ScrAt K H a ns) (s : Same H H') : ScrAt K H' a ns := by
 rcases h with ⟨o, h⟩ | h
 ·exact .inl ⟨o, s _ _ h⟩
 ·exact .inr h
theorem ScrAt.x {K : PySem.W.Frag} {H H' : Hp} {a p : Addr} {ns : List Int} {o : HO} (h : ScrAt K H a ns) (s : SameX p H H') (hp : H p = some o) (hn : ∀ ob u, o ≠ .frz ob u) : ScrAt K H' a ns := by
 rcases h with ⟨ob, h⟩ | h
 ·exact .inl ⟨ob, s _ _ h fun z => by rw [z, hp] at h; cases h; exact hn _ _ rfl⟩
 ·exact .inr h
theorem Zc9 {H H' : Hp} {P p : Addr} {q : Str} {o : HO} (h : TabAt H P q) (s : SameX p H H') (hp : H p = some o) (h1 : ∀ ps, o ≠ .tbl ps) (h2 : ∀ c, o ≠ codeO c q) : TabAt H' P q := by
 obtain ⟨ps, e, t, f⟩ := h
 refine ⟨ps, s _ _ e fun z => by rw [z, hp] at e; cases e; exact h1 _ rfl, t, fun pos cv z => ?_⟩
 obtain ⟨d, e1, e2⟩ := f pos cv z
 exact ⟨d, e1, s _ _ e2 fun z => by rw [z, hp] at e2; cases e2; exact h2 _ rfl⟩
section
variable {X : Cx} {kf : Nat}
def cV (x y : Str) (p1 p2 p3 p4 : Pos) : Expr := .Call (.Name "_law_call" p1) [.Name x p2, .Name y p3] [] p4
theorem bodyV {k' : Nat} {fn x y : Str} {ps : List Str} {sp : Sp} {scope : Scope} {C f g : Addr} {q : Str} {cl : List (Str × Addr)} {vx vy : V} {p1 p2 p3 p4 : Pos} (hk' : k' ≤ kf) (hU : ∀ b', DefR X.prog X.w X.K X.mg b' k' fn ps sp) (mg : X.mg fn = some (.ref g))
  (kc : scope.names.lookup ("_law_call" : Str) = some .free) (kx : scope.names.lookup x = some .free) (ky : scope.names.lookup y = some .free) (dx : (x == ("__debug__" : Str)) = false) (dy : (y == ("__debug__" : Str)) = false)
  (ex : (x == ("__classdict__" : Str)) = false) (ey : (y == ("__classdict__" : Str)) = false) :
  BodyN X kf C f q (cV x y p1 p2 p3 p4) scope cl ["_law_call", x, y] [.ref g, vx, vy] (Refuses sp [vx, vy] C) := by
 intro base' cc A outer s2 H2 Q2 E2 hr pre hE
 obtain ⟨g', fd, F, hg, hk, hb⟩ := hU base'
 rw [mg] at hg
 cases hg
 refine ⟨_, U6 (X := cxL X.prog X.w X.K X.mg base' ["_law_call", x, y] q scope f (.ref cc) cl A outer s2 H2 E2) (i := 0) F (hr.mono hk') (J9 (i := 0) rfl (.inr (.inr kc)) (by decide) (by decide)) hk hb .nil (E := E2) (passR' (X := cxL X.prog X.w X.K X.mg base' ["_law_call", x, y] q scope f (.ref cc) cl A outer s2 H2 E2) (fun e s' z => z) rfl rfl rfl)
  (Za (J9 (i := 1) rfl (.inr (.inr kx)) dx ex) (Za (J9 (i := 2) rfl (.inr (.inr ky)) dy ey) Zc)), ?_⟩
 exact ⟨rfl, vx, rfl, vy, rfl, pre Q2 E2 hE⟩
end
end U
set_option Elab.async false
set_option linter.all false
set_option maxRecDepth 100000
set_option maxHeartbeats 40000000
namespace L2
open PySem PySem.Spec PyProof.Rows PyProof.Rows.Tim SeqAt
theorem Zap {X : Cx} {pins : List (Addr × Obj)} {σ : St} {H : Hp} {s : Shared} {v : V} {k : I4} {u : Value} (I : Inv X pins σ H s) (h : SpAt H v k) (r : RelV v u) : TupN s.heap u k := by
 obtain ⟨t, t', rfl, ht, ht'⟩ := h
 cases r
 obtain ⟨i1, ri, ⟨o, go, oc, n, od⟩, _⟩ := I.tuple (SqT.of ht)
 obtain ⟨i2, ri', ⟨o', go', oc', n', od'⟩, _⟩ := I.tuple (SqT.of ht')
 cases ri with
 | cons a1 a2 =>
  cases a2 with
  | cons a3 a4 =>
   cases a4 with
   | cons a5 a6 =>
    cases a6
    cases ri' with
    | cons b1 b2 =>
     cases b2 with
     | cons b3 b4 =>
      cases b4
      cases a1
      obtain ⟨k3, rfl⟩ := a3
      obtain ⟨k4, rfl⟩ := a5
      obtain ⟨k1, rfl⟩ := b1
      obtain ⟨k2, rfl⟩ := b3
      exact ⟨t, o, n, t', o', n', k1, k2, k3, k4, rfl, go, oc, od, go', oc', od'⟩
theorem Zc7 {A : Around} {s : Shared} {u v : Value} {k : I4} (hu : A.units + 1 < cLine) (x : TupN s.heap u k) (y : TupN s.heap v k) : EqAt A s u v true := by
 obtain ⟨t, o, n, t', o', n', k1, k2, k3, k4, rfl, g, c, d, g', c', d'⟩ := x
 obtain ⟨z, p, m, z', p', m', j1, j2, j3, j4, rfl, q, e, f, q', e', f'⟩ := y
 by_cases h : t = z
 ·subst h
  exact EqAt.same _
 ·refine EqAt.of_refs h ?_
  have w := RcAt.tuples (A := A) (s := s) (l := t) (b := z) (items := #[.ref t', .int k.2.2.1 k3, .int k.2.2.2 k4]) (items2 := #[.ref z', .int k.2.2.1 j3, .int k.2.2.2 j4]) (e := fun _ => true) ⟨o, g, c, n, d⟩ ⟨p, q, e, m, f⟩ (Nat.lt_of_succ_lt hu) (fun j h1 h2 => by
   have h1' : j < 3 := h1
   match j, h1' with
   | 0, _ =>
    have := UO (A := A.in1) (s := s) (t := t') (t' := z') hu g' c' d' q' e' f'
    simpa using this
   | 1, _ =>
    have := EqAt.int_int (A := A.in1) (s := s) k.2.2.1 k3 k.2.2.1 j3
    simpa using this
   | 2, _ =>
    have := EqAt.int_int (A := A.in1) (s := s) k.2.2.2 k4 k.2.2.2 j4
    simpa using this)
  exact w
theorem ZcJ {X : Cx} (hu : X.A.units + 2 < cLine) : OpR X (compareOp .Eq) (fun x y H Q => ∃ (a b : Addr) (xs ys : List V) (ks : List I4), x = .ref a ∧ y = .ref b ∧ SqL X.K H a xs ∧ SqL X.K H b ys ∧ Paired (SpAt H) xs ks ∧ Paired (SpAt H) ys ks ∧ Q (.bl true) H) := by
 intro pins s σ H x y u v Q I rx ry h
 obtain ⟨a, b, xs, ys, ks, rfl, rfl, ha, hb, p1, p2, q⟩ := h
 cases rx
 cases ry
 obtain ⟨us, r1, l1, _⟩ := I.list ha
 obtain ⟨vs, r2, l2, _⟩ := I.list hb
 have e1 := r1.length
 have e2 := r2.length
 have e3 := Paired.length p1
 have e4 := Paired.length p2
 refine eq_listAt (e := fun _ => true) l1.isList l2.isList (by simp; omega) (by omega) (fun j h1 h2 => ?_) ?_
 ·have hj : j < xs.length := by simp at h1; omega
  have hj' : j < ys.length := by omega
  obtain ⟨u, hu', ru⟩ := r1.get (List.getElem?_eq_getElem hj)
  obtain ⟨v, hv', rv⟩ := r2.get (List.getElem?_eq_getElem hj')
  have f1 : us.toArray[j] = u := by simpa using (List.getElem?_eq_some_iff.mp hu').2
  have f2 : vs.toArray[j] = v := by simpa using (List.getElem?_eq_some_iff.mp hv').2
  rw [f1, f2]
  obtain ⟨k, hk, s1⟩ := Yx p1 (List.getElem?_eq_getElem hj)
  obtain ⟨k', hk', s2⟩ := Yx p2 (List.getElem?_eq_getElem hj')
  rw [hk] at hk'
  cases hk'
  exact Zc7 (A := X.A.in1) hu (Zap I s1 ru) (Zap I s2 rv)
 ·have e : (List.range us.toArray.size).all (fun _ => true) = true := by simp
  rw [e]
  exact ⟨.bl _, H, I, rfl, q⟩
end L2
namespace U
open PySem L2 PyProof.Rows PyProof.Rows.Tim
theorem JI {K : PySem.W.Frag} {H H' : Hp} {p : Addr} {v : V} (t : PlT K H v) (s : SameX p H H') (hn : v ≠ .ref p) : tupOf H' v = tupOf H v := by
 obtain ⟨T, t⟩ := t
 cases t with
 | tup e => rw [Zu e, Zu (s _ _ e fun z => hn (by rw [z]))]
 | lst e => rw [Zw, Zw, e, s _ _ e fun z => hn (by rw [z])]
 | frz e => rw [Zw, Zw, e, s _ _ e fun z => hn (by rw [z])]
 | dK e => rw [Zw, Zw, e, s _ _ e fun z => hn (by rw [z])]
 | dT e => rw [Zw, Zw, e, s _ _ e fun z => hn (by rw [z])]
 | _ => rfl
theorem Zdb {K : PySem.W.Frag} {H H' : Hp} {p : Addr} {v : V} (t : PlT K H v) (s : SameX p H H') (hn : v ≠ .ref p) : PlT K H' v := by
 obtain ⟨T, t⟩ := t
 cases t with
 | tup e => exact ⟨_, .tup (s _ _ e fun z => hn (by rw [z]))⟩
 | lst e => exact ⟨_, .lst (s _ _ e fun z => hn (by rw [z]))⟩
 | frz e => exact ⟨_, .frz (s _ _ e fun z => hn (by rw [z]))⟩
 | dK e => exact ⟨_, .dK (s _ _ e fun z => hn (by rw [z]))⟩
 | dT e => exact ⟨_, .dT (s _ _ e fun z => hn (by rw [z]))⟩
 | non => exact ⟨_, .non⟩
 | bl b => exact ⟨_, .bl b⟩
 | int i => exact ⟨_, .int i⟩
 | str x => exact ⟨_, .str x⟩
 | flt x => exact ⟨_, .flt x⟩
theorem Zdc {K : PySem.W.Frag} {H H' : Hp} {p : Addr} {v : V} (t : Pl1 K H v) (s : SameX p H H') (n : NoRef p H v) : Pl1 K H' v := by
 refine ⟨Zdb t.1 s n.1, fun xs e y hy => ?_⟩
 rw [JI t.1 s n.1] at e
 exact Zdb (t.2 xs e y hy) s (n.2 xs e y hy)
theorem W9 {K : PySem.W.Frag} {H H' : Hp} {p q : Addr} {v : V} (t : PlT K H v) (s : SameX q H H') (hq : v ≠ .ref q) (n : NoRef p H v) : NoRef p H' v := ⟨n.1, fun xs e => n.2 xs (by rw [← JI t s hq]; exact e)⟩
theorem YS {K : PySem.W.Frag} {H H' : Hp} {p : Addr} {v : V} (b : BadBoard K H v) (s : SameX p H H') (n : NoRef p H v) : BadBoard K H' v := ⟨Zdc b.1 s n, by rw [JI b.1.1 s n.1]; exact b.2⟩
theorem Jz {K : PySem.W.Frag} {wd hg : Int} {H H' : Hp} {p : Addr} {v : V} (b : BadL K wd hg H v) (s : SameX p H H') (n : NoRef p H v) : BadL K wd hg H' v := ⟨Zdc b.1 s n, by rw [JI b.1.1 s n.1]; exact b.2⟩
theorem ZR {K : PySem.W.Frag} {H : Hp} {P : Addr} {ps : Array Value} {v : V} (t : Pl1 K H v) (h : H P = some (.tbl ps)) : NoRef P H v := by
 have key : ∀ y, PlT K H y → y ≠ .ref P := fun y ⟨T, ty⟩ z => by
  subst z
  cases ty with
  | lst e => rw [h] at e; cases e
  | frz e => rw [h] at e; cases e
  | tup e => rw [h] at e; cases e
  | dK e => rw [h] at e; cases e
  | dT e => rw [h] at e; cases e
 exact ⟨key v t.1, fun xs e y hy => key y (t.2 xs e y hy)⟩
theorem ZcZ {wd hg : Int} {xs : List V} (h : IsLay wd hg xs) : IsLay wd hg xs.reverse := by
 have e : rowsOf xs.reverse = (rowsOf xs).reverse := by unfold rowsOf; rw [List.filter_reverse]
 refine ⟨by rw [List.length_reverse]; exact h.len, fun r hr => h.row r ?_, ?_⟩
 ·rw [e] at hr
  exact List.mem_reverse.mp hr
 ·rw [e]
  exact List.pairwise_reverse.mpr (List.Pairwise.imp (fun h => Ne.symm h) h.nd)
theorem YD {H H' : Hp} {p : Addr} {b : Addr} {wd hg : Int} {ps : Array Value} (h : BoardAt H (.ref b) wd hg) (s : SameX p H H') (hp : H p = some (.tbl ps)) : BoardAt H' (.ref b) wd hg := by
 obtain ⟨a, e, ha⟩ := ZF h.1
 cases e
 exact ⟨Zu (s _ _ ha fun z => by rw [z, hp] at ha; cases ha), h.2⟩
abbrev noA : Arguments := { posonlyargs := [], args := [], vararg := none, kwonlyargs := [], kw_defaults := [], kwarg := none, defaults := [] }
abbrev sc3 (a b c : Str) : Scope := { kind := .function, names := [(a, .free), (b, .free), (c, .free)], isGenerator := false, isCoroutine := false }
theorem lsc1 {p1 p2 p3 p4 : Pos} : LScopeN noA (cV "_law_none" "_law_bad" p1 p2 p3 p4) (sc3 "_law_bad" "_law_call" "_law_none") ["_law_call", "_law_none", "_law_bad"] := ⟨rfl, rfl, rfl, by decide, by decide, by decide, fun _ _ _ _ _ => rfl⟩
theorem lsc2 {p1 p2 p3 p4 : Pos} : LScopeN noA (cV "_law_none" "_law_lay_here" p1 p2 p3 p4) (sc3 "_law_call" "_law_lay_here" "_law_none") ["_law_call", "_law_none", "_law_lay_here"] := ⟨rfl, rfl, rfl, by decide, by decide, by decide, fun _ _ _ _ _ => rfl⟩
theorem lsc3 {p1 p2 p3 p4 : Pos} : LScopeN noA (cV "_law_board_here" "_law_bad" p1 p2 p3 p4) (sc3 "_law_bad" "_law_board_here" "_law_call") ["_law_call", "_law_board_here", "_law_bad"] := ⟨rfl, rfl, rfl, by decide, by decide, by decide, fun _ _ _ _ _ => rfl⟩
end U
set_option Elab.async false
set_option linter.all false
set_option maxRecDepth 100000
set_option maxHeartbeats 40000000
namespace U
open PySem L2 PyProof.Rows PyProof.Rows.Tim
theorem places3 {σ : L2.St} {i j l : Nat} {a b c : V} (h1 : σ[i]? = some (some a)) (h2 : σ[j]? = some (some b)) (h3 : σ[l]? = some (some c)) : ∀ (k i' : Nat) v, [i, j, l][k]? = some i' → [a, b, c][k]? = some v → σ[i']? = some (some v) := fun k i' v e1 e2 => by
 match k, e1, e2 with
 | 0, e1, e2 => cases e1; cases e2; exact h1
 | 1, e1, e2 => cases e1; cases e2; exact h2
 | 2, e1, e2 => cases e1; cases e2; exact h3
 | k + 3, e1, e2 => simp at e1
theorem lns3 {X : Cx} {x y z : Str} {i j l : Nat} (h1 : LN X x i) (h2 : LN X y j) (h3 : LN X z l) : ∀ (k : Nat) u m, [x, y, z][k]? = some u → [i, j, l][k]? = some m → LN X u m := fun k u m e1 e2 => by
 match k, e1, e2 with
 | 0, e1, e2 => cases e1; cases e2; exact h1
 | 1, e1, e2 => cases e1; cases e2; exact h2
 | 2, e1, e2 => cases e1; cases e2; exact h3
 | k + 3, e1, e2 => simp at e1
theorem Zck : FirstIs (lawSteps [.int 0, .int 1, .int 2] 3) (some (0, 1, 1, 2)) := by
 have e : lawSteps [.int 0, .int 1, .int 2] 3 = [((1 : Int), (1 : Int), (0 : Int), (1 : Int)), (2, 2, 0, 2), (1, 1, 1, 2)] := by rfl
 rw [e]
 refine ⟨⟨(1, 1, 0, 1), by decide, (1, 1, 1, 2), by decide, ⟨rfl, rfl⟩, by rfl, rfl⟩, by decide⟩
theorem Zcj : (pairsL (pointsL [.int 1, .int 0])).map stOf = [((1 : Int), (-1 : Int), (0 : Int), (1 : Int))] := by rfl
section
variable {P : Program} {w : World} {K : PySem.W.Frag} {mg : Str → Option Value} {base : Heap}
abbrev sLaw : Stmt := top 47
def spLaw (K : PySem.W.Frag) (Pt : Addr) : Sp := fun vs H Q _ => ∃ (a : Addr) (ns : List Int), vs = [.ref a] ∧ ScrAt K H a ns ∧ ns.length ≤ 63 ∧ H Pt = some (.tbl #[]) ∧ ∀ H', Q (.bl true) H'
abbrev nLaw : List Str := ["_law_script", "_law_k", "_law_state_here", "_law_grown_here", "_law_some", "_law_told", "_law_bad", "_law_board_here", "_law_call", "_law_lay_here", "_law_none"]
theorem scLaw : FnScope nLaw ["_law_script"] (defScope sLaw) := ⟨rfl, rfl, rfl, by decide +kernel, rfl, by decide +kernel, by decide +kernel⟩
theorem ZdB {f c Pt fR cS cB cL gS gU gF : Addr} {oc : Value} {od an : Option Addr} {kV doc pm ct : Value} {osl : Array (Option Value)}
  (lk : K.lookup f = some ⟨oc, od, .func (PySem.W.fnOf "law" "law" (defArgs sLaw) (defBody sLaw) (defScope sLaw) .none kV doc pm an (.ref c) ct), osl⟩) (hcd : PySem.W.codeIn K (.ref c) "law" = true) (G : Gs mg)
  (Dst : Def P w K mg base 2 "_law_state" ["_law_script", "_law_k"] (spState K)) (Dnb : Def P w K mg base 2 "_law_no_board" ["_law_state_here"] (spNoB K)) (Dbd : Def P w K mg base 2 "_law_board" ["_law_state_here", "_law_upto"] spDrawB)
  (Dl : Def P w K mg base 2 "_law_lay" ["_law_state_here", "_law_board_here"] (spDrawL K)) (Dg : Def P w K mg base 3 "_law_grown" ["_law_state_here", "_law_board_here"] (spGrown K)) (Dnl : Def P w K mg base 2 "_law_no_lay" ["_law_state_here", "_law_board_here", "_law_lay_here"] (spNoL K))
  (Drt : Def P w K mg base 12 "_law_right" ["_law_board_here", "_law_lay_here"] spRight) (Dsp : Def P w K mg base 9 "steps" ["board", "lay"] spSteps) (Dfi : Def P w K mg base 10 "first_like" ["board", "lay"] spFirst)
  (hR : ∀ b', Def P w K mg b' 13 "_law_refused" ["_law_call"] (spRef P w K mg b' cS 12)) (hS : ∀ b', DefR P w K mg b' 9 "steps" ["board", "lay"] (spX K cB cL)) (hU : ∀ b', DefR P w K mg b' 11 "is_unlike" ["board", "lay"] (spX K cB cL)) (hF : ∀ b', DefR P w K mg b' 10 "first_like" ["board", "lay"] (spX K cB cL))
  (mS : mg "steps" = some (.ref gS)) (mU : mg "is_unlike" = some (.ref gU)) (mF : mg "first_like" = some (.ref gF)) (mR : mg "_law_refused" = some (.ref fR)) (kR : PySem.W.keepIn K (.ref fR) = true)
  (M0 : Mk15 K mg cS cB 0) (M1 : Mk15 K mg cS cL 1) (hC : PySem.W.CodeHd base c Pt)
  (hbm : ∃ bm ob, mg "__builtins__" = some (.ref bm) ∧ bm ≠ builtinsNs ∧ base.get? bm = some ob ∧ ob.cls = .type "module" ∧ ob.dict = some builtinsNs ∧ ob.data = .plain) :
  FnOk P w K mg base CX0 14 f (PySem.W.fnOf "law" "law" (defArgs sLaw) (defBody sLaw) (defScope sLaw) .none kV doc pm an (.ref c) ct) ["_law_script"] (spLaw K Pt) := by
 refine Zce lk hcd scLaw (fun vs H Q E h => ?_) (fun A outer s H vs Q E hr h => ?_)
 ·obtain ⟨a, ns, rfl, _⟩ := h
  rfl
 ·obtain ⟨a, ns, rfl, scr, hns, htab, q⟩ := h
  have C : LCtx (cxOf CX0 P w K mg base nLaw "law" (defScope sLaw) f (.ref c) A outer s H E).nox cS c Pt fR 11 := ⟨⟨rfl, hC, hbm⟩, hR, hr, mR, kR⟩
  have NC : LN (cxOf CX0 P w K mg base nLaw "law" (defScope sLaw) f (.ref c) A outer s H E).nox "_law_call" 8 := ⟨rfl, rfl, rfl⟩
  have NN : LN (cxOf CX0 P w K mg base nLaw "law" (defScope sLaw) f (.ref c) A outer s H E).nox "_law_none" 10 := ⟨rfl, rfl, rfl⟩
  have NB : LN (cxOf CX0 P w K mg base nLaw "law" (defScope sLaw) f (.ref c) A outer s H E).nox "_law_bad" 6 := ⟨rfl, rfl, rfl⟩
  have NL : LN (cxOf CX0 P w K mg base nLaw "law" (defScope sLaw) f (.ref c) A outer s H E).nox "_law_lay_here" 9 := ⟨rfl, rfl, rfl⟩
  have ND : LN (cxOf CX0 P w K mg base nLaw "law" (defScope sLaw) f (.ref c) A outer s H E).nox "_law_board_here" 7 := ⟨rfl, rfl, rfl⟩
  have hu := hr.units
  have hu2 := Nat.lt_of_le_of_lt (Nat.add_le_add_left (by decide : 2 ≤ 64) _) hu
  have main : ∃ t, PSs (cxOf CX0 P w K mg base nLaw "law" (defScope sLaw) f (.ref c) A outer s H E).nox (defBody sLaw) t ∧ t { nx := fun _ H' => Q .non H', rt := Q } (start nLaw [.ref a]) H := by
   refine ⟨_, Zh (Yi PassesOwn.never rfl (Z0 rfl G.range (Za (Zj (WR rfl) rfl G.max boot_max (Za Zi (Za (Zj (Zbm rfl) rfl G.min boot_min (Za (Zj Zr rfl G.len boot_len (Za (pv 0) Zc)) (Za Zi Zc))) Zc))) Zc)) (Zz (i := 1) scLaw.nd rfl (Or.inl rfl))
     (Zh (Zs (i := 2) scLaw.nd rfl (Or.inl rfl) (Zk Dst (hr.mono (by decide)) (Za (pv 0) (Za (pv 1) Zc))))
     (Zh (J7 (Zv (Za (Zk Dnb (hr.mono (by decide)) (Za (pv 2) Zc)) (Za (Zk Dbd (hr.mono (by decide)) (Za (pv 2) (Za Zi Zc))) Zc))) (ZT rfl (Zn (Zz (i := 10) scLaw.nd rfl (Or.inr rfl)) (Zn (Zz (i := 7) scLaw.nd rfl (Or.inr rfl)) ZK))))
     (Zh (Zs (i := 9) scLaw.nd rfl (Or.inr rfl) (Zk Dl (hr.mono (by decide)) (Za (pv 2) (Za (pv 7) Zc))))
     (Zh (Zs (i := 3) scLaw.nd rfl (Or.inl rfl) (Zk Dg (hr.mono (by decide)) (Za (pv 2) (Za (pv 7) Zc))))
     (Zh (Zs (i := 6) scLaw.nd rfl (Or.inr rfl) (Zk Dnl (hr.mono (by decide)) (Za (pv 2) (Za (pv 7) (Za (pv 9) Zc)))))
     (Zh (Yi PassesOwn.never rfl (ZX (ZD (Za (pv 9) (Za (pv 3) (Za (ZcF (pv 3)) Zc))))) (Zz (i := 4) scLaw.nd rfl (Or.inl rfl))
      (Zm (ZS (Yh (ZU (Zk Drt (hr.mono (by decide)) (Za (pv 7) (Za (pv 4) Zc))))) ZE ZC)))
     (Zm (Yi PassesOwn.never rfl (ZX (ZD (Za (ZH (v := .ref gS) rfl mS rfl) (Za (ZH (v := .ref gU) rfl mU rfl) (Za (ZH (v := .ref gF) rfl mF rfl) Zc))))) (Zz (i := 8) scLaw.nd rfl (Or.inr rfl))
      (Zh (Zs (i := 5) scLaw.nd rfl (Or.inl rfl) (ZD (Za (W3 (idx := [8, 10, 6]) C lsc1 rfl (lns3 NC NN NB) rfl rfl (Zb5 (by kernel_rfl))) Zc)))
      (Zh (Ya (Wa PySem.F.plainAttrs_list PySem.F.slot_list_append PySem.F.type_list_append YA (pv 5) (Za (W3 (idx := [8, 10, 9]) C lsc2 rfl (lns3 NC NN NL) rfl rfl (Zb5 (by kernel_rfl))) Zc)))
      (Zm (ZS (ZG (Zdu (Zcc hr)) (Zp Y7 (pv 5) (ZD (Za (W3 (idx := [8, 7, 6]) C lsc3 rfl (lns3 NC ND NB) rfl rfl (Zb5 (by kernel_rfl))) Zc))) (ZD (Za (ZD (Za Zi Zc)) (Za (ZD (Za Zi Zc)) (Za (ZD (Za Zi Zc)) Zc)))) (nomark _)) ZE ZC)))))))))))))
    (Zm (Zx (YG (Yq (W7 hr.units0) (Zk Dfi (hr.mono (by decide)) (Za (Zv (Za Zi (Za Zi Zc))) (Za (Zv (Za Zi (Za Zi (Za Zi Zc)))) Zc))) (Zv (Za Zi (Za Zi (Za Zi (Za Zi Zc))))) (nomark _))
     (YF (Yq (ZcJ hu2) (Zk Dsp (hr.mono (by decide)) (Za (Zv (Za Zi (Za Zi Zc))) (Za (Zv (Za Zi (Za Zi Zc))) Zc))) (ZD (Za (Zv (Za (Zv (Za Zi (Za (ZbF UW Zi) Zc))) (Za Zi (Za Zi Zc)))) Zc)) (nomark _)))))), ?_⟩
   have tab0 : TabAt H Pt (lq (cxOf CX0 P w K mg base nLaw "law" (defScope sLaw) f (.ref c) A outer s H E).nox) := ⟨#[], htab, trivial, fun pos cv z => by cases z⟩
   refine Z9 ?_
   refine ⟨_, rfl, a, _, rfl, .inl scr.sq, _, _, rfl, _, _, rfl, _, rfl, (by rw [List.length_map]; split <;> split <;> omega), (by rw [List.length_map]; split <;> split <;> omega), ?_⟩
   refine Yg (fun i σ H' => ∃ s1 s2 s3 s4 s5 s6 s7 s8 s9 s10, σ = [some (.ref a), s1, s2, s3, s4, s5, s6, s7, s8, s9, s10] ∧ ScrAt K H' a ns ∧ TabAt H' Pt (lq (cxOf CX0 P w K mg base nLaw "law" (defScope sLaw) f (.ref c) A outer s H E).nox)) ⟨_, _, _, _, _, _, _, _, _, _, rfl, scr, tab0⟩ ?_ ?_
   ·rintro i σ H0 hi ⟨s1, s2, s3, s4, s5, s6, s7, s8, s9, s10, rfl, sc0, tb0⟩
    rw [Int.zero_add]
    refine Z6 ?_
    dsimp only [List.set]
    refine Z9 (Yr ⟨_, rfl, _, rfl, a, ns, i, rfl, sc0.sq, fun p H1 np q1 st1 => Z6 ?_⟩)
    dsimp only [List.set]
    have sc1 := sc0.same q1
    have tb1 := ZV tb0 q1
    have step : ∀ {H H' : Hp} {q : Str}, SameX p H H' → StAt H p → ScrAt K H a ns → TabAt H Pt q → ScrAt K H' a ns ∧ TabAt H' Pt q := fun x ⟨u, v, e, _⟩ s t => ⟨s.x x e (fun _ _ z => by cases z), Zc9 t x e (fun _ z => by cases z) (fun _ z => by cases z)⟩
    refine Z9 (Yr ⟨_, rfl, p, rfl, st1, fun vn H2 x2 st2 bb nr => ⟨_, rfl, p, 12, rfl, st2, by omega, by omega, fun b H3 wd hg w1 w2 h1 h2 x3 st3 hb nb => ⟨(by show 2 ≤ sizeLine; decide), fun t ht => ?_⟩⟩⟩)
    obtain ⟨scr2, tab2⟩ := step x2 st1 sc1 tb1
    obtain ⟨scr3, tab3⟩ := step x3 st2 scr2 tab2
    have bb3 := YS bb x3 nr
    have nr3 := W9 bb.1.1 x3 nr.1 nr
    have sT := Zg (o := .tup [vn, V.ref b]) ht
    refine ⟨t, _, rfl, SqT.of Zb, rfl, _, _, rfl, _, _, rfl, rfl, ?_⟩
    dsimp only [List.set]
    generalize upd H3 t (HO.tup [vn, V.ref b]) = H4 at sT
    have nr4 : NoRef p H4 vn := ⟨nr3.1, fun xs e => nr3.2 xs (by rw [← YE bb3.1.1 sT]; exact e)⟩
    have hb4 := sT _ _ hb
    have bd4 : BoardAt H4 (.ref b) wd hg := ⟨Zu hb4, w1, w2, h1, h2⟩
    refine Z9 (Yr ⟨_, rfl, _, rfl, p, b, wd, hg, rfl, st3.same sT, bd4, fun l H5 xs x5 st5 hl nl lay => Z6 ?_⟩)
    dsimp only [List.set]
    obtain ⟨scr5, tab5⟩ := step x5 (st3.same sT) (scr3.same sT) (ZV tab3 sT)
    have bb5 := YS (bb3.same sT) x5 nr4
    have nr5 := W9 (bb3.same sT).1.1 x5 nr4.1 nr4
    have hb5 := x5 _ _ hb4 nb
    have bd5 : BoardAt H5 (.ref b) wd hg := ⟨Zu hb5, w1, w2, h1, h2⟩
    refine Z9 (Yr ⟨_, rfl, _, rfl, p, b, wd, hg, rfl, st5, bd5, fun g H6 ys x6 st6 hgr ng lay2 _ => Z6 ?_⟩)
    dsimp only [List.set]
    obtain ⟨scr6, tab6⟩ := step x6 st5 scr5 tab5
    have bb6 := YS bb5 x6 nr5
    have nr6 := W9 bb5.1.1 x6 nr5.1 nr5
    have hb6 := x6 _ _ hb5 nb
    have hl6 := x6 _ _ hl nl
    have bd6 : BoardAt H6 (.ref b) wd hg := ⟨Zu hb6, w1, w2, h1, h2⟩
    refine Z9 (Yr ⟨_, rfl, _, rfl, _, rfl, p, b, l, wd, hg, xs, rfl, st6, bd6, hl6, lay, fun vb H7 x7 st7 bl => Z6 ?_⟩)
    dsimp only [List.set]
    obtain ⟨scr7, tab7⟩ := step x7 st6 scr6 tab6
    have bb7 := YS bb6 x7 nr6
    have hb7 := x7 _ _ hb6 nb
    have bd7 : BoardAt H7 (.ref b) wd hg := ⟨Zu hb7, w1, w2, h1, h2⟩
    have hl7 := x7 _ _ hl6 nl
    have hg7 := x7 _ _ hgr ng
    refine Z9 ?_
    refine ⟨_, rfl, _, rfl, _, rfl, g, ys, rfl, SqT.of hg7, fun r hrn => ⟨(by show 3 ≤ sizeLine; decide), fun m hm => ⟨m, rfl, ⟨_, SqL.of Zb⟩, ?_⟩⟩⟩
    have t1 := Zg (o := .tup ys.reverse) hrn
    have e1 : upd H7 r (.tup ys.reverse) r = some (.tup ys.reverse) := Zb
    generalize upd H7 r (HO.tup ys.reverse) = H8 at t1 e1 hm
    have t2 := Zg (o := .lst [V.ref l, .ref g, .ref r]) hm
    have e2 : upd H8 m (.lst [V.ref l, .ref g, .ref r]) m = some (.lst [V.ref l, .ref g, .ref r]) := Zb
    generalize upd H8 m (HO.lst [V.ref l, .ref g, .ref r]) = H9 at t2 e2
    have t12 := t1.trans t2
    have bd9 := bd7.same t12
    have all : ∀ v ∈ [V.ref l, V.ref g, V.ref r], ∃ (x : Addr) (zs : List V), v = .ref x ∧ H9 x = some (.tup zs) ∧ IsLay wd hg zs := fun v hv => by
     simp only [List.mem_cons, List.not_mem_nil, or_false] at hv
     rcases hv with rfl | rfl | rfl
     ·exact ⟨l, xs, rfl, t12 _ _ hl7, lay⟩
     ·exact ⟨g, ys, rfl, t12 _ _ hg7, lay2⟩
     ·exact ⟨r, ys.reverse, rfl, t2 _ _ e1, ZcZ lay2⟩
    refine YQ (xs := [V.ref l, .ref g, .ref r]) (fun i' σ H' => ∃ s4, σ = [some (.ref a), some (.int (i : Int)), some (.ref p), some (.ref g), s4, s5, some vb, some (.ref b), s8, some (.ref l), some vn] ∧ Same H9 H') ⟨_, rfl, Same.refl _⟩ (fun i' σ H' _ ⟨_, _, s⟩ => SqL.of (s _ _ e2)) ?_ ?_
    ·rintro i' v σ H' hv ⟨s4, rfl, s9⟩
     obtain ⟨x, zs, rfl, hx, lz⟩ := all v (List.mem_of_getElem? hv)
     refine Z6 ⟨_, rfl, _, rfl, .ref b, .ref x, wd, hg, zs, rfl, ⟨bd9.same s9, Zu (s9 _ _ hx), lz⟩, fun H'' s10 => ⟨_, rfl, iteF ?_⟩⟩
     exact ⟨_, rfl, s9.trans s10⟩
    rintro σ Ha ⟨s4, rfl, sa⟩
    have s7a := t12.trans sa
    have scra := scr7.same s7a
    have taba := ZV tab7 s7a
    have bba := bb7.same s7a
    have bda := bd7.same s7a
    have bla := bl.same s7a
    refine ⟨(by show 3 ≤ sizeLine; decide), fun M hM => ⟨M, rfl, ⟨_, SqL.of Zb⟩, ?_⟩⟩
    have u1 := Zg (o := .lst [V.ref gS, .ref gU, .ref gF]) hM
    have eM : upd Ha M (.lst [V.ref gS, .ref gU, .ref gF]) M = some (.lst [V.ref gS, .ref gU, .ref gF]) := Zb
    generalize upd Ha M (HO.lst [V.ref gS, .ref gU, .ref gF]) = Hb at u1 eM
    have every : ∀ v ∈ [V.ref gS, V.ref gU, V.ref gF], ∃ (gf : Addr) (fn : Str) (k' : Nat), v = .ref gf ∧ k' ≤ 11 ∧ mg fn = some (.ref gf) ∧ ∀ b', DefR P w K mg b' k' fn ["board", "lay"] (spX K cB cL) := fun v hv => by
     simp only [List.mem_cons, List.not_mem_nil, or_false] at hv
     rcases hv with rfl | rfl | rfl
     ·exact ⟨gS, "steps", 9, rfl, by decide, mS, hS⟩
     ·exact ⟨gU, "is_unlike", 11, rfl, by decide, mU, hU⟩
     ·exact ⟨gF, "first_like", 10, rfl, by decide, mF, hF⟩
    refine YQ (xs := [V.ref gS, .ref gU, .ref gF]) (fun i' σ H' => ∃ s5 s8, σ = [some (.ref a), some (.int (i : Int)), some (.ref p), some (.ref g), s4, s5, some vb, some (.ref b), s8, some (.ref l), some vn] ∧ SameX Pt Hb H' ∧ TabAt H' Pt (lq (cxOf CX0 P w K mg base nLaw "law" (defScope sLaw) f (.ref c) A outer s H E).nox)) ⟨_, _, rfl, SameX.refl _ _, ZV taba u1⟩ (fun i' σ H' _ ⟨_, _, _, s, _⟩ => SqL.of (s _ _ eM (by
     obtain ⟨ps, e, _⟩ := ZV taba u1
     exact Yl eM e (by intro z; cases z)))) ?_ ?_
    ·rintro i' v σ Hc hv ⟨s5, s8, rfl, xc, tabc⟩
     obtain ⟨gf, fn, k', rfl, hk', mf, hf⟩ := every v (List.mem_of_getElem? hv)
     have ezb : ∃ ps, Hb Pt = some (.tbl ps) := by
      obtain ⟨ps, e, _⟩ := ZV taba u1
      exact ⟨ps, e⟩
     obtain ⟨pb, epb⟩ := ezb
     have bbb := bba.same u1
     have blb := bla.same u1
     have bdb := bda.same u1
     have bbc := YS bbb xc (ZR bbb.1 epb)
     have blc := Jz blb xc (ZR blb.1 epb)
     have bdc := YD bdb xc epb
     have ref0 : ∀ {H1 H2 : Hp} {y : V}, BadBoard K H1 vn → (∃ ps, H1 Pt = some (.tbl ps)) → SameX Pt H1 H2 → Refuses (spX K cB cL) [vn, y] cB H2 := fun b1 ⟨ps, e⟩ x Q' E' hE => ⟨vn, _, cB, rfl, .inl ⟨rfl, YS b1 x (ZR b1.1 e)⟩, hE⟩
     have ref1 : ∀ {H1 H2 : Hp}, BoardAt H1 (.ref b) wd hg → BadL K wd hg H1 vb → (∃ ps, H1 Pt = some (.tbl ps)) → SameX Pt H1 H2 → Refuses (spX K cB cL) [.ref b, vb] cL H2 := fun b1 b2 ⟨ps, e⟩ x Q' E' hE => ⟨.ref b, vb, cL, rfl, .inr ⟨rfl, wd, hg, YD b1 x e, (Jz b2 x (ZR b2.1 e)).1, (Jz b2 x (ZR b2.1 e)).2⟩, hE⟩
     have tb : ∀ {H1 : Hp} {q : Str}, TabAt H1 Pt q → ∃ ps, H1 Pt = some (.tbl ps) := fun ⟨ps, e, _⟩ => ⟨ps, e⟩
     refine Z6 ?_
     dsimp only [List.set]
     refine Z9 (Yr ⟨[.ref gf, vn, vb], cB, 0, Refuses (spX K cB cL) [vn, vb] cB, rfl, places3 rfl rfl rfl, tabc, .inl rfl, M0, fun f' => bodyV hk' hf mf rfl rfl rfl rfl rfl rfl rfl, fun H' x => ref0 bbc (tb tabc) x, fun l1 Hd xd tabd nl1 hl1 => ⟨(by show 1 ≤ sizeLine; decide), fun L hL => Z6 ?_⟩⟩)
     dsimp only [List.set]
     have v1 := Zg (o := .lst [V.ref l1]) hL
     have eL : upd Hd L (.lst [V.ref l1]) L = some (.lst [V.ref l1]) := Zb
     generalize upd Hd L (HO.lst [V.ref l1]) = He at v1 eL
     have tabe := ZV tabd v1
     have hl1e := v1 _ _ hl1
     have bbe := (YS bbc xd (ZR bbc.1 (tb tabc).choose_spec)).same v1
     have ble := (Jz blc xd (ZR blc.1 (tb tabc).choose_spec)).same v1
     have bde := (YD bdc xd (tb tabc).choose_spec).same v1
     have nT : ∀ {H1 : Hp} {q : Str} {xs : List V} {m : Addr}, H1 m = some (.lst xs) → TabAt H1 Pt q → m ≠ Pt := fun h ⟨ps, e, _⟩ z => by rw [z, e] at h; cases h
     have nLl : l1 ≠ L := Zd hl1 hL
     refine Z9 ⟨_, rfl, .inl ⟨rfl, _, SqL.of eL⟩, [.ref gf, vn, .ref l], cB, 0, Refuses (spX K cB cL) [vn, .ref l] cB, rfl, places3 rfl rfl rfl, tabe, .inl rfl, M0, fun f' => bodyV hk' hf mf rfl rfl rfl rfl rfl rfl rfl, fun H' x => ref0 bbe (tb tabe) x, fun l2 Hf xf tabf nl2 hl2 => ?_⟩
     have eLf := xf _ _ eL (nT eL tabe)
     have hl1f := xf _ _ hl1e (nT hl1e tabe)
     have nl2L : l2 ≠ L := fun z => by rw [z, eL] at nl2; cases nl2
     refine ⟨L, [V.ref l1], _, rfl, rfl, eLf, (by show 1 < sizeLine; decide), ?_⟩
     have xg : SameX L Hf (upd Hf L (.lst ([V.ref l1] ++ [V.ref l2]))) := SameX.upd
     have eLg : upd Hf L (.lst ([V.ref l1] ++ [V.ref l2])) L = some (.lst ([V.ref l1] ++ [V.ref l2])) := Zb
     generalize upd Hf L (HO.lst ([V.ref l1] ++ [V.ref l2])) = Hg at xg eLg
     have tabg := Zc9 tabf xg eLf (fun _ z => by cases z) (fun _ z => by cases z)
     have hl1g := xg _ _ hl1f nLl
     have hl2g := xg _ _ hl2 nl2L
     have bbd := YS bbc xd (ZR bbc.1 (tb tabc).choose_spec)
     have bld := Jz blc xd (ZR blc.1 (tb tabc).choose_spec)
     have bdd := YD bdc xd (tb tabc).choose_spec
     have xdg : SameX Pt Hd Hg := fun c o hc hn => xg _ _ (xf _ _ (v1 _ _ hc) hn) (Zd hc hL)
     have blg := Jz bld xdg (ZR bld.1 (tb tabd).choose_spec)
     have bdg := YD bdd xdg (tb tabd).choose_spec
     refine ⟨_, rfl, [.ref gf, .ref b, vb], cL, 1, Refuses (spX K cB cL) [.ref b, vb] cL, rfl, places3 rfl rfl rfl, tabg, .inr rfl, M1, fun f' => bodyV hk' hf mf rfl rfl rfl rfl rfl rfl rfl, fun H' x => ref1 bdg blg (tb tabg) x, fun l3 Hh xh tabh nl3 hl3 => ⟨(by show 1 ≤ sizeLine; decide), fun N hN => ?_⟩⟩
     have eLh := xh _ _ eLg (nT eLg tabg)
     have hl1h := xh _ _ hl1g (nT hl1g tabg)
     have hl2h := xh _ _ hl2g (nT hl2g tabg)
     have w1' := Zg (o := .lst [V.ref l3]) hN
     have eN : upd Hh N (.lst [V.ref l3]) N = some (.lst [V.ref l3]) := Zb
     generalize upd Hh N (HO.lst [V.ref l3]) = Hi at w1' eN
     refine ⟨L, N, _, _, rfl, rfl, w1' _ _ eLh, eN, (by show 3 ≤ sizeLine; decide), fun U hU' => ?_⟩
     have w2' := Zg (o := .lst ([V.ref l1] ++ [V.ref l2] ++ [V.ref l3])) hU'
     have eU : upd Hi U (.lst ([V.ref l1] ++ [V.ref l2] ++ [V.ref l3])) U = some (.lst ([V.ref l1] ++ [V.ref l2] ++ [V.ref l3])) := Zb
     generalize upd Hi U (HO.lst ([V.ref l1] ++ [V.ref l2] ++ [V.ref l3])) = Hj at w2' eU
     refine ⟨(by show 1 ≤ sizeLine; decide), fun q1 hq1 => ?_⟩
     have y1 := Zg (o := .lst [V.int 0]) hq1
     have z1 : upd Hj q1 (.lst [V.int 0]) q1 = some (.lst [V.int 0]) := Zb
     generalize upd Hj q1 (HO.lst [V.int 0]) = Hk at y1 z1
     refine ⟨(by show 1 ≤ sizeLine; decide), fun q2 hq2 => ?_⟩
     have y2 := Zg (o := .lst [V.int 0]) hq2
     have z2 : upd Hk q2 (.lst [V.int 0]) q2 = some (.lst [V.int 0]) := Zb
     generalize upd Hk q2 (HO.lst [V.int 0]) = Hl at y2 z2
     refine ⟨(by show 1 ≤ sizeLine; decide), fun q3 hq3 => ?_⟩
     have y3 := Zg (o := .lst [V.int 1]) hq3
     have z3 : upd Hl q3 (.lst [V.int 1]) q3 = some (.lst [V.int 1]) := Zb
     generalize upd Hl q3 (HO.lst [V.int 1]) = Hm at y3 z3
     refine ⟨(by show 3 ≤ sizeLine; decide), fun q4 hq4 => ?_⟩
     have y4 := Zg (o := .lst [V.ref q1, V.ref q2, V.ref q3]) hq4
     have z4 : upd Hm q4 (.lst [V.ref q1, V.ref q2, V.ref q3]) q4 = some (.lst [V.ref q1, V.ref q2, V.ref q3]) := Zb
     show rSameL K false (.ref U) (.ref q4) (upd Hm q4 (.lst [V.ref q1, V.ref q2, V.ref q3])) _
     generalize upd Hm q4 (HO.lst [V.ref q1, V.ref q2, V.ref q3]) = Hn at y4 z4
     have y34 := y3.trans y4
     have y24 := y2.trans y34
     have yj := y1.trans y24
     have yh := w1'.trans (w2'.trans yj)
     refine ⟨U, q4, _, _, rfl, rfl, SqL.of (yj _ _ eU), SqL.of z4, ?_, false, rfl, iteF ?_⟩
     ·refine .cons (.inr ⟨l1, q1, [0], rfl, rfl, SqL.of (yh _ _ hl1h), SqL.of (y24 _ _ z1)⟩) (.cons (.inr ⟨l2, q2, [0], rfl, rfl, SqL.of (yh _ _ hl2h), SqL.of (y34 _ _ z2)⟩) (.cons (.inr ⟨l3, q3, [1], rfl, rfl, SqL.of (yh _ _ hl3), SqL.of (y4 _ _ z3)⟩) .nil))
     exact ⟨_, _, rfl, xc.trans (xd.trans (xdg.trans (xh.trans yh.x))), ZV tabh yh⟩
    ·rintro σ Hc ⟨s5, s8, rfl, xc, tabc⟩
     obtain ⟨ps, ep, _⟩ := ZV taba u1
     exact ⟨_, _, _, _, _, _, _, _, _, _, rfl, (scra.same u1).x xc ep (fun _ _ z => by cases z), tabc⟩
   ·rintro σ H1 _
    refine ⟨(by show 2 ≤ sizeLine; decide), fun p1 hp1 => ⟨(by show 3 ≤ sizeLine; decide), fun p2 hp2 => ?_⟩⟩
    have y1 := Zg (o := .tup [V.int 3, .int 3]) hp1
    have z1 : upd H1 p1 (.tup [V.int 3, .int 3]) p1 = some (.tup [V.int 3, .int 3]) := Zb
    generalize upd H1 p1 (HO.tup [V.int 3, .int 3]) = H2 at y1 z1 hp2
    have y2 := Zg (o := .tup [V.int 0, .int 1, .int 2]) hp2
    have z2 : upd H2 p2 (.tup [V.int 0, .int 1, .int 2]) p2 = some (.tup [V.int 0, .int 1, .int 2]) := Zb
    generalize upd H2 p2 (HO.tup [V.int 0, .int 1, .int 2]) = H3 at y2 z2
    refine ⟨.ref p1, .ref p2, 3, 3, [.int 0, .int 1, .int 2], rfl, ⟨⟨Zu (y2 _ _ z1), by decide, by decide, by decide, by decide⟩, Zu z2, ⟨rfl, by decide, by decide⟩⟩, fun H4 v r s4 hfr ho => ?_⟩
    have er := FirstIs.unique (fun _ => Iff.rfl) hfr Zck
    subst er
    obtain ⟨tv, rfl, hv⟩ := (show QdAt H4 v (0, 1, 1, 2) from ho)
    refine ⟨(by show 4 ≤ sizeLine; decide), fun p3 hp3 => ?_⟩
    have y3 := Zg (o := .tup [V.int 0, .int 1, .int 1, .int 2]) hp3
    refine ⟨tv, p3, [0, 1, 1, 2], [0, 1, 1, 2], rfl, rfl, SqT.of (y3 _ _ hv), SqT.of Zb, _, rfl, iteT ?_⟩
    generalize upd H4 p3 (HO.tup [V.int 0, .int 1, .int 1, .int 2]) = H5
    refine ⟨(by show 2 ≤ sizeLine; decide), fun p4 hp4 => ⟨(by show 2 ≤ sizeLine; decide), fun p5 hp5 => ?_⟩⟩
    have y4 := Zg (o := .tup [V.int 2, .int 2]) hp4
    have z4 : upd H5 p4 (.tup [V.int 2, .int 2]) p4 = some (.tup [V.int 2, .int 2]) := Zb
    generalize upd H5 p4 (HO.tup [V.int 2, .int 2]) = H6 at y4 z4 hp5
    have y5 := Zg (o := .tup [V.int 1, .int 0]) hp5
    have z5 : upd H6 p5 (.tup [V.int 1, .int 0]) p5 = some (.tup [V.int 1, .int 0]) := Zb
    generalize upd H6 p5 (HO.tup [V.int 1, .int 0]) = H7 at y5 z5
    refine ⟨.ref p4, .ref p5, 2, 2, [.int 1, .int 0], rfl, ⟨⟨Zu (y5 _ _ z4), by decide, by decide, by decide, by decide⟩, Zu z5, ⟨rfl, by decide, by decide⟩⟩, fun tl H8 rs ks s8 hn8 h8 pr8 perm8 rise8 => ?_⟩
    rw [Zcj] at perm8
    have ek := List.perm_singleton.mp perm8
    subst ek
    refine ⟨1, rfl, (by show 2 ≤ sizeLine; decide), fun p6 hp6 => ?_⟩
    have y6 := Zg (o := .tup [V.int 1, .int (-1)]) hp6
    have z6 : upd H8 p6 (.tup [V.int 1, .int (-1)]) p6 = some (.tup [V.int 1, .int (-1)]) := Zb
    generalize upd H8 p6 (HO.tup [V.int 1, .int (-1)]) = H9 at y6 z6
    refine ⟨(by show 3 ≤ sizeLine; decide), fun p7 hp7 => ?_⟩
    have y7 := Zg (o := .tup [V.ref p6, .int 0, .int 1]) hp7
    have z7 : upd H9 p7 (.tup [V.ref p6, .int 0, .int 1]) p7 = some (.tup [V.ref p6, .int 0, .int 1]) := Zb
    generalize upd H9 p7 (HO.tup [V.ref p6, .int 0, .int 1]) = H10 at y7 z7
    refine ⟨(by show 1 ≤ sizeLine; decide), fun p8 hp8 => ?_⟩
    have y8 := Zg (o := .lst [V.ref p7]) hp8
    have y68 := y6.trans (y7.trans y8)
    exact ⟨tl, p8, rs, _, [(1, -1, 0, 1)], rfl, rfl, SqL.of (y68 _ _ h8), SqL.of Zb, Paired.mapP pr8 fun v q' hq => StepAt.same hq y68, .cons ⟨p7, p6, rfl, y8 _ _ z7, (y7.trans y8) _ _ z6⟩ .nil, q _⟩
  obtain ⟨t, ht, hq⟩ := main
  exact ⟨t, ht.nox, hq⟩
end
end U
set_option Elab.async false
set_option linter.all false
set_option maxRecDepth 100000
namespace U
open PySem L2 PyProof.Rows PySem.Spec
def BmAt (mg : Str → Option Value) (h : Heap) : Prop := ∃ bm ob, mg "__builtins__" = some (.ref bm) ∧ bm ≠ builtinsNs ∧ h.get? bm = some ob ∧ ob.cls = .type "module" ∧ ob.dict = some builtinsNs ∧ ob.data = .plain
theorem Zag {P : Program} {w : World} {K : PySem.W.Frag} {mg mb : Str → Option Value} {k : Nat} {fa a : Addr} {Pts : List Addr} {fd : FuncData} {x : Str} {sp : Sp} {s₁ : Shared} {vs : List Value} {ns : List Int}
  (KX : K.In s₁.heap) (hns : s₁.heap.Ns mainGlobals mg) (hb : s₁.heap.Ns builtinsNs mb) (hbb : ∀ x : Str, x ≠ "__name__" → mb x = bootBuiltins x) (hlim : s₁.heap.NoLimit) (hg : s₁.gens = #[])
  (ha : s₁.heap.get? a = some { cls := .type "list", data := .seq vs.toArray }) (hi : IntsAre vs ns) (hl : ns.length ≤ sizeLine) (hr : Room k callerA)
  (hTs : ∀ Pt ∈ Pts, s₁.heap.get? Pt = some (PySem.W.tabObj #[])) (hCs : ∀ Pt ∈ Pts, ∃ c, PySem.W.CodeHd s₁.heap c Pt) (hKPs : ∀ Pt ∈ Pts, K.lookup Pt = none) (hbm : BmAt mg s₁.heap)
  (F : ∀ base : Heap, K.In base → base.Ns mainGlobals mg → BmAt mg base → FnOk P w K mg base CX0 k fa fd [x] sp) (hbind : ∀ (s : Shared) (u : Value), BindsTo s fd ⟨[u], []⟩ [(x, u)])
  (hsp : ∀ H : Hp, ScrAt K H a ns → (∀ Pt ∈ Pts, H Pt = some (.tbl #[])) → sp [.ref a] H (fun v _ => v = .bl true) fun _ _ _ => False) :
  codeAny (model P w) callerA (.call (.ref fa) ⟨[.ref a], []⟩) (fun r s' => r = .ok (.ret (.bool true)) ∧ OldK s₁.heap s'.heap ∧ s'.os = s₁.os ∧ AllBare s'.gens) s₁ := by
 have rv := WE hi
 have lenV := hi.length
 have hT' : ∀ {Pt : Addr}, Pt ∈ Pts → s₁.heap.get? Pt = some { cls := .none, data := .fields #[] } := fun h => hTs _ h
 have hPa : a ∉ Pts := fun z => by have h := hT' z; rw [ha] at h; cases h
 have core : ∀ H : Hp, (∀ b, b ∉ Pts → H b = none ∨ ∃ o xs, H b = some (.frz o (.lst xs))) → ScrAt K H a ns → (∀ Pt ∈ Pts, H Pt = some (.tbl #[])) → HOk P w H s₁.heap → (∀ b, H b ≠ none → b = a ∨ b ∈ Pts) → (H a ≠ none → K.lookup a = none) →
   codeAny (model P w) callerA (.call (.ref fa) ⟨[.ref a], []⟩) (fun r s' => r = .ok (.ret (.bool true)) ∧ OldK s₁.heap s'.heap ∧ s'.os = s₁.os ∧ AllBare s'.gens) s₁ := by
  intro H hO hS hP hok hA hK
  have base_of : ∀ {b : Addr} {o : Obj}, s₁.heap.get? b = some o → H b = none → (hidT s₁.heap H).get? b = some o := fun e n => UJ e n
  have noA : ∀ {b : Addr} {o : Obj}, s₁.heap.get? b = some o → (∀ vs n, o.data ≠ .seq vs n) → (∀ ps, o.data ≠ .fields ps) → H b = none := fun {b o} e d1 d2 => by
   cases q : H b with
   | none => rfl
   | some u =>
    rcases hA b (by rw [q]; simp) with e' | e'
    ·subst e'
     rw [ha] at e; cases e
     exact absurd rfl (d1 _ _)
    ·rw [hT' e'] at e; cases e
     exact absurd rfl (d2 _)
  have nsK : ∀ {b : Addr} {m : Str → Option Value}, s₁.heap.Ns b m → (hidT s₁.heap H).Ns b m := fun {b m} ⟨o, es, ep, e, d, r⟩ => ⟨o, es, ep, base_of e (noA e (fun _ _ z => by rw [d] at z; cases z) fun _ z => by rw [d] at z; cases z), d, r⟩
  have hKb : K.In (hidT s₁.heap H) := fun b o e => base_of (KX b o e) (by
   cases q : H b with
   | none => rfl
   | some u =>
    rcases hA b (by rw [q]; simp) with e' | e'
    ·subst e'
     rw [hK (by rw [q]; simp)] at e; cases e
    ·rw [hKPs _ e'] at e; cases e)
  have hM : Mod K mg (hidT s₁.heap H) := ⟨hKb, nsK hns, ⟨mb, nsK hb, hbb⟩, let ⟨mc, h1, h2⟩ := hlim; ⟨mc, nsK h1, h2⟩⟩
  have hbm' : BmAt mg (hidT s₁.heap H) := let ⟨bm, ob, b1, b2, b3, b4, b5, b6⟩ := hbm; ⟨bm, ob, b1, b2, base_of b3 (noA b3 (fun _ _ z => by rw [b6] at z; cases z) fun _ z => by rw [b6] at z; cases z), b4, b5, b6⟩
  have e0 : Env0 P w K mg (hidT s₁.heap H) callerA [] s₁ H := ⟨rfl, hM, fun b o e => Zaz e, Nat.le_of_eq (WP _ _), trivial, fun b hb => absurd (show b ∈ ([] : List Addr) from hb) (by simp), hok, .of_eq hg⟩
  refine codeAny_mono ((F _ hKb (nsK hns) hbm').run callerA [] s₁ H ⟨[.ref a], []⟩ [.ref a] [.ref a] _ _ hr e0 (hbind s₁ (.ref a)) (.cons rfl .nil) (hsp H hS hP)) fun r s' h => ?_
  cases r with
  | error e => exact False.elim h
  | ok fl =>
   cases fl with
   | next => exact False.elim h
   | brk => exact False.elim h
   | cont => exact False.elim h
   | ret u =>
    obtain ⟨v, H', os, bare, un, hok', r', q⟩ := h
    have q' : v = .bl true := q
    subst q'
    obtain rfl : u = Value.bool true := r'
    have old : ∀ b o, s₁.heap.get? b = some o → asItWas s₁.heap s'.heap b o := fun b o e => by
     cases q : H b with
     | none => exact .inl (un.keep b o e q (by intro z; exact absurd (show b ∈ ([] : List Addr) from z) (by simp)) (by simp))
     | some u =>
      by_cases hbP : b ∈ Pts
      ·obtain ⟨more, z⟩ := un.tbls b _ (hP b hbP)
       have e2 : s'.heap.get? b = some { cls := .none, data := .fields (#[] ++ more) } := hok' b _ z
       rw [hT' hbP] at e
       cases e
       obtain ⟨c, hC⟩ := hCs b hbP
       exact .inr (.inl ⟨(hC.tab (hTs b hbP)).isCodeTable, rfl, #[], more, rfl, e2⟩)
      ·rcases hO b hbP with z | ⟨ob, xs, z⟩
       ·rw [q] at z; cases z
       ·have z2 := un.frzs b ob _ z
        obtain ⟨e1, _⟩ := hok b _ z
        obtain ⟨e2, _⟩ := hok' b _ z2
        rw [e] at e1; cases e1
        exact .inl e2
    exact ⟨rfl, ⟨old, fun b o e => un.there b o e (by simp)⟩, os, bare⟩
 cases hk : K.lookup a with
 | some o =>
  have e := KX a o hk
  rw [ha] at e
  cases e
  refine core (fun b => if b ∈ Pts then some (.tbl #[]) else none) (fun b n => .inl (if_neg n)) (.inr ⟨_, vs.toArray, _, hk, rfl, rfl, rfl, by rw [List.size_toArray, lenV]; exact hl, by simpa using rv⟩) (fun Pt h => if_pos h) (fun b u z => ?_) (fun b z => ?_) fun z => absurd (if_neg hPa) z
  ·by_cases hb : b ∈ Pts
   ·have z' := (if_pos hb).symm.trans z
    cases z'
    exact hT' hb
   ·have z' := (if_neg hb).symm.trans z
    cases z'
  ·by_cases hb : b ∈ Pts
   ·exact .inr hb
   ·exact absurd (if_neg hb) z
 | none =>
  refine core (fun b => if b ∈ Pts then some (.tbl #[]) else if b = a then some (.frz { cls := .type "list", data := .seq vs.toArray } (.lst (ns.map V.int))) else none) (fun b n => ?_) (.inl ⟨{ cls := .type "list", data := .seq vs.toArray }, (if_neg hPa).trans (if_pos rfl)⟩) (fun Pt h => if_pos h) (fun b u z => ?_) (fun b z => ?_) fun _ => hk
  ·by_cases hb : b = a
   ·exact .inr ⟨_, _, (if_neg n).trans (if_pos hb)⟩
   ·exact .inl ((if_neg n).trans (if_neg hb))
  ·by_cases hP : b ∈ Pts
   ·have z' := (if_pos hP).symm.trans z
    cases z'
    exact hT' hP
   ·by_cases hb : b = a
    ·have z' := ((if_neg hP).trans (if_pos hb)).symm.trans z
     cases z'
     subst hb
     exact ⟨ha, by rw [List.length_map]; exact hl, vs, _, rv, ha⟩
    ·have z' := ((if_neg hP).trans (if_neg hb)).symm.trans z
     cases z'
  ·by_cases hP : b ∈ Pts
   ·exact .inr hP
   ·by_cases hb : b = a
    ·exact .inl hb
    ·exact absurd ((if_neg hP).trans (if_neg hb)) z
theorem walk_ofTs {l : PySem.W.OpenLaw} {n k : Nat} {q : Program} {loose : List Str} {XP : (Str → Option Value) → Heap → Prop} {YP : World → Heap → Prop} {d : DefRec} {K : Params → PySem.W.Frag} {sp : PySem.W.Frag → Sp} {x : Str} {Pts : List Addr}
    (hn : l.most = some n) (hn2 : n ≤ sizeLine) (hdf : d.params.defaults = []) (hr : Room k callerA)
    (hY : ∀ (w : World) (h : Heap), YP w h → (K w.params).In h) (hYT : ∀ (w : World) (h : Heap), YP w h → ∀ Pt ∈ Pts, h.get? Pt = some (PySem.W.tabObj #[]))
    (hC : ∀ (w : World) (h : Heap), (K w.params).In h → ∀ Pt ∈ Pts, ∃ c, PySem.W.CodeHd h c Pt) (hKP : ∀ w : World, ∀ Pt ∈ Pts, (K w.params).lookup Pt = none)
    (F : ∀ (w : World) (mg : Str → Option Value) (fa : Addr) (h : Heap), (K w.params).In h → h.Ns mainGlobals mg → mg d.name = some (.ref fa) →
      ∃ fd : FuncData, (∀ (s : Shared) (u : Value), BindsTo s fd ⟨[u], []⟩ [(x, u)]) ∧
        ∀ base : Heap, (K w.params).In base → base.Ns mainGlobals mg → BmAt mg base → FnOk l.prog w (K w.params) mg base CX0 k fa fd [x] (sp (K w.params)))
    (hsp : ∀ (K : PySem.W.Frag) (H : Hp) (a : Addr) (ns : List Int), ns.length ≤ n → ScrAt K H a ns → (∀ Pt ∈ Pts, H Pt = some (.tbl #[])) → sp K [.ref a] H (fun v _ => v = .bl true) fun _ _ _ => False) :
    PySem.W.WalkO q loose XP YP l.row.toRowW d [] (fun f vs => PySem.call f vs) := by
  refine Att.attach_call hn hdf fun w s₀ s₁ mg mb fa o pm cd doc a vs ns G Y ho hd hcd hmg hobj hints hlen hg => ?_
  have KX := hY w _ Y
  obtain ⟨fd, hb, hF⟩ := F w mg fa _ KX G.T.g hmg
  exact Zag KX G.T.g G.T.b G.T.builtins G.T.nolimit hg hobj hints (Nat.le_trans hlen hn2) hr (hYT w _ Y) (hC w _ KX) (hKP w) G.T.bmain hF hb (fun H hS hP => hsp (K w.params) H a ns hlen hS hP)
end U
set_option Elab.async false
set_option linter.all false
set_option maxRecDepth 100000
namespace U
open PySem L2 PyProof.Rows PySem.Spec
def DefAt (K : PySem.W.Frag) (x : Str) (st : Stmt) : Prop := ∃ f fd, PySem.W.nsIn K mainGlobals x = some (some (.ref f)) ∧ Fun K x x st f fd
theorem defAt_mk {K : PySem.W.Frag} {x : Str} {st : Stmt} {f : Addr} {oc : Value} {od an : Option Addr} {osl : Array (Option Value)} {kV doc pm cdv ct : Value} (e1 : PySem.W.nsIn K mainGlobals x = some (some (.ref f)))
  (e2 : K.lookup f = some ⟨oc, od, .func (PySem.W.fnOf x x (defArgs st) (defBody st) (defScope st) .none kV doc pm an cdv ct), osl⟩) (e3 : PySem.W.codeIn K cdv x = true) (e4 : PySem.W.keepIn K (.ref f) = true) : DefAt K x st := ⟨f, _, e1, ZdH e2 e3 e4⟩
section
variable {P : Program} {w : World} {K : PySem.W.Frag} {mg : Str → Option Value} {base : Heap}
abbrev BindsAs (x : Str) (st : Stmt) (ps : List Str) : Prop := ∀ (kV doc pm : Value) (an : Option Addr) (cdv ct : Value) (us : List Value), us.length = ps.length → bindArgs (PySem.W.fnOf x x (defArgs st) (defBody st) (defScope st) .none kV doc pm an cdv ct) ⟨us, []⟩ = pure (ps.zip us)
theorem DefAt.to {h : Heap} {x : Str} {st : Stmt} {ps : List Str} {k : Nat} {sp : Sp} (d : DefAt K x st) (KX : K.In h) (G : h.Ns mainGlobals mg) (hb : BindsAs x st ps) (ok : ∀ f fd, Fun K x x st f fd → FnOk P w K mg base CX0 k f fd ps sp) : Def P w K mg base k x ps sp := by
 obtain ⟨f, fd, e, F⟩ := d
 exact ⟨f, fd, ok f fd F, PySem.W.mg_of KX G e, F.kp, F.binds hb⟩
theorem DefAt.toR {h : Heap} {x : Str} {st : Stmt} {ps : List Str} {k : Nat} {sp : Sp} (d : DefAt K x st) (KX : K.In h) (G : h.Ns mainGlobals mg) (hb : BindsAs x st ps) (ok : ∀ f fd, Fun K x x st f fd → FnOk P w K mg base (CXR P w) k f fd ps sp) : DefR P w K mg base k x ps sp := by
 obtain ⟨f, fd, e, F⟩ := d
 exact ⟨f, fd, ok f fd F, PySem.W.mg_of KX G e, F.kp, F.binds hb⟩
def noneAt (K : PySem.W.Frag) (x : Str) : Bool := match PySem.W.nsIn K mainGlobals x with | some none => true | _ => false
theorem Za6 {h : Heap} {x : Str} (KX : K.In h) (G : h.Ns mainGlobals mg) (e : noneAt K x = true) : mg x = none := by
 unfold noneAt at e
 split at e
 ·rename_i q
  exact PySem.W.mg_none_of KX G q
 ·cases e
abbrev gsNames : List Str := ["isinstance", "int", "bool", "tuple", "list", "len", "all", "set", "range", "max", "min", "enumerate", "zip", "sorted", "sum", "ValueError"]
theorem ZdP {h : Heap} {tt : Tok} (KX : K.In h) (G : h.Ns mainGlobals mg) (e : gsNames.all (noneAt K) = true) (lo : PySem.W.nsIn K mainGlobals "LONGEST_SIDE" = some (some (.int 12 tt))) : Gs mg ∧ mg "ValueError" = none := by
 have k : ∀ x ∈ gsNames, mg x = none := fun x hx => Za6 KX G (List.all_eq_true.mp e x hx)
 exact ⟨⟨k _ (by simp), k _ (by simp), k _ (by simp), k _ (by simp), k _ (by simp), k _ (by simp), k _ (by simp), k _ (by simp), k _ (by simp), k _ (by simp), k _ (by simp), k _ (by simp), k _ (by simp), k _ (by simp), k _ (by simp), ⟨tt, PySem.W.mg_of KX G lo⟩⟩, k _ (by simp)⟩
def kOk (K : PySem.W.Frag) (C c : Value) (b : Bool) : Bool := match PySem.W.kitOne K C c with | some d => d == b | none => false
theorem Zcb {C c : Value} {b : Bool} (h : kOk K C c b = true) : PySem.W.kitOne K C c = some b := by
 unfold kOk at h
 split at h
 ·rename_i d q
  rw [q, beq_iff_eq.mp h]
 ·cases h
def markOk (K : PySem.W.Frag) (C : Addr) (iC : Nat) : Bool := (List.range 15).all fun i => match PySem.W.nsIn K mainGlobals (nm15.getD i "") with | some (some (.ref c)) => kOk K (.ref C) (.ref c) (decide (i = iC)) | _ => false
def mroOk (K : PySem.W.Frag) (C : Addr) (b : Value) : Bool := match PySem.W.mroIn K C b with | some d => d | none => false
theorem Uy {C : Addr} {b : Value} (h : mroOk K C b = true) : PySem.W.mroIn K C b = some true := by
 unfold mroOk at h
 split at h
 ·rename_i d q
  rw [q, h]
 ·cases h
def exmOk (K : PySem.W.Frag) (C c : Value) : Bool := match PySem.W.exmOne K C c with | some d => d | none => false
theorem Zcf {C c : Value} (h : exmOk K C c = true) : PySem.W.exmOne K C c = some true := by
 unfold exmOk at h
 split at h
 ·rename_i d q
  rw [q, h]
 ·cases h
def excOk (K : PySem.W.Frag) (cS C : Addr) (iC : Nat) : Bool := mroOk K C (.type "object") && mroOk K C (.type "BaseException") && (PySem.W.clsIn K C).isSome && exmOk K (.ref C) (.ref cS) && markOk K C iC && kOk K (.ref C) (.type "ValueError") true && PySem.W.excIn K C bmV "ValueError.__new__"
theorem ZaA {h : Heap} {cS C : Addr} {iC : Nat} (KX : K.In h) (G : h.Ns mainGlobals mg) (mv : mg "ValueError" = none) (ms : mg "StepError" = some (.ref cS)) (e : excOk K cS C iC = true)
  (ga : PySem.W.findIn K (.ref C) "__getattribute__" = some (some (.builtin "BaseException.__getattribute__"))) (hook : PySem.W.findIn K (.ref C) "__getattr__" = some none) (cl : PySem.W.findIn K (.ref C) "__class__" = some (some (.builtin "object.__class__"))) : Mk15 K mg cS C iC ∧ PySem.W.excIn K C bmV "ValueError.__new__" = true := by
 unfold excOk at e
 simp only [Bool.and_eq_true] at e
 obtain ⟨⟨⟨⟨⟨⟨e1, e2⟩, e3⟩, e4⟩, e5⟩, e6⟩, e7⟩ := e
 refine ⟨⟨⟨ga, hook, cl, Uy e1, Uy e2, e3⟩, ms, Zcf e4, fun i hi => ?_, mv, Zcb e6⟩, e7⟩
 have := List.all_eq_true.mp e5 i (List.mem_range.mpr hi)
 split at this
 ·rename_i c q
  exact ⟨c, PySem.W.mg_of KX G q, Zcb this⟩
 ·cases this
set_option maxHeartbeats 4000000 in
theorem law_all {h : Heap} {fa c Pt f cS cB cL : Addr} {oc : Value} {od an : Option Addr} {kV doc pm ct : Value} {osl : Array (Option Value)} {tt : Tok} (KX : K.In h) (G : h.Ns mainGlobals mg) (hmg : mg "law" = some (.ref fa))
  (d0 : DefAt K "is_whole" sWhole) (d1 : DefAt K "is_whole_within" sWithin) (d2 : DefAt K "is_tuple_of" sTupOf) (d3 : DefAt K "is_board" sBoard) (d4 : DefAt K "need_board" sNeedBoard) (d5 : DefAt K "is_lay" sLay) (d6 : DefAt K "need_lay" sNeedLay) (d7 : DefAt K "points" sPoints) (d8 : DefAt K "point_pairs" sPairs) (d9 : DefAt K "steps" sSteps) (d10 : DefAt K "first_like" sFirst) (d11 : DefAt K "is_unlike" sUnl) (d12 : DefAt K "_law_cell_at" sCell) (d13 : DefAt K "_law_state" sState) (d14 : DefAt K "_law_take" sTake) (d15 : DefAt K "_law_refused" sRef) (d16 : DefAt K "_law_board" sDrawB) (d17 : DefAt K "_law_no_board" sNoB) (d18 : DefAt K "_law_lay" sDrawL) (d19 : DefAt K "_law_steps" sLSteps) (d20 : DefAt K "_law_unlike" sLUnlike) (d21 : DefAt K "_law_grown" sGrown) (d22 : DefAt K "_law_no_lay" sNoL) (d23 : DefAt K "_law_same" sSame) (d24 : DefAt K "_law_first" sLFirst) (d25 : DefAt K "_law_right" sRight)
  (l1 : PySem.W.nsIn K mainGlobals "law" = some (some (.ref f))) (l2 : K.lookup f = some ⟨oc, od, .func (PySem.W.fnOf "law" "law" (defArgs sLaw) (defBody sLaw) (defScope sLaw) .none kV doc pm an (.ref c) ct), osl⟩) (l3 : PySem.W.codeIn K (.ref c) "law" = true) (l4 : PySem.W.codeHdIn K c Pt = true)
  (g1 : gsNames.all (noneAt K) = true) (lo : PySem.W.nsIn K mainGlobals "LONGEST_SIDE" = some (some (.int 12 tt)))
  (eB : PySem.W.nsIn K mainGlobals "NoBoard" = some (some (.ref cB))) (eL : PySem.W.nsIn K mainGlobals "NoLay" = some (some (.ref cL))) (eS : PySem.W.nsIn K mainGlobals "StepError" = some (some (.ref cS)))
  (x0 : excOk K cS cB 0 = true) (x1 : excOk K cS cL 1 = true)
  (gaB : PySem.W.findIn K (.ref cB) "__getattribute__" = some (some (.builtin "BaseException.__getattribute__"))) (hoB : PySem.W.findIn K (.ref cB) "__getattr__" = some none) (clB : PySem.W.findIn K (.ref cB) "__class__" = some (some (.builtin "object.__class__")))
  (gaL : PySem.W.findIn K (.ref cL) "__getattribute__" = some (some (.builtin "BaseException.__getattribute__"))) (hoL : PySem.W.findIn K (.ref cL) "__getattr__" = some none) (clL : PySem.W.findIn K (.ref cL) "__class__" = some (some (.builtin "object.__class__"))) :
  ∃ fd : FuncData, (∀ (s : Shared) (u : Value), BindsTo s fd ⟨[u], []⟩ [("_law_script", u)]) ∧ ∀ base : Heap, K.In base → base.Ns mainGlobals mg → BmAt mg base → FnOk P w K mg base CX0 14 fa fd ["_law_script"] (spLaw K Pt) := by
 have e0 := hmg.symm.trans (PySem.W.mg_of KX G l1)
 cases e0
 obtain ⟨gs, mv⟩ := ZdP KX G g1 lo
 obtain ⟨M0, xB⟩ := ZaA KX G mv (PySem.W.mg_of KX G eS) x0 gaB hoB clB
 obtain ⟨M1, xL⟩ := ZaA KX G mv (PySem.W.mg_of KX G eS) x1 gaL hoL clL
 have ex : Exs K mg cB cL := ⟨PySem.W.mg_of KX G eB, xB, PySem.W.mg_of KX G eL, xL⟩
 refine ⟨PySem.W.fnOf "law" "law" (defArgs sLaw) (defBody sLaw) (defScope sLaw) .none kV doc pm an (.ref c) ct, fun s u => .of_eq rfl, fun base kb nb bm => ?_⟩
 have b1 : ∀ {x a : Str} {st : Stmt}, (∀ (kV doc pm : Value) (an : Option Addr) (cdv ct u : Value), bindArgs (PySem.W.fnOf x x (defArgs st) (defBody st) (defScope st) .none kV doc pm an cdv ct) ⟨[u], []⟩ = pure [(a, u)]) → BindsAs x st [a] := fun h kV doc pm an cdv ct us hl => match us, hl with | [u], _ => h kV doc pm an cdv ct u
 have b2 : ∀ {x a b : Str} {st : Stmt}, (∀ (kV doc pm : Value) (an : Option Addr) (cdv ct u v : Value), bindArgs (PySem.W.fnOf x x (defArgs st) (defBody st) (defScope st) .none kV doc pm an cdv ct) ⟨[u, v], []⟩ = pure [(a, u), (b, v)]) → BindsAs x st [a, b] := fun h kV doc pm an cdv ct us hl => match us, hl with | [u, v], _ => h kV doc pm an cdv ct u v
 have b3 : ∀ {x a b c : Str} {st : Stmt}, (∀ (kV doc pm : Value) (an : Option Addr) (cdv ct u v w : Value), bindArgs (PySem.W.fnOf x x (defArgs st) (defBody st) (defScope st) .none kV doc pm an cdv ct) ⟨[u, v, w], []⟩ = pure [(a, u), (b, v), (c, w)]) → BindsAs x st [a, b, c] := fun h kV doc pm an cdv ct us hl => match us, hl with | [u, v, w], _ => h kV doc pm an cdv ct u v w
 have good : ∀ b' : Heap, (Def P w K mg b' 9 "steps" ["board", "lay"] spSteps ∧ DefR P w K mg b' 9 "steps" ["board", "lay"] (spX K cB cL)) ∧ (Def P w K mg b' 10 "first_like" ["board", "lay"] spFirst ∧ DefR P w K mg b' 10 "first_like" ["board", "lay"] (spX K cB cL)) ∧ (Def P w K mg b' 11 "is_unlike" ["board", "lay"] spUnl ∧ DefR P w K mg b' 11 "is_unlike" ["board", "lay"] (spX K cB cL)) := fun b' => by
  have D19 : Def P w K mg b' 1 "is_whole" ["thing"] (spWhole K) := d0.to KX G (b1 fun _ _ _ _ _ _ _ => rfl) fun f fd F => ZbO F gs
  have D20 : Def P w K mg b' 2 "is_whole_within" ["thing", "least", "most"] (spWithin K) := d1.to KX G (b3 fun _ _ _ _ _ _ _ _ _ => rfl) fun f fd F => ZaX F D19
  have D21 : Def P w K mg b' 1 "is_tuple_of" ["thing", "many"] (spTupOf K) := d2.to KX G (b2 fun _ _ _ _ _ _ _ _ => rfl) fun f fd F => ZbP F gs
  have D22 : Def P w K mg b' 3 "is_board" ["thing"] (spBoard K) := d3.to KX G (b1 fun _ _ _ _ _ _ _ => rfl) fun f fd F => ZbY F gs D21 D20
  have D23 : Def P w K mg b' 4 "need_board" ["board"] (spNeedBoard K) := d4.to KX G (b1 fun _ _ _ _ _ _ _ => rfl) fun f fd F => W8 F D22
  have D24 : Def P w K mg b' 5 "is_lay" ["board", "thing"] (spLay K) := d5.to KX G (b2 fun _ _ _ _ _ _ _ _ => rfl) fun f fd F => ZdA F gs D23 D21 D20
  have D25 : Def P w K mg b' 6 "need_lay" ["board", "lay"] spNeedLay := d6.to KX G (b2 fun _ _ _ _ _ _ _ _ => rfl) fun f fd F => Zaa F D24
  have D26 : Def P w K mg b' 7 "points" ["board", "lay"] spPoints := d7.to KX G (b2 fun _ _ _ _ _ _ _ _ => rfl) fun f fd F => Za1 F gs D25
  have D28 : Def P w K mg b' 8 "point_pairs" ["board", "lay"] spPairs := d8.to KX G (b2 fun _ _ _ _ _ _ _ _ => rfl) fun f fd F => ZbT F D26
  have D29 : Def P w K mg b' 9 "steps" ["board", "lay"] spSteps := d9.to KX G (b2 fun _ _ _ _ _ _ _ _ => rfl) fun f fd F => ZbQ F gs D28
  have D30 : Def P w K mg b' 10 "first_like" ["board", "lay"] spFirst := d10.to KX G (b2 fun _ _ _ _ _ _ _ _ => rfl) fun f fd F => ZbV F gs D29
  have D31 : Def P w K mg b' 11 "is_unlike" ["board", "lay"] spUnl := d11.to KX G (b2 fun _ _ _ _ _ _ _ _ => rfl) fun f fd F => Zdw F D30
  have R23 : DefR P w K mg b' 4 "need_board" ["board"] (spNBx K cB) := d4.toR KX G (b1 fun _ _ _ _ _ _ _ => rfl) fun f fd F => Wx F gs ex D22
  have R24 : DefR P w K mg b' 5 "is_lay" ["board", "thing"] (spLayx K cB) := d5.toR KX G (b2 fun _ _ _ _ _ _ _ _ => rfl) fun f fd F => ZcO F R23
  have R25 : DefR P w K mg b' 6 "need_lay" ["board", "lay"] (spX K cB cL) := d6.toR KX G (b2 fun _ _ _ _ _ _ _ _ => rfl) fun f fd F => Ux F ex R24 D24
  have R26 : DefR P w K mg b' 7 "points" ["board", "lay"] (spX K cB cL) := d7.toR KX G (b2 fun _ _ _ _ _ _ _ _ => rfl) fun f fd F => U9 F R25
  have R28 : DefR P w K mg b' 8 "point_pairs" ["board", "lay"] (spX K cB cL) := d8.toR KX G (b2 fun _ _ _ _ _ _ _ _ => rfl) fun f fd F => Za2 F R26
  have R29 : DefR P w K mg b' 9 "steps" ["board", "lay"] (spX K cB cL) := d9.toR KX G (b2 fun _ _ _ _ _ _ _ _ => rfl) fun f fd F => ZaY F gs R28
  have R30 : DefR P w K mg b' 10 "first_like" ["board", "lay"] (spX K cB cL) := d10.toR KX G (b2 fun _ _ _ _ _ _ _ _ => rfl) fun f fd F => Za5 F R29
  have R31 : DefR P w K mg b' 11 "is_unlike" ["board", "lay"] (spX K cB cL) := d11.toR KX G (b2 fun _ _ _ _ _ _ _ _ => rfl) fun f fd F => ZcM F R30
  exact ⟨⟨D29, R29⟩, ⟨D30, R30⟩, D31, R31⟩
 have hR : ∀ b' : Heap, Def P w K mg b' 13 "_law_refused" ["_law_call"] (spRef P w K mg b' cS 12) := fun b' => d15.to KX G (b1 fun _ _ _ _ _ _ _ => rfl) fun f fd F => Zdx F gs
 have E1 : Def P w K mg base 1 "_law_cell_at" ["_law_script", "_law_k"] (spCell K) := d12.to KX G (b2 fun _ _ _ _ _ _ _ _ => rfl) fun f fd F => ZcP F gs
 have E2 : Def P w K mg base 2 "_law_state" ["_law_script", "_law_k"] (spState K) := d13.to KX G (b2 fun _ _ _ _ _ _ _ _ => rfl) fun f fd F => ZbR F gs E1
 have E3 : Def P w K mg base 1 "_law_take" ["_law_state_here", "_law_many"] spTake := d14.to KX G (b2 fun _ _ _ _ _ _ _ _ => rfl) fun f fd F => ZcN F
 have E4 : Def P w K mg base 2 "_law_board" ["_law_state_here", "_law_upto"] spDrawB := d16.to KX G (b2 fun _ _ _ _ _ _ _ _ => rfl) fun f fd F => ZbX F E3
 have E5 : Def P w K mg base 2 "_law_no_board" ["_law_state_here"] (spNoB K) := d17.to KX G (b1 fun _ _ _ _ _ _ _ => rfl) fun f fd F => Zdz F E3
 have E6 : Def P w K mg base 2 "_law_lay" ["_law_state_here", "_law_board_here"] (spDrawL K) := d18.to KX G (b2 fun _ _ _ _ _ _ _ _ => rfl) fun f fd F => ZbW F gs E3
 have E7 : Def P w K mg base 1 "_law_steps" ["_law_lay_here"] (spLSteps K) := d19.to KX G (b1 fun _ _ _ _ _ _ _ => rfl) fun f fd F => Za3 F gs
 have E8 : Def P w K mg base 2 "_law_unlike" ["_law_lay_here"] spLUnlike := d20.to KX G (b1 fun _ _ _ _ _ _ _ => rfl) fun f fd F => Zab F E7
 have E9 : Def P w K mg base 3 "_law_grown" ["_law_state_here", "_law_board_here"] (spGrown K) := d21.to KX G (b2 fun _ _ _ _ _ _ _ _ => rfl) fun f fd F => ZbU F gs E3 E8
 have E10 : Def P w K mg base 2 "_law_no_lay" ["_law_state_here", "_law_board_here", "_law_lay_here"] (spNoL K) := d22.to KX G (b3 fun _ _ _ _ _ _ _ _ _ => rfl) fun f fd F => Zdy F gs E3
 have S1 : Def P w K mg base 1 "_law_same" ["_law_found", "_law_due"] (spSame Rl) := d23.to KX G (b2 fun _ _ _ _ _ _ _ _ => rfl) fun f fd F => Uw F gs
 have S2 : Def P w K mg base 2 "_law_same" ["_law_found", "_law_due"] (spSame (RSt Rl)) := d23.to KX G (b2 fun _ _ _ _ _ _ _ _ => rfl) fun f fd F => WI (R := Rl) (fun r s => Rl.same r s) F gs S1
 have S3 : Def P w K mg base 3 "_law_same" ["_law_found", "_law_due"] (spSame (RSt (RSt Rl))) := d23.to KX G (b2 fun _ _ _ _ _ _ _ _ => rfl) fun f fd F => WI (R := RSt Rl) (fun r s => RSt.same (R := Rl) (fun r s => Rl.same r s) r s) F gs S2
 have S4 : Def P w K mg base 4 "_law_same" ["_law_found", "_law_due"] (spSame (RLi (RSt (RSt Rl)))) := d23.to KX G (b2 fun _ _ _ _ _ _ _ _ => rfl) fun f fd F => Za0 (R := RSt (RSt Rl)) (fun r s => RSt.same (R := RSt Rl) (fun r s => RSt.same (R := Rl) (fun r s => Rl.same r s) r s) r s) F gs S3
 have E11 : Def P w K mg base 2 "_law_first" ["_law_lay_here"] spLFirst := d24.to KX G (b1 fun _ _ _ _ _ _ _ => rfl) fun f fd F => Za4 F E7
 have E12 : Def P w K mg base 12 "_law_right" ["_law_board_here", "_law_lay_here"] spRight := d25.to KX G (b2 fun _ _ _ _ _ _ _ _ => rfl) fun f fd F => ZbS F gs E7 E8 E11 (good base).1.1 (good base).2.2.1 (good base).2.1.1 S4 S1 S2
 obtain ⟨fR, fdR, eR', FR⟩ := id d15
 obtain ⟨gS, _, mS, _⟩ := id d9
 obtain ⟨gF, _, mF, _⟩ := id d10
 obtain ⟨gU, _, mU, _⟩ := id d11
 exact ZdB l2 l3 gs E2 E5 E4 E6 E9 E10 E12 (good base).1.1 (good base).2.1.1 hR (fun b' => (good b').1.2) (fun b' => (good b').2.2.2) (fun b' => (good b').2.1.2) (PySem.W.mg_of KX G mS) (PySem.W.mg_of KX G mU) (PySem.W.mg_of KX G mF) (PySem.W.mg_of KX G eR') FR.kp M0 M1 (PySem.W.codeHd_of_K kb l4) bm
end
end U
set_option Elab.async false
set_option linter.all false
set_option maxRecDepth 100000
def PySem.W.Fast.tw1555656766881760832 : Unit := ()
def PySem.W.Fast.tw7683578548464580320 : Unit := ()
def PySem.W.Fast.tw8821349935431754242 : Unit := ()
def PySem.W.Fast.tw2294067666458290020 : Unit := ()
def PySem.W.Fast.tw15047662269157272037 : Unit := ()
def PySem.W.Fast.tw8274234928064530630 : Unit := ()
def PySem.W.Fast.tw8122599857412274247 : Unit := ()
def PySem.W.Fast.tw4583187373052904712 : Unit := ()
def PySem.W.Fast.tw12314382034657233224 : Unit := ()
def PySem.W.Fast.tw17980039576773284682 : Unit := ()
def PySem.W.Fast.tw18415078680676778219 : Unit := ()
def PySem.W.Fast.tw1253782890889551371 : Unit := ()
def PySem.W.Fast.tw12059387927706932301 : Unit := ()
def PySem.W.Fast.tw11137681218317681613 : Unit := ()
def PySem.W.Fast.tw1227858449818515598 : Unit := ()
def PySem.W.Fast.tw2024253984516216175 : Unit := ()
def PySem.W.Fast.tw84621547260337647 : Unit := ()
def PySem.W.Fast.tw4016319562743526223 : Unit := ()
def PySem.W.Fast.tw12444970141018408560 : Unit := ()
def PySem.W.Fast.tw9696877903956424561 : Unit := ()
def PySem.W.Fast.tw3464344502345008435 : Unit := ()
def PySem.W.Fast.tw11895270458551207379 : Unit := ()
def PySem.W.Fast.tw13884004292481177267 : Unit := ()
def PySem.W.Fast.tw11599632468089270035 : Unit := ()
def PySem.W.Fast.tw17020799552196711956 : Unit := ()
def PySem.W.Fast.tw12173278154402669236 : Unit := ()
def PySem.W.Fast.tw5928448943570933525 : Unit := ()
def PySem.W.Fast.tw5100777430937319670 : Unit := ()
def PySem.W.Fast.tw8343829699055863062 : Unit := ()
def PySem.W.Fast.tw2125522184695345719 : Unit := ()
def PySem.W.Fast.tw7325882960648908888 : Unit := ()
def PySem.W.Fast.tw2958795450920554905 : Unit := ()
def PySem.W.Fast.tw10419880307490137945 : Unit := ()
def PySem.W.Fast.tw2227082401751341082 : Unit := ()
def PySem.W.Fast.tw7310156756039116218 : Unit := ()
def PySem.W.Fast.tw10251824674903565850 : Unit := ()
def PySem.W.Fast.tw6783933832206080666 : Unit := ()
def PySem.W.Fast.tw7679182181313894908 : Unit := ()
def PySem.W.Fast.tw9150466338337349725 : Unit := ()
def PySem.W.Fast.tw5845230752646983837 : Unit := ()
def PySem.W.Fast.tw18315505588945969405 : Unit := ()
def PySem.W.Fast.tw3736254623321975870 : Unit := ()
def PySem.W.Fast.tw13234340054751222952 : Unit := ()
set_option maxRecDepth 100000 in
set_option maxHeartbeats 0 in
theorem PySem.Challenge.cw_unlikesteps_k03_steps_told_holds : PySem.Challenge.rw_unlikesteps_k03_steps_told.Holds := by
 w_on; o_law; k_head; (case hw => w_witness2)
 k_fill
 refine U.walk_ofTs (l := PySem.Challenge.rw_unlikesteps_k03_steps_told) (n := 63) (k := 14) (x := "_law_script") (Pts := [369]) (sp := fun K => U.spLaw K 369) rfl (by decide) rfl ⟨rfl, by decide, by decide⟩ (fun w h Y => PySem.W.km_in_of Y) ?hT9 ?hC9 ?hN9 ?F ?S
 case hT9 =>
  intro w h Y P hP
  simp only [List.mem_cons, List.not_mem_nil, or_false] at hP
  rcases hP with rfl
  ·exact PySem.W.km_tabs_of Y 369 (by simp)
 case hC9 =>
  intro w h X P hP
  simp only [List.mem_cons, List.not_mem_nil, or_false] at hP
  rcases hP with rfl
  ·exact ⟨373, PySem.W.codeHd_of_K X (by kernel_rfl)⟩
 case hN9 =>
  intro w P hP
  simp only [List.mem_cons, List.not_mem_nil, or_false] at hP
  rcases hP with rfl
  ·kernel_rfl
 case S => exact fun K H a ns hl hs hp => ⟨a, ns, rfl, hs, hl, hp _ (by simp), fun _ => rfl⟩
 case F =>
  intro w mg fa h KX G hmg
  refine' U.law_all (c := 373) (Pt := 369) KX G hmg (U.defAt_mk ?a0 ?b0 ?c0 ?e0) (U.defAt_mk ?a1 ?b1 ?c1 ?e1) (U.defAt_mk ?a2 ?b2 ?c2 ?e2) (U.defAt_mk ?a3 ?b3 ?c3 ?e3) (U.defAt_mk ?a4 ?b4 ?c4 ?e4) (U.defAt_mk ?a5 ?b5 ?c5 ?e5) (U.defAt_mk ?a6 ?b6 ?c6 ?e6) (U.defAt_mk ?a7 ?b7 ?c7 ?e7) (U.defAt_mk ?a8 ?b8 ?c8 ?e8) (U.defAt_mk ?a9 ?b9 ?c9 ?e9) (U.defAt_mk ?a10 ?b10 ?c10 ?e10) (U.defAt_mk ?a11 ?b11 ?c11 ?e11) (U.defAt_mk ?a12 ?b12 ?c12 ?e12) (U.defAt_mk ?a13 ?b13 ?c13 ?e13) (U.defAt_mk ?a14 ?b14 ?c14 ?e14) (U.defAt_mk ?a15 ?b15 ?c15 ?e15) (U.defAt_mk ?a16 ?b16 ?c16 ?e16) (U.defAt_mk ?a17 ?b17 ?c17 ?e17) (U.defAt_mk ?a18 ?b18 ?c18 ?e18) (U.defAt_mk ?a19 ?b19 ?c19 ?e19) (U.defAt_mk ?a20 ?b20 ?c20 ?e20) (U.defAt_mk ?a21 ?b21 ?c21 ?e21) (U.defAt_mk ?a22 ?b22 ?c22 ?e22) (U.defAt_mk ?a23 ?b23 ?c23 ?e23) (U.defAt_mk ?a24 ?b24 ?c24 ?e24) (U.defAt_mk ?a25 ?b25 ?c25 ?e25) ?l1 ?l2 ?l3 ?l4 ?g1 ?lo ?eB ?eL ?eS ?x0 ?x1 ?gaB ?hoB ?clB ?gaL ?hoL ?clL
  (case a0 => k_is); (case b0 => k_is); (case c0 => k_is); (case e0 => k_is)
  (case a1 => k_is); (case b1 => k_is); (case c1 => k_is); (case e1 => k_is)
  (case a2 => k_is); (case b2 => k_is); (case c2 => k_is); (case e2 => k_is)
  (case a3 => k_is); (case b3 => k_is); (case c3 => k_is); (case e3 => k_is)
  (case a4 => k_is); (case b4 => k_is); (case c4 => k_is); (case e4 => k_is)
  (case a5 => k_is); (case b5 => k_is); (case c5 => k_is); (case e5 => k_is)
  (case a6 => k_is); (case b6 => k_is); (case c6 => k_is); (case e6 => k_is)
  (case a7 => k_is); (case b7 => k_is); (case c7 => k_is); (case e7 => k_is)
  (case a8 => k_is); (case b8 => k_is); (case c8 => k_is); (case e8 => k_is)
  (case a9 => k_is); (case b9 => k_is); (case c9 => k_is); (case e9 => k_is)
  (case a10 => k_is); (case b10 => k_is); (case c10 => k_is); (case e10 => k_is)
  (case a11 => k_is); (case b11 => k_is); (case c11 => k_is); (case e11 => k_is)
  (case a12 => k_is); (case b12 => k_is); (case c12 => k_is); (case e12 => k_is)
  (case a13 => k_is); (case b13 => k_is); (case c13 => k_is); (case e13 => k_is)
  (case a14 => k_is); (case b14 => k_is); (case c14 => k_is); (case e14 => k_is)
  (case a15 => k_is); (case b15 => k_is); (case c15 => k_is); (case e15 => k_is)
  (case a16 => k_is); (case b16 => k_is); (case c16 => k_is); (case e16 => k_is)
  (case a17 => k_is); (case b17 => k_is); (case c17 => k_is); (case e17 => k_is)
  (case a18 => k_is); (case b18 => k_is); (case c18 => k_is); (case e18 => k_is)
  (case a19 => k_is); (case b19 => k_is); (case c19 => k_is); (case e19 => k_is)
  (case a20 => k_is); (case b20 => k_is); (case c20 => k_is); (case e20 => k_is)
  (case a21 => k_is); (case b21 => k_is); (case c21 => k_is); (case e21 => k_is)
  (case a22 => k_is); (case b22 => k_is); (case c22 => k_is); (case e22 => k_is)
  (case a23 => k_is); (case b23 => k_is); (case c23 => k_is); (case e23 => k_is)
  (case a24 => k_is); (case b24 => k_is); (case c24 => k_is); (case e24 => k_is)
  (case a25 => k_is); (case b25 => k_is); (case c25 => k_is); (case e25 => k_is)
  (case l1 => k_is)
  (case l2 => k_is)
  (case l3 => k_is)
  (case l4 => kernel_rfl)
  (case g1 => kernel_rfl)
  (case lo => k_is)
  (case eB => k_is)
  (case eL => k_is)
  (case eS => k_is)
  (case x0 => kernel_rfl)
  (case x1 => kernel_rfl)
  (case gaB => k_is)
  (case hoB => k_is)
  (case clB => k_is)
  (case gaL => k_is)
  (case hoL => k_is)
  (case clL => k_is)
