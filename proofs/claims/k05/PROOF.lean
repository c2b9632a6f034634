import PyProof.Rows.All
import Wide.All
import OpenK.AllK
import Wide.FinOn
import Lean
import PyProof.EqAt
import PyProof.EqKinds
import PyProof.TupleCall
import PySem.Challenge.RW_signmill_k05_forms
set_option Elab.async false
set_option linter.all false
set_option maxRecDepth 100000
namespace Ln
inductive E
  | n (k : Nat)
  | v (i : Nat)
  | a (x y : E)
  | m (k : Nat) (x : E)
  | w (x : E) (k : Nat)
noncomputable def nth : List Nat → Nat → Nat
  | [], _ => 0
  | x :: _, 0 => x
  | _ :: c, i + 1 => nth c i
noncomputable def E.d (c : List Nat) : E → Nat
  | .n k => k
  | .v i => nth c i
  | .a x y => x.d c + y.d c
  | .m k x => k * x.d c
  | .w x k => x.d c * k
noncomputable def add : List Nat → List Nat → List Nat
  | [], q => q
  | x :: p, [] => x :: p
  | x :: p, y :: q => (x + y) :: add p q
noncomputable def mul (k : Nat) : List Nat → List Nat
  | [] => []
  | x :: p => k * x :: mul k p
noncomputable def one : Nat → List Nat
  | 0 => [1]
  | i + 1 => 0 :: one i
noncomputable def E.p : E → List Nat
  | .n k => [k]
  | .v i => 0 :: one i
  | .a x y => add x.p y.p
  | .m k x => mul k x.p
  | .w x k => mul k x.p
noncomputable def le : List Nat → List Nat → Bool
  | [], _ => true
  | x :: p, [] => Nat.beq x 0 && le p []
  | x :: p, y :: q => Nat.ble x y && le p q
noncomputable def dot : List Nat → List Nat → Nat
  | x :: c, k :: p => k * x + dot c p
  | _, _ => 0
theorem dot_nil (c : List Nat) : dot c [] = 0 := by cases c <;> rfl
theorem nil_dot (p : List Nat) : dot [] p = 0 := by cases p <;> rfl
theorem dot_add : ∀ (p q c : List Nat), dot c (add p q) = dot c p + dot c q
  | [], q, c => by rw [dot_nil, Nat.zero_add]; rfl
  | x :: p, [], c => by rw [dot_nil, Nat.add_zero]; rfl
  | x :: p, y :: q, [] => by rw [nil_dot, nil_dot, nil_dot]
  | x :: p, y :: q, z :: c => by
    show (x + y) * z + dot c (add p q) = (x * z + dot c p) + (y * z + dot c q)
    rw [dot_add p q c, Nat.add_mul, Nat.add_assoc, Nat.add_assoc, Nat.add_left_comm (y * z)]
theorem dot_mul (k : Nat) : ∀ (p c : List Nat), dot c (mul k p) = k * dot c p
  | [], c => by rw [dot_nil, Nat.mul_zero]; exact dot_nil c
  | x :: p, [] => by rw [nil_dot, nil_dot, Nat.mul_zero]
  | x :: p, z :: c => by
    show k * x * z + dot c (mul k p) = k * (x * z + dot c p)
    rw [dot_mul k p c, Nat.mul_add, Nat.mul_assoc]
theorem dot_one : ∀ (i : Nat) (c : List Nat), dot c (one i) = nth c i
  | i, [] => by rw [nil_dot]; cases i <;> rfl
  | 0, x :: c => by show 1 * x + dot c [] = x; rw [dot_nil, Nat.one_mul, Nat.add_zero]
  | i + 1, x :: c => by show 0 * x + dot c (one i) = nth c i; rw [dot_one i c, Nat.zero_mul, Nat.zero_add]
theorem dot_p (c : List Nat) : ∀ e : E, e.d c = dot (1 :: c) e.p
  | .n k => by show k = k * 1 + dot c []; rw [dot_nil, Nat.mul_one, Nat.add_zero]
  | .v i => by show nth c i = 0 * 1 + dot c (one i); rw [dot_one, Nat.zero_mul, Nat.zero_add]
  | .a x y => by show x.d c + y.d c = dot (1 :: c) (add x.p y.p); rw [dot_add, dot_p c x, dot_p c y]
  | .m k x => by show k * x.d c = dot (1 :: c) (mul k x.p); rw [dot_mul, dot_p c x]
  | .w x k => by show x.d c * k = dot (1 :: c) (mul k x.p); rw [dot_mul, dot_p c x, Nat.mul_comm]
theorem dot_le : ∀ (p q c : List Nat), le p q = true → dot c p ≤ dot c q
  | [], q, c, _ => by rw [dot_nil]; exact Nat.zero_le _
  | x :: p, q, [], _ => by rw [nil_dot]; exact Nat.zero_le _
  | x :: p, [], z :: c, h => by
    have h1 : Nat.beq x 0 = true ∧ le p [] = true := by
      have h' : (Nat.beq x 0 && le p []) = true := h
      rwa [Bool.and_eq_true] at h'
    have e := Nat.eq_of_beq_eq_true h1.1
    have := dot_le p [] c h1.2
    rw [dot_nil] at this ⊢
    show x * z + dot c p ≤ 0
    rw [e, Nat.zero_mul, Nat.zero_add]
    exact this
  | x :: p, y :: q, z :: c, h => by
    have h1 : Nat.ble x y = true ∧ le p q = true := by
      have h' : (Nat.ble x y && le p q) = true := h
      rwa [Bool.and_eq_true] at h'
    exact Nat.add_le_add (Nat.mul_le_mul_right _ (Nat.le_of_ble_eq_true h1.1)) (dot_le p q c h1.2)
noncomputable instance : Add E := ⟨.a⟩
noncomputable instance (k : Nat) : OfNat E k := ⟨.n k⟩
end Ln
open Ln in
theorem θz (c : List Nat) (l r : E) (k : le l.p r.p = true) : l.d c ≤ r.d c := by
  rw [dot_p, dot_p]; exact dot_le _ _ _ k
open Ln in
theorem θo (c : List Nat) (l r L R : E) (k : le (add l.p R.p) (add r.p L.p) = true) (h : L.d c ≤ R.d c) : l.d c ≤ r.d c := by
  have h1 := dot_le _ _ (1 :: c) k
  rw [dot_add, dot_add, ← dot_p, ← dot_p, ← dot_p, ← dot_p] at h1
  exact Nat.le_of_add_le_add_right (Nat.le_trans h1 (Nat.add_le_add_left h _))
theorem θa {a b c d : Nat} (h : a ≤ b) (k : c ≤ d) : a + c ≤ b + d := Nat.add_le_add h k
theorem θe {a b : Nat} (h : a = b) : a ≤ b := Nat.le_of_eq h
theorem θs {a b : Nat} (h : a = b) : b ≤ a := Nat.le_of_eq h.symm
theorem θq (a b : Nat) : a ≤ a - b + b := by rw [Nat.sub_add_eq_max]; exact Nat.le_max_left a b
theorem θr {a b : Nat} (h : b ≤ a) : a - b + b ≤ a := Nat.le_of_eq (Nat.sub_add_cancel h)
theorem θi (a b : Nat) : min a b ≤ a := Nat.min_le_left a b
theorem θj (a b : Nat) : min a b ≤ b := Nat.min_le_right a b
theorem θw {a b : Nat} (h : ¬ a < b) : b ≤ a := Nat.le_of_not_lt h
noncomputable abbrev θ0 : Ln.E := .v 0
noncomputable abbrev θ1 : Ln.E := .v 1
noncomputable abbrev θ2 : Ln.E := .v 2
noncomputable abbrev θ3 : Ln.E := .v 3
noncomputable abbrev θ4 : Ln.E := .v 4
namespace L2
open PySem PySem.Spec PyProof.Rows
abbrev Key := Sum Int Str
def keyIs : Key → Value → Bool
  | .inl k, v => Value.isInt k v
  | .inr x, v => Value.isStrOf x v
def keyH (w : World) : Key → Int
  | .inl k => hashInt k
  | .inr x => hashStr w x
theorem keyIs_shape : ∀ {k : Key} {v : Value}, keyIs k v = true → (∃ i t, k = Sum.inl i ∧ v = Value.int i t) ∨ (∃ x t, k = Sum.inr x ∧ v = Value.str x t)
  | .inl i, v, h => by
    obtain ⟨t, e⟩ := Value.isInt_shape (k := i) (v := v) h
    exact .inl ⟨i, t, rfl, e⟩
  | .inr x, v, h => by
    obtain ⟨t, e⟩ := Value.isStrOf_shape (x := x) (v := v) h
    exact .inr ⟨x, t, rfl, e⟩
theorem key_ll (a b : Int) : decide ((Sum.inl a : Key) = Sum.inl b) = (a == b) := by
  by_cases e : a = b
  · subst e; simp
  · have h : ¬ (Sum.inl a : Key) = Sum.inl b := fun q => e (Sum.inl.inj q)
    rw [decide_eq_false h]
    exact (beq_eq_false_iff_ne.mpr e).symm
theorem key_rr (a b : Str) : decide ((Sum.inr a : Key) = Sum.inr b) = decide (a = b) := by
  by_cases e : a = b
  · subst e; simp
  · have h : ¬ (Sum.inr a : Key) = Sum.inr b := fun q => e (Sum.inr.inj q)
    rw [decide_eq_false h, decide_eq_false e]
theorem key_lr (a : Int) (b : Str) : decide ((Sum.inl a : Key) = Sum.inr b) = false := decide_eq_false (fun q => nomatch q)
theorem key_rl (a : Str) (b : Int) : decide ((Sum.inr a : Key) = Sum.inl b) = false := decide_eq_false (fun q => nomatch q)
def mixKind (prog : Program) (w : World) : PySem.KeyKind prog w Key where
  is := keyIs
  hash := keyH w
  inj := fun v a b ha hb => by
    rcases keyIs_shape ha with ⟨i, t, rfl, rfl⟩ | ⟨x, t, rfl, rfl⟩
    · rcases keyIs_shape hb with ⟨j, u, rfl, e⟩ | ⟨y, u, rfl, e⟩
      · injection e with e1 _; rw [e1]
      · exact nomatch e
    · rcases keyIs_shape hb with ⟨j, u, rfl, e⟩ | ⟨y, u, rfl, e⟩
      · exact nomatch e
      · injection e with e1 _; rw [e1]
  byValue := fun k v h => by
    rcases keyIs_shape h with ⟨i, t, rfl, rfl⟩ | ⟨x, t, rfl, rfl⟩ <;> rfl
  pyHash := fun hv h => by
    rcases keyIs_shape hv with ⟨i, t, rfl, rfl⟩ | ⟨x, t, rfl, rfl⟩
    · exact wpAny_pyHash_int h
    · exact wpAny_pyHash_str h
  eqBool := fun hu hv h => by
    rcases keyIs_shape hu with ⟨i, t, rfl, rfl⟩ | ⟨x, t, rfl, rfl⟩
    · rcases keyIs_shape hv with ⟨j, u, rfl, rfl⟩ | ⟨y, u, rfl, rfl⟩
      · rw [key_ll] at h; exact wpAny_eqBool_int h
      · rw [key_lr] at h; exact SeqAt.EqAt.int_str i t y u _ _ _ _ h
    · rcases keyIs_shape hv with ⟨j, u, rfl, rfl⟩ | ⟨y, u, rfl, rfl⟩
      · rw [key_rl] at h; exact SeqAt.EqAt.str_int x t j u _ _ _ _ h
      · rw [key_rr] at h; exact wpAny_eqBool_str h
  «strs» := fun k x t v h => by
    rcases keyIs_shape h with ⟨i, u, rfl, e⟩ | ⟨y, u, rfl, e⟩
    · exact nomatch e
    · injection e with e1 _
      subst e1
      cases v <;> rfl
end L2
namespace L2
open PySem PySem.Spec PyProof.Rows
inductive V where
  | non | bl (b : Bool) | int (i : Int) | str (x : Str) | byt (b : Array UInt8) | flt (b : UInt64) | ref (a : Addr) | ty (n : String)
  deriving DecidableEq
def RelV : V → Value → Prop
  | .non, u => u = Value.none
  | .bl b, u => u = Value.bool b
  | .int i, u => ∃ t, u = Value.int i t
  | .str x, u => ∃ t, u = Value.str x t
  | .byt b, u => ∃ t, u = Value.bytes b t
  | .flt b, u => ∃ t, u = Value.float b t
  | .ref a, u => u = Value.ref a
  | .ty n, u => u = Value.type n
abbrev Vals : List V → List Value → Prop := Paired RelV
theorem Vals.length {xs : List V} {us : List Value} (r : Vals xs us) : xs.length = us.length := Paired.length r
theorem Vals.get : ∀ {xs : List V} {us : List Value} {i : Nat} {x : V}, Vals xs us → xs[i]? = some x → ∃ u, us[i]? = some u ∧ RelV x u
  | _, _, _, _, .nil, e => by simp at e
  | _, _, 0, _, .cons r _, e => by simp at e; subst e; exact ⟨_, rfl, r⟩
  | _, _, i + 1, x, .cons _ t, e => by
    obtain ⟨u, h1, h2⟩ := Vals.get (i := i) (x := x) t (by simpa using e)
    exact ⟨u, by simpa using h1, h2⟩
theorem Vals.set {x : V} {u : Value} (r : RelV x u) : ∀ {xs : List V} {us : List Value} (i : Nat), Vals xs us → Vals (xs.set i x) (us.set i u)
  | _, _, _, .nil => .nil
  | _, _, 0, .cons _ t => .cons r t
  | _, _, i + 1, .cons q t => .cons q (Vals.set r i t)
theorem Vals.append : ∀ {xs ys : List V} {us ws : List Value}, Vals xs us → Vals ys ws → Vals (xs ++ ys) (us ++ ws)
  | _, _, _, _, .nil, s => s
  | _, _, _, _, .cons r t, s => .cons r (Vals.append t s)
theorem Vals.take : ∀ {xs : List V} {us : List Value} (n : Nat), Vals xs us → Vals (xs.take n) (us.take n)
  | _, _, 0, _ => .nil
  | _, _, _ + 1, .nil => .nil
  | _, _, n + 1, .cons r t => .cons r (Vals.take n t)
theorem Vals.drop : ∀ {xs : List V} {us : List Value} (n : Nat), Vals xs us → Vals (xs.drop n) (us.drop n)
  | _, _, 0, r => r
  | _, _, _ + 1, .nil => .nil
  | _, _, n + 1, .cons _ t => Vals.drop n t
def RelO : Option V → Option Value → Prop
  | some v, some u => RelV v u
  | none, none => True
  | _, _ => False
def KV {κ : Type} : List (κ × V) → List (κ × Value) → Prop := Paired fun (p : κ × V) (q : κ × Value) => p.1 = q.1 ∧ RelV p.2 q.2
def kV : Key → V
  | .inl i => .int i
  | .inr x => .str x
inductive HO where
    | lst (xs : List V)
    | tup (xs : List V)
    | dK (kvs : List (Key × V)) | dT (kvs : List (List Key × V))
    | set (S : Int → Bool) (n : Nat)
    | ins (C dx : Addr) (fs : List (Str × V))
    | own (x : Addr)
    | xd (fs : List (Str × V))
    | met (f x : Addr)
    | rng (lo hi : Int)
    | frz (o : Obj) (u : HO)
    | tbl (ps : Array Value)
    | ext (φ : Heap → Prop)
abbrev Hp := Addr → Option HO
def upd (H : Hp) (a : Addr) (o : HO) : Hp := fun b => if b = a then some o else H b
theorem upd_same {H : Hp} {a : Addr} {o : HO} : upd H a o a = some o := by unfold upd; rw [if_pos rfl]
theorem upd_ne {H : Hp} {a b : Addr} {o : HO} (h : b ≠ a) : upd H a o b = H b := by unfold upd; rw [if_neg h]
theorem ne_of_none {H : Hp} {a b : Addr} {o : HO} (h : H a = some o) (h' : H b = none) : a ≠ b := by
  intro e; subst e; rw [h] at h'; cases h'
section
variable (P : Program) (w : World)
def ObjOk (H : Hp) (h : Heap) (a : Addr) : HO → Prop
  | .lst xs => xs.length ≤ sizeLine ∧ ∃ (its : List Value) (n : Nat), Vals xs its ∧ h.get? a = some { cls := .type "list", data := .seq its.toArray n }
  | .tup xs => xs.length ≤ sizeLine ∧ ∃ its : List Value, Vals xs its ∧ IsTup h a its.toArray
  | .dK kvs => kvs.length ≤ sizeLine ∧ (a == sysModules) = false ∧ ∃ vs, KV kvs vs ∧ h.DictOf (mixKind P w) a vs
  | .dT kvs => kvs.length ≤ sizeLine ∧ (a == sysModules) = false ∧ ∃ xs : List (List Key × Addr × Value),
      Paired (fun (p : List Key × V) (q : List Key × Addr × Value) => p.1 = q.1 ∧ H q.2.1 = some (.tup (p.1.map kV)) ∧ RelV p.2 q.2.2) kvs xs ∧
      ∃ o es ep, h.get? a = some o ∧ o.ExactDict ∧ o.data = .dict es ep ∧ es.toList = xs.map (entryOfKey (tupleKind (mixKind P w))) ∧ (xs.map (·.1)).Nodup
  | .set S n => h.SetOf (intKind P w) a S n
  | .ins C dx fs => H dx = some (.own a) ∧ fs.length ≤ 1000 ∧ dx ≠ a ∧ h.get? a = some (PySem.W.instObj C dx) ∧
      ∃ mA, h.Ns1 dx mA ∧ (∀ f, RelO (fs.lookup f) (mA f)) ∧ PySem.Within mA (fs.map (·.1))
  | .own _ => ∃ o, h.get? a = some o
  | .xd fs => ∃ mA, h.Ns1 a mA ∧ ∀ f, RelO (fs.lookup f) (mA f)
  | .rng lo hi => ∃ t u v, h.get? a = some { cls := .type "range", data := .fields #[.int lo t, .int hi u, .int 1 v] }
  | .frz o u => h.get? a = some o ∧ ObjOk H h a u
  | .tbl ps => h.get? a = some { cls := .none, data := .fields ps }
  | .met f x => h.get? a = some (PySem.W.methodObj (.ref f) (.ref x))
  | .ext φ => φ h ∧ (∃ o, h.get? a = some o) ∧ ∀ h1 h2 : Heap, φ h1 → (∀ o, h1.get? a = some o → h2.get? a = some o) → φ h2
def HOk (H : Hp) (h : Heap) : Prop := ∀ a o, H a = some o → ObjOk P w H h a o
end
section
variable {P : Program} {w : World} {H H' : Hp} {h h' : Heap} {a : Addr} {o : HO}
theorem ObjOk.lt (x : ObjOk P w H h a o) : a < h.objs.size := by
  cases o with
  | lst xs => obtain ⟨_, _, _, _, e⟩ := x; exact Heap.lt_size e
  | tup xs => obtain ⟨_, _, _, p⟩ := x; exact p.lt
  | dK kvs => obtain ⟨_, _, _, _, o, _, _, e, _⟩ := x; exact Heap.lt_size e
  | dT kvs => obtain ⟨_, _, _, _, o, _, _, e, _⟩ := x; exact Heap.lt_size e
  | set S n => obtain ⟨o, _, _, _, e, _⟩ := x; exact Heap.lt_size e
  | ins C dx fs => obtain ⟨_, _, _, e, _⟩ := x; exact Heap.lt_size e
  | own y => obtain ⟨_, e⟩ := x; exact Heap.lt_size e
  | xd fs => obtain ⟨_, ⟨_, _, _, e, _⟩, _⟩ := x; exact Heap.lt_size e
  | rng lo hi => obtain ⟨_, _, _, e⟩ := x; exact Heap.lt_size e
  | frz ob u => obtain ⟨e, _⟩ := x; exact Heap.lt_size e
  | tbl ps => exact Heap.lt_size (show h.get? a = some _ from x)
  | met f y => exact Heap.lt_size (show h.get? a = some _ from x)
  | ext φ => obtain ⟨_, ⟨_, e⟩, _⟩ := x; exact Heap.lt_size e
theorem Paired.mapP {α β : Type} {F G : α → β → Prop} : ∀ {l₁ : List α} {l₂ : List β}, Paired F l₁ l₂ → (∀ a b, F a b → G a b) → Paired G l₁ l₂
  | _, _, .nil, _ => .nil
  | _, _, .cons r t, f => .cons (f _ _ r) (Paired.mapP t f)
theorem ObjOk.stay (x : ObjOk P w H h a o) (k : ∀ b u, (b = a ∨ H b = some (.own a)) → h.get? b = some u → h'.get? b = some u)
    (ho : ∀ b, H b = some (.own a) → H' b = some (.own a)) (ht : ∀ b xs, H b = some (.tup xs) → H' b = some (.tup xs)) : ObjOk P w H' h' a o := by
  induction o with
  | lst xs => obtain ⟨z, its, n, r, e⟩ := x; exact ⟨z, its, n, r, k _ _ (.inl rfl) e⟩
  | tup xs => obtain ⟨z, its, r, ob, e, c⟩ := x; exact ⟨z, its, r, ob, k _ _ (.inl rfl) e, c⟩
  | dK kvs => obtain ⟨z, y, vs, r, ob, es, ep, e, c⟩ := x; exact ⟨z, y, vs, r, ob, es, ep, k _ _ (.inl rfl) e, c⟩
  | dT kvs =>
    obtain ⟨z, y, xs, r, ob, es, ep, e, c⟩ := x
    exact ⟨z, y, xs, Paired.mapP r fun p q z => ⟨z.1, ht _ _ z.2.1, z.2.2⟩, ob, es, ep, k _ _ (.inl rfl) e, c⟩
  | set S n => obtain ⟨ob, es, ep, t, e, c⟩ := x; exact ⟨ob, es, ep, t, k _ _ (.inl rfl) e, c⟩
  | ins C dx fs =>
    obtain ⟨d, z, ne, e, mA, ⟨od, es, ep, e2, c⟩, r⟩ := x
    exact ⟨ho _ d, z, ne, k _ _ (.inl rfl) e, mA, ⟨od, es, ep, k _ _ (.inr d) e2, c⟩, r⟩
  | own y => obtain ⟨ob, e⟩ := x; exact ⟨ob, k _ _ (.inl rfl) e⟩
  | xd fs => obtain ⟨mA, ⟨od, es, ep, e, c⟩, r⟩ := x; exact ⟨mA, ⟨od, es, ep, k _ _ (.inl rfl) e, c⟩, r⟩
  | rng lo hi => obtain ⟨t, u, v, e⟩ := x; exact ⟨t, u, v, k _ _ (.inl rfl) e⟩
  | frz ob u ih => obtain ⟨e, q⟩ := x; exact ⟨k _ _ (.inl rfl) e, ih q⟩
  | tbl ps =>
    have e : h.get? a = some { cls := .none, data := .fields ps } := x
    show h'.get? a = some { cls := .none, data := .fields ps }
    exact k a _ (.inl rfl) e
  | met f y =>
    have e : h.get? a = some (PySem.W.methodObj (.ref f) (.ref y)) := x
    show h'.get? a = some (PySem.W.methodObj (.ref f) (.ref y))
    exact k a _ (.inl rfl) e
  | ext φ => obtain ⟨p, ⟨o, e⟩, st⟩ := x; exact ⟨st _ _ p fun o q => k _ _ (.inl rfl) q, ⟨o, k _ _ (.inl rfl) e⟩, st⟩
theorem HOk.lt (x : HOk P w H h) (e : H a = some o) : a < h.objs.size := (x a o e).lt
theorem HOk.fresh (x : HOk P w H h) (e : h.objs.size ≤ a) : H a = none := by
  cases q : H a with
  | none => rfl
  | some u => exact absurd (Nat.lt_of_lt_of_le (x.lt q) e) (Nat.lt_irrefl _)
theorem HOk.kept (x : HOk P w H h) (k : ∀ b u, h.get? b = some u → h'.get? b = some u) : HOk P w H h' := fun a o e =>
  (x a o e).stay (fun b u _ q => k b u q) (fun _ q => q) fun _ _ q => q
theorem HOk.laid (x : HOk P w H h) (k : ∀ b u, h.get? b = some u → h'.get? b = some u) (hp : h.objs.size ≤ a) (new : ObjOk P w (upd H a o) h' a o) : HOk P w (upd H a o) h' := fun b u e => by
  have hn := x.fresh hp
  by_cases hb : b = a
  · subst hb; rw [upd_same] at e; cases e; exact new
  · rw [upd_ne hb] at e
    exact (x b u e).stay (fun c v _ q => k c v q) (fun c q => by rw [upd_ne (ne_of_none q hn)]; exact q) fun c xs q => by rw [upd_ne (ne_of_none q hn)]; exact q
end
def Rd (H : Hp) (a : Addr) (u : HO) : Prop := H a = some u ∨ ∃ o, H a = some (.frz o u)
theorem Rd.of {H : Hp} {a : Addr} {u : HO} (h : H a = some u) : Rd H a u := .inl h
theorem Rd.ok {P : Program} {w : World} {H : Hp} {h : Heap} {a : Addr} {u : HO} (r : Rd H a u) (x : HOk P w H h) : ObjOk P w H h a u := by
  rcases r with r | ⟨o, r⟩
  · exact x a u r
  · obtain ⟨_, q⟩ := x a _ r
    exact q
def Mut : Option HO → Prop
  | some (.lst _) => True
  | some (.dK _) => True
  | some (.dT _) => True
  | some (.set _ _) => True
  | some (.ins _ _ _) => True
  | some (.ext _) => True
  | _ => False
section
variable {P : Program} {w : World} {H : Hp} {h h' : Heap} {x e : Addr} {o' : HO}
theorem HOk.write (ok : HOk P w H h) (mu : Mut (H x)) (he : e = x ∨ H e = some (.own x)) (k : ∀ b u, b ≠ e → h.get? b = some u → h'.get? b = some u) (heo : ∃ u, h'.get? e = some u)
    (new : ObjOk P w (upd H x o') h' x o') : HOk P w (upd H x o') h' := fun b u q => by
  have nown : ∀ c y, H c = some (.own y) → c ≠ x := fun c y r z => by subst z; rw [r] at mu; exact mu
  have ntup : ∀ c xs, H c = some (.tup xs) → c ≠ x := fun c xs r z => by subst z; rw [r] at mu; exact mu
  by_cases hb : b = x
  · subst hb; rw [upd_same] at q; cases q; exact new
  · rw [upd_ne hb] at q
    by_cases hbe : b = e
    · have q' : H b = some (.own x) := by
        rcases he with z | z
        · exact absurd (hbe.trans z) hb
        · rw [hbe]; exact z
      rw [q] at q'; cases q'
      obtain ⟨v, hv⟩ := heo
      exact ⟨v, by rw [hbe]; exact hv⟩
    · refine (ok b u q).stay (fun c v hc r => k c v ?_ r) (fun c r => by rw [upd_ne (nown c b r)]; exact r) fun c xs r => by rw [upd_ne (ntup c xs r)]; exact r
      rcases hc with rfl | hc
      · exact hbe
      · rintro rfl
        rcases he with z | z
        · exact nown c b hc z
        · rw [hc] at z; cases z; exact hb rfl
end
structure Un (fs ex : List Addr) (H H' : Hp) (h h' : Heap) : Prop where
  keep : ∀ b o, h.get? b = some o → H b = none → b ∉ fs → b ∉ ex → h'.get? b = some o
  slot : ∀ b o, h.get? b = some o → H b = none → b ∈ fs → b ∉ ex → ∃ sl, h'.get? b = some { o with slots := sl }
  free : ∀ b o, h.get? b = some o → H b = none → b ∉ ex → H' b = none
  there : ∀ b o, h.get? b = some o → b ∉ ex → ∃ o', h'.get? b = some o'
  tups : ∀ b xs, H b = some (.tup xs) → H' b = some (.tup xs)
  frzs : ∀ b o u, H b = some (.frz o u) → H' b = some (.frz o u)
  tbls : ∀ b ps, H b = some (.tbl ps) → ∃ more, H' b = some (.tbl (ps ++ more))
section
variable {fs fs' ex ex' : List Addr} {H H1 H2 : Hp} {h h1 h2 h' : Heap} {a x e : Addr} {o : HO}
theorem Un.any (u : Un fs ex H H1 h h1) {b : Addr} {ob : Obj} (q : h.get? b = some ob) (n : H b = none) (hx : b ∉ ex) : ∃ sl, h1.get? b = some { ob with slots := sl } := by
  by_cases hb : b ∈ fs
  · exact u.slot b ob q n hb hx
  · exact ⟨ob.slots, u.keep b ob q n hb hx⟩
theorem Un.trans (a : Un fs ex H H1 h h1) (b : Un fs ex H1 H2 h1 h2) : Un fs ex H H2 h h2 where
  keep := fun c ob q n hc hx => b.keep c ob (a.keep c ob q n hc hx) (a.free c ob q n hx) hc hx
  slot := fun c ob q n hc hx => by
    obtain ⟨sl, e1⟩ := a.slot c ob q n hc hx
    obtain ⟨sl', e2⟩ := b.slot c _ e1 (a.free c ob q n hx) hc hx
    exact ⟨sl', e2⟩
  free := fun c ob q n hx => by
    obtain ⟨o', e1⟩ := a.there c ob q hx
    exact b.free c o' e1 (a.free c ob q n hx) hx
  there := fun c ob q hx => by
    obtain ⟨o', e1⟩ := a.there c ob q hx
    exact b.there c o' e1 hx
  tups := fun c xs q => b.tups c xs (a.tups c xs q)
  frzs := fun c ob xs q => b.frzs c ob xs (a.frzs c ob xs q)
  tbls := fun c ps q => by
    obtain ⟨m1, e1⟩ := a.tbls c ps q
    obtain ⟨m2, e2⟩ := b.tbls c _ e1
    exact ⟨m1 ++ m2, by rw [e2, Array.append_assoc]⟩
theorem Un.kept (k : ∀ b u, h.get? b = some u → h'.get? b = some u) : Un fs ex H H h h' :=
  ⟨fun b ob q _ _ _ => k b ob q, fun b ob q _ _ _ => ⟨ob.slots, k b ob q⟩, fun _ _ _ n _ => n, fun b ob q _ => ⟨ob, k b ob q⟩, fun _ _ q => q, fun _ _ _ q => q, fun _ ps q => ⟨#[], by rw [q]; simp⟩⟩
theorem Un.refl : Un fs ex H H h h := Un.kept fun _ _ q => q
theorem Un.laid (k : ∀ b u, h.get? b = some u → h'.get? b = some u) (hp : h.objs.size ≤ a) (hn : H a = none) : Un fs ex H (upd H a o) h h' where
  keep := fun b u q _ _ _ => k b u q
  slot := fun b u q _ _ _ => ⟨u.slots, k b u q⟩
  free := fun b u q n _ => by rw [upd_ne (Nat.ne_of_lt (Nat.lt_of_lt_of_le (Heap.lt_size q) hp))]; exact n
  there := fun b u q _ => ⟨u, k b u q⟩
  tups := fun b xs q => by rw [upd_ne (ne_of_none q hn)]; exact q
  frzs := fun b u xs q => by rw [upd_ne (ne_of_none q hn)]; exact q
  tbls := fun b ps q => ⟨#[], by rw [upd_ne (ne_of_none q hn), q]; simp⟩
theorem Un.write (mu : Mut (H x)) (he : e = x ∨ H e = some (.own x)) (k : ∀ b u, b ≠ e → h.get? b = some u → h'.get? b = some u) (heo : ∃ u, h'.get? e = some u) : Un fs ex H (upd H x o) h h' := by
  have hx : ∀ b, H b = none → b ≠ x := fun b n z => by subst z; rw [n] at mu; exact mu
  have hb : ∀ b, H b = none → b ≠ e := fun b n z => by
    subst z
    rcases he with r | r
    · exact hx b n r
    · rw [n] at r; cases r
  have hm : ∀ b u, H b = some u → ¬ Mut (some u) → b ≠ x := fun b u q nm z => by subst z; rw [q] at mu; exact nm mu
  refine ⟨fun b u q n _ _ => k b u (hb b n) q, fun b u q n _ _ => ⟨u.slots, k b u (hb b n) q⟩, fun b u q n _ => by rw [upd_ne (hx b n)]; exact n, fun b u q _ => ?_,
    fun b xs q => by rw [upd_ne (hm b _ q fun z => z)]; exact q, fun b u xs q => by rw [upd_ne (hm b _ q fun z => z)]; exact q, fun b ps q => ⟨#[], by rw [upd_ne (hm b _ q fun z => z), q]; simp⟩⟩
  by_cases hbe : b = e
  · subst hbe; exact heo
  · exact ⟨u, k b u hbe q⟩
theorem Un.mono (u : Un fs ex H H1 h h1) (hs : ∀ b ∈ fs, b ∈ fs') (hx : ∀ b ∈ ex, b ∈ ex') : Un fs' ex' H H1 h h1 :=
  ⟨fun b ob q n hb he => u.keep b ob q n (fun z => hb (hs b z)) fun z => he (hx b z), fun _ _ q n _ he => u.any q n fun z => he (hx _ z), fun b ob q n he => u.free b ob q n fun z => he (hx b z), fun b ob q he => u.there b ob q fun z => he (hx b z), u.tups, u.frzs, u.tbls⟩
end
def trk (h : Heap) (H : Hp) : List Addr := (List.range h.objs.size).filter fun a => (H a).isSome
def hidT (h : Heap) (H : Hp) : Heap := PySem.W.hideAll h (trk h H)
theorem hidT_size (h : Heap) (H : Hp) : (hidT h H).objs.size = h.objs.size := PySem.W.hideAll_size _ _
theorem hidT_get {h : Heap} {H : Hp} {b : Addr} {o : Obj} (e : h.get? b = some o) (n : H b = none) : (hidT h H).get? b = some o :=
  PySem.W.hideAll_get _ e fun hm => by
    have q : (H b).isSome = true := (List.mem_filter.mp hm).2
    rw [n] at q; simp at q
theorem of_hidT {h : Heap} {H : Hp} {b : Addr} {o : Obj} (e : (hidT h H).get? b = some o) : h.get? b = some o ∧ H b = none := by
  have e' : h.get? b = some o := PySem.W.of_hideAll (trk h H) e
  refine ⟨e', ?_⟩
  cases q : H b with
  | none => rfl
  | some x =>
    have hm : b ∈ trk h H := List.mem_filter.mpr ⟨List.mem_range.mpr (Heap.lt_size e'), by simp [q]⟩
    have z : (hidT h H).get? b = none := PySem.W.hideAll_none (trk h H) hm
    rw [z] at e; cases e
def allNews (g h : Heap) (L : Addr) : List (Addr × Obj) := (List.range h.objs.size).filterMap fun a => if a = L ∨ (g.get? a).isSome = true then none else (h.get? a).map fun o => (a, o)
def rest (g h : Heap) (L d : Addr) : List (Addr × Obj) := (allNews g h L).filter fun p => decide (p.1 ≠ d)
end L2
namespace L2
open PySem PySem.Spec PyProof.Rows
structure Mod (K : PySem.W.Frag) (mg : Str → Option Value) (base : Heap) : Prop where
  kin : K.In base
  glob : base.Ns mainGlobals mg
  blt : ∃ mb, base.Ns builtinsNs mb ∧ ∀ x : Str, x ≠ "__name__" → mb x = bootBuiltins x
  nolimit : base.NoLimit
structure Cx where
  prog : Program
  w : World
  K : PySem.W.Frag
  mg : Str → Option Value
  base : Heap
  A : Around
  N : List Str
  s₀ : Shared
  H₀ : Hp
  env : Env
  outer : List Env
  stack : List Env
  ex : List Addr
  fn : Str → Bool
  calm : Bool
  pn : List (Addr × Obj)
  xe : Value → Shared → Prop
def frs (l : List Env) : List Addr := l.filterMap (·.frame)
abbrev Cx.fs (X : Cx) : List Addr := frs X.outer
def Vis (sc : Scope) (x : Str) : Prop := sc.names.lookup x = some .local ∨ sc.names.lookup x = some .cell ∨ sc.names.lookup x = some .free
def Loc (sc : Scope) (x : Str) : Prop := sc.names.lookup x = some .local ∨ sc.names.lookup x = some .cell
def Look (env : Env) (h : Heap) (m : Str → Option Value) (x : Str) (u : Value) : Prop :=
  (env.kindOf x = some .local ∧ m x = some u) ∨ ((env.kindOf x = some .cell ∨ env.kindOf x = some .free) ∧ ∃ c, env.cells.lookup x = some c ∧ h.IsCell c (some u))
structure Cx.Ok (X : Cx) : Prop where
  mod : Mod X.K X.mg X.base
  kind : X.env.scope.kind = .function
  glob : X.env.globals = mainGlobals
  blt : X.env.builtins = builtinsNs
  above : X.s₀.heap.objs.size ≤ X.env.locals
  inj : ∀ x y c, X.env.cells.lookup x = some c → X.env.cells.lookup y = some c → x = y
  has : ∀ x, (X.env.kindOf x = some .cell ∨ X.env.kindOf x = some .free) → ∃ c, X.env.cells.lookup x = some c
  cab : ∀ x c, X.fn x = true → X.env.cells.lookup x = some c → X.s₀.heap.objs.size ≤ c
  hd : X.calm = true → X.A.handled = none
  frames : X.A.frames = some X.stack
  stk : X.stack = X.outer ∨ (X.stack = X.env :: X.outer ∧ X.env.frame = some X.env.locals)
  exf : ∀ b ∈ X.ex, b ≠ X.env.locals ∧ ∀ x c, X.env.cells.lookup x = some c → c ≠ b
  bs : ∀ b o, X.base.get? b = some o → X.s₀.heap.get? b = some o ∧ X.H₀ b = none
  bsz : X.base.objs.size ≤ X.s₀.heap.objs.size
  noex : ∀ b o, X.base.get? b = some o → b ∉ X.ex
  exfs : ∀ b ∈ X.ex, b ∉ X.fs
  funs : X.s₀.heap.FunFrames X.base X.outer
  frf : ∀ b ∈ X.fs, X.H₀ b = none
structure Inv (X : Cx) (pins : List (Addr × Obj)) (σ : List (Option V)) (H : Hp) (s : Shared) : Prop where
  ok : X.Ok
  os : s.os = X.s₀.os
  bare : AllBare s.gens
  base : Un X.fs X.ex X.H₀ H X.s₀.heap s.heap
  loc : ∃ m, s.heap.Ns X.env.locals m ∧ ∀ (i : Nat) (x : Str) (v : V), X.N[i]? = some x → σ[i]? = some (some v) → Vis X.env.scope x → ∃ u, RelV v u ∧ Look X.env s.heap m x u
  cell : ∀ x c, X.env.cells.lookup x = some c → ∃ v, s.heap.IsCell c v
  free : H X.env.locals = none
  freeC : ∀ x c, X.env.cells.lookup x = some c → H c = none
  pin : ∀ p ∈ X.pn ++ pins, s.heap.get? p.1 = some p.2 ∧ H p.1 = none ∧ p.1 ≠ X.env.locals ∧ p.1 ∉ X.fs ∧ ∀ v, p.2.data ≠ .cell v
  hok : HOk X.prog X.w H s.heap
  len : σ.length = X.N.length
section
variable {X : Cx} {pins : List (Addr × Obj)} {σ : List (Option V)} {H H' : Hp} {s : Shared} {h' : Heap}
theorem Cx.Ok.nofr (ok : X.Ok) {b : Addr} {o : Obj} (e : X.base.get? b = some o) : b ∉ X.fs := fun hb => by
  have := (ok.funs.mem hb).1
  rw [e] at this; cases this
theorem Inv.bs (I : Inv X pins σ H s) : ∀ b o, X.base.get? b = some o → s.heap.get? b = some o ∧ H b = none := fun b o e =>
  ⟨I.base.keep b o (I.ok.bs b o e).1 (I.ok.bs b o e).2 (I.ok.nofr e) (I.ok.noex b o e), I.base.free b o (I.ok.bs b o e).1 (I.ok.bs b o e).2 (I.ok.noex b o e)⟩
theorem Inv.bk (I : Inv X pins σ H s) : ∀ b o, X.base.get? b = some o → s.heap.get? b = some o := fun b o e => (I.bs b o e).1
theorem Inv.mod (I : Inv X pins σ H s) : Mod X.K X.mg X.base := I.ok.mod
theorem Inv.kIn (I : Inv X pins σ H s) : X.K.In s.heap := I.ok.mod.kin.keeps I.bk
theorem Inv.nolimit (I : Inv X pins σ H s) : s.heap.NoLimit := I.ok.mod.nolimit.keeps I.bk
theorem Inv.fr (I : Inv X pins σ H s) : ∃ m, Fr X.base X.env.locals s.heap m :=
  let ⟨m, hn, _⟩ := I.loc
  ⟨m, hn, I.bk, Nat.le_trans I.ok.bsz I.ok.above⟩
theorem Inv.lt (I : Inv X pins σ H s) : X.env.locals < s.heap.objs.size := let ⟨_, hn, _⟩ := I.loc; hn.lt
theorem Inv.sz (I : Inv X pins σ H s) : X.s₀.heap.objs.size ≤ s.heap.objs.size := Nat.le_trans I.ok.above (Nat.le_of_lt I.lt)
theorem Inv.nofs (I : Inv X pins σ H s) {a : Addr} (h : s.heap.objs.size ≤ a) : a ∉ X.fs := fun hb => by
  obtain ⟨_, o, ho, _⟩ := I.ok.funs.mem hb
  exact absurd (Nat.lt_of_lt_of_le (Heap.lt_size ho) (Nat.le_trans I.sz h)) (Nat.lt_irrefl _)
theorem Inv.cne (I : Inv X pins σ H s) : ∀ x c, X.env.cells.lookup x = some c → c ≠ X.env.locals := fun x c e z => by
  obtain ⟨v, o, ho, hd⟩ := I.cell x c e
  obtain ⟨m, ⟨o', es, ep, ho', hd', _⟩, _⟩ := I.loc
  rw [z, ho'] at ho; cases ho; rw [hd'] at hd; cases hd
theorem Inv.funs (I : Inv X pins σ H s) : s.heap.FunFrames X.base X.outer := by
  have all : ∀ (l : List Env), (∀ b ∈ frs l, b ∈ X.fs) → X.s₀.heap.FunFrames X.base l → s.heap.FunFrames X.base l := by
    intro l
    induction l with
    | nil => intro _ _; trivial
    | cons env r ih =>
      intro hs hl
      obtain ⟨hk, ⟨L, o, hf, hn, ho, hd⟩, hr⟩ := hl
      have hL : L ∈ X.fs := hs L (by unfold frs; rw [List.filterMap_cons, hf]; exact List.mem_cons_self)
      obtain ⟨sl, e⟩ := I.base.slot L o ho (I.ok.frf L hL) hL fun z => I.ok.exfs L z hL
      exact ⟨hk, ⟨L, _, hf, hn, e, hd⟩, ih (fun b hb => hs b (by unfold frs; rw [List.filterMap_cons, hf]; exact List.mem_cons_of_mem _ hb)) hr⟩
  exact all X.outer (fun _ hb => hb) I.ok.funs
theorem Inv.stack (I : Inv X pins σ H s) : s.heap.FunFrames X.base X.stack := by
  rcases I.ok.stk with e | ⟨e, hf⟩
  · rw [e]; exact I.funs
  · rw [e]
    obtain ⟨m, hn, _⟩ := I.loc
    refine .cons (by rw [I.ok.kind]; decide) hf hn ?_ I.funs
    exact Heap.get?_none_of_le (Nat.le_trans I.ok.bsz I.ok.above)
theorem Inv.stkSub (I : Inv X pins σ H s) : ∀ b ∈ frs X.stack, b ∈ X.env.locals :: X.fs := fun b hb => by
  rcases I.ok.stk with e | ⟨e, hf⟩
  · rw [e] at hb; exact List.mem_cons_of_mem _ hb
  · rw [e] at hb
    unfold frs at hb
    rw [List.filterMap_cons, hf] at hb
    exact hb
theorem Inv.stkFree (I : Inv X pins σ H s) : ∀ b ∈ frs X.stack, H b = none := fun b hb => by
  rcases List.mem_cons.mp (I.stkSub b hb) with e | hb
  · rw [e]; exact I.free
  · obtain ⟨_, o, ho, _⟩ := I.ok.funs.mem hb
    exact I.base.free b o ho (I.ok.frf b hb) fun z => I.ok.exfs b z hb
theorem Inv.step {g' : Array GenState} {t' : Nat} {d' : Drawn} {ch : List Addr} (I : Inv X pins σ H s)
    (hch : ∀ b ∈ ch, (b ∈ X.ex ∨ X.s₀.heap.objs.size ≤ b) ∧ b ≠ X.env.locals ∧ (∀ x c, X.env.cells.lookup x = some c → c ≠ b) ∧ ∀ p ∈ X.pn ++ pins, p.1 ≠ b)
    (keep : ∀ b o, b ≠ X.env.locals → b ∉ X.fs → b ∉ ch → s.heap.get? b = some o → H b = none → h'.get? b = some o)
    (slot : ∀ b o, b ≠ X.env.locals → b ∈ X.fs → b ∉ ch → s.heap.get? b = some o → H b = none → ∃ sl, h'.get? b = some { o with slots := sl }) (free : ∀ b o, b ∉ ch → s.heap.get? b = some o → H b = none → H' b = none)
    (there : ∀ b o, b ∉ ch → s.heap.get? b = some o → ∃ o', h'.get? b = some o')
    (tups : ∀ b xs, H b = some (.tup xs) → H' b = some (.tup xs)) (frzs : ∀ b o u, H b = some (.frz o u) → H' b = some (.frz o u)) (tbls : ∀ b ps, H b = some (.tbl ps) → ∃ more, H' b = some (.tbl (ps ++ more)))
    (ns : ∀ m, s.heap.Ns X.env.locals m → h'.Ns X.env.locals m) (hok : HOk X.prog X.w H' h') (hg : AllBare g') :
    Inv X pins σ H' { s with heap := h', gens := g', drawn := d', toks := t' } := by
  have neL : ∀ b o, X.s₀.heap.get? b = some o → b ≠ X.env.locals := fun b o e => Nat.ne_of_lt (Nat.lt_of_lt_of_le (Heap.lt_size e) I.ok.above)
  have neC : ∀ b o, X.s₀.heap.get? b = some o → b ∉ X.ex → b ∉ ch := fun b o e hx hb => by
    rcases (hch b hb).1 with z | z
    · exact hx z
    · exact absurd (Nat.lt_of_lt_of_le (Heap.lt_size e) z) (Nat.lt_irrefl _)
  have cellK : ∀ x c, X.env.cells.lookup x = some c → ∀ v, s.heap.IsCell c v → h'.IsCell c v := fun x c e v ⟨o, ho, hd⟩ => by
    have nch : c ∉ ch := fun z => (hch c z).2.2.1 x c e rfl
    by_cases hc : c ∈ X.fs
    · obtain ⟨sl, q⟩ := slot c o (I.cne x c e) hc nch ho (I.freeC x c e)
      exact ⟨_, q, hd⟩
    · exact ⟨o, keep c o (I.cne x c e) hc nch ho (I.freeC x c e), hd⟩
  refine ⟨I.ok, I.os, hg, ⟨fun b o e n hb hx => ?_, fun b o e n hb hx => ?_, fun b o e n hx => ?_, fun b o e hx => ?_, fun b xs e => tups b xs (I.base.tups b xs e), fun b o xs e => frzs b o xs (I.base.frzs b o xs e), fun b ps e => ?_⟩, ?_, fun x c e => ?_, ?_, fun x c e => ?_, fun p hp => ?_, hok, I.len⟩
  · exact keep b o (neL b o e) hb (neC b o e hx) (I.base.keep b o e n hb hx) (I.base.free b o e n hx)
  · obtain ⟨sl, e1⟩ := I.base.slot b o e n hb hx
    obtain ⟨sl', e2⟩ := slot b _ (neL b o e) hb (neC b o e hx) e1 (I.base.free b o e n hx)
    exact ⟨sl', e2⟩
  · obtain ⟨o', e1⟩ := I.base.there b o e hx
    exact free b o' (neC b o e hx) e1 (I.base.free b o e n hx)
  · obtain ⟨o', e1⟩ := I.base.there b o e hx
    exact there b o' (neC b o e hx) e1
  · obtain ⟨m1, e1⟩ := I.base.tbls b ps e
    obtain ⟨m2, e2⟩ := tbls b _ e1
    exact ⟨m1 ++ m2, by rw [e2, Array.append_assoc]⟩
  · obtain ⟨m, hn, hl⟩ := I.loc
    refine ⟨m, ns m hn, fun i x v e1 e2 e3 => ?_⟩
    obtain ⟨u, r, l⟩ := hl i x v e1 e2 e3
    refine ⟨u, r, ?_⟩
    rcases l with l | ⟨k, c, e, z⟩
    · exact .inl l
    · exact .inr ⟨k, c, e, cellK x c e _ z⟩
  · obtain ⟨v, z⟩ := I.cell x c e
    exact ⟨v, cellK x c e v z⟩
  · obtain ⟨m, ⟨o, _, _, ho, _⟩, _⟩ := I.loc
    exact free _ o (fun z => (hch _ z).2.1 rfl) ho I.free
  · obtain ⟨v, o, ho, hd⟩ := I.cell x c e
    exact free c o (fun z => (hch c z).2.2.1 x c e rfl) ho (I.freeC x c e)
  · obtain ⟨e, n, ne, nf, d⟩ := I.pin p hp
    have nch : p.1 ∉ ch := fun z => (hch p.1 z).2.2.2 p hp rfl
    exact ⟨keep p.1 p.2 ne nf nch e n, free p.1 p.2 nch e n, ne, nf, d⟩
theorem Inv.un {t' : Nat} (I : Inv X pins σ H s) (u : Un X.fs [] H H' s.heap h') (hok : HOk X.prog X.w H' h') : Inv X pins σ H' { s with heap := h', toks := t' } := by
  obtain ⟨m, ⟨o, es, ep, ho, r⟩, _⟩ := id I.loc
  obtain ⟨sl, hL⟩ := u.any ho I.free (by simp)
  exact I.step (g' := s.gens) (d' := s.drawn) (ch := []) (fun _ z => nomatch z) (fun b o _ hb _ e n => u.keep b o e n hb (by simp)) (fun b o _ hb _ e n => u.slot b o e n hb (by simp)) (fun b o _ e n => u.free b o e n (by simp)) (fun b o _ e => u.there b o e (by simp)) u.tups u.frzs u.tbls (fun m' hm => by
    obtain ⟨o', es', ep', ho', r'⟩ := hm
    rw [ho] at ho'; cases ho'
    exact ⟨_, es', ep', hL, r'⟩) hok I.bare
theorem Inv.call {g' : Array GenState} {t' : Nat} {d' : Drawn} {ch : List Addr} (I : Inv X pins σ H s) (u : Un (frs X.stack) ch H H' s.heap h') (hok : HOk X.prog X.w H' h') (hg : AllBare g')
    (hch : ∀ b ∈ ch, (b ∈ X.ex ∨ X.s₀.heap.objs.size ≤ b) ∧ b ≠ X.env.locals ∧ (∀ x c, X.env.cells.lookup x = some c → c ≠ b) ∧ ∀ p ∈ X.pn ++ pins, p.1 ≠ b) :
    Inv X pins σ H' { s with heap := h', gens := g', drawn := d', toks := t' } := by
  obtain ⟨m, ⟨o, es, ep, ho, r⟩, _⟩ := id I.loc
  obtain ⟨sl, hL⟩ := u.any ho I.free fun z => (hch _ z).2.1 rfl
  exact I.step (ch := ch) hch (fun b o hL hb hc e n => u.keep b o e n (fun z => (List.mem_cons.mp (I.stkSub b z)).elim hL hb) hc) (fun b o _ _ hc e n => u.any e n hc) (fun b o hc e n => u.free b o e n hc) (fun b o hc e => u.there b o e hc) u.tups u.frzs u.tbls (fun m' hm => by
    obtain ⟨o', es', ep', ho', r'⟩ := hm
    rw [ho] at ho'; cases ho'
    exact ⟨_, es', ep', hL, r'⟩) hok hg
theorem Inv.turned {t' : Nat} {it : Addr} (I : Inv X pins σ H s) (k : ∀ b o, b ≠ it → s.heap.get? b = some o → h'.get? b = some o) (hn : H it = none) (hL : it ≠ X.env.locals)
    (h1 : it ∈ X.ex ∨ X.s₀.heap.objs.size ≤ it) (h2 : ∀ x c, X.env.cells.lookup x = some c → c ≠ it) (h3 : ∀ p ∈ X.pn ++ pins, p.1 ≠ it) : Inv X pins σ H { s with heap := h', toks := t' } := by
  have nit : ∀ b u, H b = some u → b ≠ it := fun b u e z => by rw [z, hn] at e; cases e
  refine I.step (g' := s.gens) (d' := s.drawn) (ch := [it]) (fun b hb => ?_) (fun b o _ _ hc e _ => k b o (fun z => hc (by simp [z])) e) (fun b o _ _ hc e _ => ⟨o.slots, k b o (fun z => hc (by simp [z])) e⟩) (fun _ _ _ _ n => n)
    (fun b o hc e => ⟨o, k b o (fun z => hc (by simp [z])) e⟩) (fun _ _ e => e) (fun _ _ _ e => e) (fun b ps e => ⟨#[], by rw [e]; simp⟩) (fun m hm => ?_) (fun b u e => ?_) I.bare
  · have e : b = it := by simpa using hb
    subst e
    exact ⟨h1, hL, h2, h3⟩
  · obtain ⟨o, es, ep, ho, r⟩ := hm
    exact ⟨o, es, ep, k _ o (Ne.symm hL) ho, r⟩
  · refine (I.hok b u e).stay (fun c v hc q => k c v ?_ q) (fun _ q => q) fun _ _ q => q
    rcases hc with z | z
    · rw [z]; exact nit b u e
    · exact nit c _ z
theorem Inv.tok (I : Inv X pins σ H s) (t : Nat) : Inv X pins σ H { s with toks := t } := I.un (h' := s.heap) (t' := t) Un.refl I.hok
theorem Inv.kept {t' : Nat} (I : Inv X pins σ H s) (k : ∀ b u, s.heap.get? b = some u → h'.get? b = some u) : Inv X pins σ H { s with heap := h', toks := t' } := I.un (Un.kept k) (I.hok.kept k)
theorem Inv.laid {a : Addr} {o : HO} {t' : Nat} (I : Inv X pins σ H s) (k : ∀ b u, s.heap.get? b = some u → h'.get? b = some u) (hp : s.heap.objs.size ≤ a) (new : ObjOk X.prog X.w (upd H a o) h' a o) :
    Inv X pins σ (upd H a o) { s with heap := h', toks := t' } := I.un (Un.laid k hp (I.hok.fresh hp)) (I.hok.laid k hp new)
theorem Inv.write {x e : Addr} {o : HO} {t' : Nat} (I : Inv X pins σ H s) (mu : Mut (H x)) (he : e = x ∨ H e = some (.own x)) (k : ∀ b u, b ≠ e → s.heap.get? b = some u → h'.get? b = some u) (heo : ∃ u, h'.get? e = some u)
    (new : ObjOk X.prog X.w (upd H x o) h' x o) : Inv X pins σ (upd H x o) { s with heap := h', toks := t' } := I.un (Un.write mu he k heo) (I.hok.write mu he k heo new)
theorem Inv.weak {σ' : List (Option V)} (I : Inv X pins σ H s) (hl : σ'.length = σ.length) (w : ∀ (i : Nat) v, σ'[i]? = some (some v) → σ[i]? = some (some v)) : Inv X pins σ' H s :=
  ⟨I.ok, I.os, I.bare, I.base, let ⟨m, hn, hl'⟩ := I.loc; ⟨m, hn, fun i x v e1 e2 e3 => hl' i x v e1 (w i v e2) e3⟩, I.cell, I.free, I.freeC, I.pin, I.hok, hl.trans I.len⟩
theorem Inv.pins_of {pins' : List (Addr × Obj)} (I : Inv X pins σ H s) (h : ∀ p ∈ pins', s.heap.get? p.1 = some p.2 ∧ H p.1 = none ∧ p.1 ≠ X.env.locals ∧ p.1 ∉ X.fs ∧ ∀ v, p.2.data ≠ .cell v) : Inv X pins' σ H s :=
  ⟨I.ok, I.os, I.bare, I.base, I.loc, I.cell, I.free, I.freeC, fun p hp => (List.mem_append.mp hp).elim (fun z => I.pin p (List.mem_append_left _ z)) (h p), I.hok, I.len⟩
theorem nodup_ix {N : List Str} (hN : N.Nodup) {i j : Nat} {x : Str} (a : N[i]? = some x) (b : N[j]? = some x) : i = j := by
  obtain ⟨h1, e1⟩ := List.getElem?_eq_some_iff.mp a
  obtain ⟨h2, e2⟩ := List.getElem?_eq_some_iff.mp b
  exact (List.getElem_inj hN).mp (e1.trans e2.symm)
theorem store_ok2 {M : Model} {A : Around} {E : Value → Shared → Prop} {i : Nat} {x : Str} {v : V} {u : Value} {Q : Unit → Shared → Prop} (I : Inv X pins σ H s) (hN : X.N.Nodup) (hi : X.N[i]? = some x) (hx : Loc X.env.scope x) (r : RelV v u)
    (h : ∀ s', Inv X pins (σ.set i (some v)) H s' → (∃ a, Heap.SameBut a s.heap s'.heap ∧ (a = X.env.locals ∨ X.env.cells.lookup x = some a)) → Q () s') (hf : X.fn x = true ∨ X.env.scope.names.lookup x = some .local := by first | exact .inl rfl | exact .inr rfl | assumption) : wpAny M A (storeName X.env x u) Q E s := by
  obtain ⟨m, hn, hl⟩ := id I.loc
  have hcls : (X.env.scope.kind == .class || (X.env.scope.kind == .module && X.env.locals != X.env.globals)) = false := by rw [I.ok.kind]; rfl
  have hiσ : i < σ.length := by rw [I.len]; exact (List.getElem?_eq_some_iff.mp hi).1
  have cne := I.cne
  have tracked : ∀ {a : Addr} {h' : Heap}, (∃ o, s.heap.get? a = some o ∧ H a = none) → Heap.SameBut a s.heap h' → HOk X.prog X.w H h' := fun {a h'} ha hs b ob e => by
    obtain ⟨_, _, hfree⟩ := ha
    refine (I.hok b ob e).stay (fun c w' hc q => (hs.2 c ?_).trans q) (fun _ q => q) fun _ _ q => q
    rintro rfl
    rcases hc with rfl | hc
    · rw [hfree] at e; cases e
    · rw [hfree] at hc; cases hc
  rcases hx with hk | hk
  · refine wpAny_storeName_local hk hn (fun h' hn' hs => ?_) hcls
    obtain ⟨oL, _, _, hoL, _⟩ := id hn
    refine h _ ⟨I.ok, I.os, I.bare, ⟨fun b o e n hb hx => ?_, fun b o e n hb hx => ?_, I.base.free, fun b o e hx => ?_, I.base.tups, I.base.frzs, I.base.tbls⟩, ⟨_, hn', fun j y v' e1 e2 e3 => ?_⟩, fun y c e => ?_, I.free, I.freeC, fun p hp => ?_, tracked ⟨oL, hoL, I.free⟩ hs, by simpa using I.len⟩ ⟨_, hs, .inl rfl⟩
    · exact (hs.2 b (Nat.ne_of_lt (Nat.lt_of_lt_of_le (Heap.lt_size e) I.ok.above))).trans (I.base.keep b o e n hb hx)
    · obtain ⟨sl, e1⟩ := I.base.slot b o e n hb hx
      exact ⟨sl, (hs.2 b (Nat.ne_of_lt (Nat.lt_of_lt_of_le (Heap.lt_size e) I.ok.above))).trans e1⟩
    · obtain ⟨o', e1⟩ := I.base.there b o e hx
      exact ⟨o', (hs.2 b (Nat.ne_of_lt (Nat.lt_of_lt_of_le (Heap.lt_size e) I.ok.above))).trans e1⟩
    · by_cases hj : j = i
      · subst hj
        rw [hi] at e1; cases e1
        rw [List.getElem?_set_self hiσ] at e2
        cases e2
        exact ⟨u, r, .inl ⟨hk, by simp⟩⟩
      · rw [List.getElem?_set_ne (Ne.symm hj)] at e2
        obtain ⟨u', r', q⟩ := hl j y v' e1 e2 e3
        refine ⟨u', r', ?_⟩
        rcases q with ⟨k, e⟩ | ⟨k, c, e, z⟩
        · refine .inl ⟨k, ?_⟩
          have : y ≠ x := fun e => hj (nodup_ix hN e1 (e ▸ hi))
          simp [this, e]
        · exact .inr ⟨k, c, e, z.sameBut hs (cne y c e)⟩
    · obtain ⟨w', z⟩ := I.cell y c e
      exact ⟨w', z.sameBut hs (cne y c e)⟩
    · obtain ⟨e, n, ne, nf, d⟩ := I.pin p hp
      exact ⟨(hs.2 p.1 ne).trans e, n, ne, nf, d⟩
  · have hfn : X.fn x = true := by
      rcases hf with z | z
      · exact z
      · rw [z] at hk; cases hk
    obtain ⟨c, hc⟩ := I.ok.has x (.inl hk)
    obtain ⟨w', z⟩ := I.cell x c hc
    refine wpAny_storeName_cell I.ok.kind hk hc z (fun h' hc' hs => ?_)
    obtain ⟨oc, hoc, hocd⟩ := id z
    refine h { s with heap := h' } ⟨I.ok, I.os, I.bare, ⟨fun b o e n hb hx => ?_, fun b o e n hb hx => ?_, I.base.free, fun b o e hx => ?_, I.base.tups, I.base.frzs, I.base.tbls⟩, ⟨m, hn.sameBut hs (Ne.symm (cne x c hc)), fun j y v' e1 e2 e3 => ?_⟩, fun y c' e => ?_, I.free, I.freeC, fun p hp => ?_, tracked ⟨oc, hoc, I.freeC x c hc⟩ hs, by simpa using I.len⟩ ⟨c, hs, .inr hc⟩
    · exact (hs.2 b (Nat.ne_of_lt (Nat.lt_of_lt_of_le (Heap.lt_size e) (I.ok.cab x c hfn hc)))).trans (I.base.keep b o e n hb hx)
    · obtain ⟨sl, e1⟩ := I.base.slot b o e n hb hx
      exact ⟨sl, (hs.2 b (Nat.ne_of_lt (Nat.lt_of_lt_of_le (Heap.lt_size e) (I.ok.cab x c hfn hc)))).trans e1⟩
    · obtain ⟨o', e1⟩ := I.base.there b o e hx
      exact ⟨o', (hs.2 b (Nat.ne_of_lt (Nat.lt_of_lt_of_le (Heap.lt_size e) (I.ok.cab x c hfn hc)))).trans e1⟩
    · by_cases hj : j = i
      · subst hj
        rw [hi] at e1; cases e1
        rw [List.getElem?_set_self hiσ] at e2
        cases e2
        exact ⟨u, r, .inr ⟨.inl hk, c, hc, hc'⟩⟩
      · rw [List.getElem?_set_ne (Ne.symm hj)] at e2
        obtain ⟨u', r', q⟩ := hl j y v' e1 e2 e3
        refine ⟨u', r', ?_⟩
        rcases q with q | ⟨k, c', e, z'⟩
        · exact .inl q
        · refine .inr ⟨k, c', e, z'.sameBut hs ?_⟩
          rintro rfl
          exact hj (nodup_ix hN e1 (I.ok.inj _ _ _ e hc ▸ hi))
    · by_cases hcc : c' = c
      · subst hcc; exact ⟨_, hc'⟩
      · obtain ⟨w2, z2⟩ := I.cell y c' e
        exact ⟨w2, z2.sameBut hs hcc⟩
    · obtain ⟨e, n, ne, nf, d⟩ := I.pin p hp
      refine ⟨(hs.2 p.1 ?_).trans e, n, ne, nf, d⟩
      intro q
      rw [q, hoc] at e
      have q' : oc = p.2 := Option.some.inj e
      exact d w' (by rw [← q']; exact hocd)
theorem store_ok {M : Model} {A : Around} {E : Value → Shared → Prop} {i : Nat} {x : Str} {v : V} {u : Value} {Q : Unit → Shared → Prop} (I : Inv X pins σ H s) (hN : X.N.Nodup) (hi : X.N[i]? = some x) (hx : Loc X.env.scope x) (r : RelV v u)
    (h : ∀ s', Inv X pins (σ.set i (some v)) H s' → Q () s') (hf : X.fn x = true ∨ X.env.scope.names.lookup x = some .local := by first | exact .inl rfl | exact .inr rfl | assumption) : wpAny M A (storeName X.env x u) Q E s :=
  store_ok2 I hN hi hx r (fun s' I' _ => h s' I') hf
theorem Inv.call' {s' : Shared} {ch : List Addr} (I : Inv X pins σ H s) (ho : s'.os = s.os) (u : Un (frs X.stack) ch H H' s.heap s'.heap) (hok : HOk X.prog X.w H' s'.heap) (hg : AllBare s'.gens)
    (hch : ∀ b ∈ ch, (b ∈ X.ex ∨ X.s₀.heap.objs.size ≤ b) ∧ b ≠ X.env.locals ∧ (∀ x c, X.env.cells.lookup x = some c → c ≠ b) ∧ ∀ p ∈ X.pn ++ pins, p.1 ≠ b) : Inv X pins σ H' s' := by
  obtain ⟨h', g', d', t', o'⟩ := s'
  have e : o' = s.os := ho
  subst e
  exact I.call (g' := g') (t' := t') (d' := d') u hok hg hch
end
abbrev XK := Value → Option Addr → Hp → Prop
abbrev St := List (Option V)
abbrev VK := V → Hp → Prop
abbrev TE := St → Hp → VK → Prop
abbrev TT := St → Hp → (Bool → Hp → Prop) → Prop
abbrev TA := St → Hp → (List V → Hp → Prop) → Prop
structure Ends where
  nx : St → Hp → Prop
  rt : VK
  bk : St → Hp → Prop := fun _ _ => False
  ct : St → Hp → Prop := fun _ _ => False
abbrev TS := Ends → St → Hp → Prop
inductive EP (X : Cx) (pins : List (Addr × Obj)) (σ : St) (Q : VK) (u : Value) (s' : Shared) : Prop
  | mk (v : V) (H' : Hp) (h1_ : Inv X pins σ H' s') (h2_ : RelV v u) (h3_ : Q v H') : EP X pins σ Q u s'
inductive TP (X : Cx) (pins : List (Addr × Obj)) (σ : St) (Q : Bool → Hp → Prop) (b : Bool) (s' : Shared) : Prop
  | mk (H' : Hp) (h1_ : Inv X pins σ H' s') (h2_ : Q b H') : TP X pins σ Q b s'
inductive AP (X : Cx) (pins : List (Addr × Obj)) (σ : St) (Q : List V → Hp → Prop) (us : List Value) (s' : Shared) : Prop
  | mk (vs : List V) (H' : Hp) (h1_ : Inv X pins σ H' s') (h2_ : Vals vs us) (h3_ : Q vs H') : AP X pins σ Q us s'
inductive IP (X : Cx) (pins : List (Addr × Obj)) (k : St → Hp → Prop) (s' : Shared) : Prop
  | mk (σ' : St) (H' : Hp) (h1_ : Inv X pins σ' H' s') (h2_ : k σ' H') : IP X pins k s'
inductive JP (X : Cx) (pins : List (Addr × Obj)) (k : VK) (u : Value) (s' : Shared) : Prop
  | mk (v : V) (σ' : St) (H' : Hp) (h1_ : Inv X pins σ' H' s') (h2_ : RelV v u) (h3_ : k v H') : JP X pins k u s'
def SP (X : Cx) (pins : List (Addr × Obj)) (D : Ends) (f : Flow) (s' : Shared) : Prop :=
  match f with
  | .next => IP X pins D.nx s'
  | .brk => IP X pins D.bk s'
  | .cont => IP X pins D.ct s'
  | .ret u => JP X pins D.rt u s'
def PE (X : Cx) (e : Expr) (t : TE) : Prop :=
  ∀ (pins : List (Addr × Obj)) (s : Shared) (σ : St) (H : Hp) (Q : VK), Inv X pins σ H s → t σ H Q → wpAny (model X.prog X.w) X.A (eval e X.env) (EP X pins σ Q) X.xe s
def PT (X : Cx) (e : Expr) (t : TT) : Prop :=
  ∀ (pins : List (Addr × Obj)) (s : Shared) (σ : St) (H : Hp) (Q : Bool → Hp → Prop), Inv X pins σ H s → t σ H Q → wpAny (model X.prog X.w) X.A (isTrue e X.env (eval e X.env)) (TP X pins σ Q) X.xe s
def PW (X : Cx) (e : Expr) (t : TT) : Prop :=
  ∀ (whole : Sem Value) (pins : List (Addr × Obj)) (s : Shared) (σ : St) (H : Hp) (Q : Bool → Hp → Prop), Inv X pins σ H s → t σ H Q → wpAny (model X.prog X.w) X.A (isTrue e X.env whole) (TP X pins σ Q) X.xe s
theorem PW.pt {X : Cx} {e : Expr} {t : TT} (h : PW X e t) : PT X e t := h _
def PA (X : Cx) (es : List Expr) (t : TA) : Prop :=
  ∀ (pos : Pos) (pins : List (Addr × Obj)) (s : Shared) (σ : St) (H : Hp) (Q : List V → Hp → Prop), Inv X pins σ H s → t σ H Q → wpAny (model X.prog X.w) X.A (spliced (backTo pos (starEach es X.env))) (AP X pins σ Q) X.xe s
def PS (X : Cx) (st : Stmt) (t : TS) : Prop :=
  ∀ (pins : List (Addr × Obj)) (s : Shared) (σ : St) (H : Hp) (D : Ends), Inv X pins σ H s → t D σ H → wpAny (model X.prog X.w) X.A (exec st X.env) (SP X pins D) X.xe s
def PSs (X : Cx) (st : List Stmt) (t : TS) : Prop :=
  ∀ (pins : List (Addr × Obj)) (s : Shared) (σ : St) (H : Hp) (D : Ends), Inv X pins σ H s → t D σ H → wpAny (model X.prog X.w) X.A (execs st X.env) (SP X pins D) X.xe s
theorem thn {α : Type} {t : Sem α} {Q Q' : α → Shared → Prop} {M : Model} {A : Around} {E : Value → Shared → Prop} {s : Shared} (h : wpAny M A t Q E s) (hQ : ∀ a s, Q a s → Q' a s) : wpAny M A t Q' E s := wpAny_mono h hQ fun _ _ x => x
end L2
namespace L2
open PySem PySem.Spec PyProof.Rows
section
variable {X : Cx}
theorem bin {a b : Expr} {ta tb : TE} (ha : PE X a ta) (hb : PE X b tb) {pins : List (Addr × Obj)} {s : Shared} {σ : St} {H : Hp} {R : V → V → Hp → Prop} (I : Inv X pins σ H s) (h : ta σ H fun x H1 => tb σ H1 fun y H2 => R x y H2)
    {α : Type} {Q : α → Shared → Prop} {f : Value → Value → Sem α}
    (hf : ∀ v u s2 x y H2, Inv X pins σ H2 s2 → RelV x v → RelV y u → R x y H2 → wpAny (model X.prog X.w) X.A (f v u) Q X.xe s2) :
    wpAny (model X.prog X.w) X.A (eval a X.env) (fun v s₁ => wpAny (model X.prog X.w) X.A (eval b X.env) (fun u s₂ => wpAny (model X.prog X.w) X.A (f v u) Q X.xe s₂) X.xe s₁) X.xe s := by
  refine thn (ha pins s σ H _ I h) fun v s1 ⟨x, H1, I1, r1, q1⟩ => ?_
  refine thn (hb pins s1 σ H1 _ I1 q1) fun u s2 ⟨y, H2, I2, r2, q2⟩ => ?_
  exact hf v u s2 x y H2 I2 r1 r2 q2
inductive tVar (i : Nat) (σ : St) (H : Hp) (Q : VK) : Prop
  | mk (v : _) (h1_ : σ[i]? = some (some v)) (h2_ : Q v H) : tVar i σ H Q
def tC (v : V) : TE := fun _ H Q => Q v H
theorem pe_var {i : Nat} {x : Str} {pos : Pos} (hN : X.N[i]? = some x) (hv : Vis X.env.scope x) (hd : (x == ("__debug__" : Str)) = false := by decide) (hcd : (x == ("__classdict__" : Str)) = false := by decide) : PE X (.Name x pos) (tVar i) := by
  intro pins s σ H Q I h
  obtain ⟨v, e, h⟩ := h
  obtain ⟨m, hn, hl⟩ := I.loc
  obtain ⟨u, r, l⟩ := hl i x v hN e hv
  have fin : EP X pins σ Q u s := ⟨v, H, I, r, h⟩
  rcases l with ⟨hk, hm⟩ | ⟨hk, c, hc, hcell⟩
  · exact wpAny_Name (wpAny_loadName_local I.ok.kind hk hn hm fin) hd
  · rcases hk with hk | hk
    · exact wpAny_Name (wpAny_loadName_cell I.ok.kind hk hc hcell fin) hd
    · exact wpAny_Name (wpAny_loadName_free I.ok.kind hk hc hcell fin hcd) hd
theorem pe_int {i j pos} : PE X (.Constant (.int i) j pos) (tC (.int i)) := fun _ _ _ H _ I h => wpAny_Constant_int ⟨.int i, H, I.tok _, ⟨_, rfl⟩, h⟩
theorem pe_bl {b j pos} : PE X (.Constant (.bool b) j pos) (tC (.bl b)) := fun _ _ _ H _ I h => Constant_bool ⟨.bl b, H, I, rfl, h⟩
theorem pe_str {x j pos} : PE X (.Constant (.str x) j pos) (tC (.str x)) := fun _ _ _ H _ I h => Calls.Constant_str ⟨.str x, H, I.tok _, ⟨_, rfl⟩, h⟩
def Gl (X : Cx) (x : Str) : Prop := X.env.kindOf x = some .globalImplicit
theorem ld_glob {E : Value → Shared → Prop} {pins : List (Addr × Obj)} {s : Shared} {σ : St} {H : Hp} {x : Str} {u : Value} {pos : Pos} {Q : Value → Shared → Prop} (I : Inv X pins σ H s) (hg : Gl X x) (hm : X.mg x = some u) (h : Q u s)
    (hd : (x == ("__debug__" : Str)) = false := by decide) : wpAny (model X.prog X.w) X.A (eval (.Name x pos) X.env) Q E s :=
  Calls.Name_function_global I.ok.kind hg (Calls.loadGlobal_global (by rw [I.ok.glob]; exact I.mod.glob.keeps I.bk) hm h) hd
theorem ld_blt {E : Value → Shared → Prop} {pins : List (Addr × Obj)} {s : Shared} {σ : St} {H : Hp} {x : Str} {u : Value} {pos : Pos} {Q : Value → Shared → Prop} (I : Inv X pins σ H s) (hg : Gl X x) (hm : X.mg x = none) (hv : bootBuiltins x = some u) (h : Q u s)
    (hn : x ≠ "__name__" := by decide) (hd : (x == ("__debug__" : Str)) = false := by decide) : wpAny (model X.prog X.w) X.A (eval (.Name x pos) X.env) Q E s := by
  obtain ⟨mb, h1, h2⟩ := I.mod.blt
  exact Calls.Name_function_global I.ok.kind hg (Calls.loadGlobal_builtin (by rw [I.ok.glob]; exact I.mod.glob.keeps I.bk) hm (by rw [I.ok.blt]; exact h1.keeps I.bk) ((h2 x hn).trans hv) h) hd
theorem pe_bltn {x : Str} {v : V} {u : Value} {pos : Pos} (hg : Gl X x) (hm : X.mg x = none) (hv : bootBuiltins x = some u) (r : RelV v u) (hn : x ≠ "__name__" := by decide) (hd : (x == ("__debug__" : Str)) = false := by decide) : PE X (.Name x pos) (tC v) :=
  fun _ _ _ H _ I h => ld_blt I hg hm hv ⟨v, H, I, r, h⟩ hn hd
variable {a b : Expr} {ta tb : TE} {pos : Pos}
def PC (X : Cx) (op : CmpOp) (a b : Expr) (t : TE) : Prop :=
  ∀ (pins : List (Addr × Obj)) (s : Shared) (σ : St) (H : Hp) (Q : VK), Inv X pins σ H s → t σ H Q →
    wpAny (model X.prog X.w) X.A (eval a X.env) (fun v s₁ => wpAny (model X.prog X.w) X.A (eval b X.env) (fun u s₂ => wpAny (model X.prog X.w) X.A (compareOp op v u) (EP X pins σ Q) X.xe s₂) X.xe s₁) X.xe s
theorem nobehind (b : Expr) {op : CmpOp} (h : op ≠ .In) (h2 : op ≠ .NotIn) : behindInMarks op b = false := by
  have e1 : (op == CmpOp.In) = false := by cases op <;> first | rfl | exact absurd rfl h
  have e2 : (op == CmpOp.NotIn) = false := by cases op <;> first | rfl | exact absurd rfl h2
  cases b <;> simp [behindInMarks, e1, e2]
inductive tBI (Q : (Bool → Hp → Prop)) (x : V) (H1 : Hp) : Prop
  | mk (c : _) (h1_ : x = .bl c) (h2_ : Q c H1) : tBI Q x H1
def tB (t : TE) : TT := fun σ H Q => t σ H fun x H1 => tBI Q x H1
theorem pt_cmp {op : CmpOp} {t : TE} (h : PC X op a b t) (h1 : behindInMarks op b = false := by first | exact nobehind _ (by decide) (by decide) | rfl) : PT X (.Compare a [op] [b] pos) (tB t) := by
  intro pins s σ H Q I hw
  refine wpAny_isTrue_Compare1 (thn (h pins s σ H _ I hw) fun v s1 h1 => thn h1 fun u s2 h2 => thn h2 fun c s3 ⟨x, H1, I1, r1, q1⟩ => ?_) h1
  obtain ⟨d, rfl, q⟩ := q1
  cases r1
  exact wpAny_truthy_bool ⟨H1, I1, q⟩
theorem pt_val {e : Expr} {t : TE} (h : PE X e t) (he : ∀ whole, isTrue e X.env whole = (do let v ← whole; standAt e.pos; holding [v] (truthy v)) := by intro _; rfl) : PT X e (tB t) := by
  intro pins s σ H Q I hw
  refine isTrue_plain (thn (h pins s σ H _ I hw) fun v s1 ⟨x, H1, I1, r1, q1⟩ => ?_) (he _)
  obtain ⟨d, rfl, q⟩ := q1
  cases r1
  exact wpAny_truthy_bool ⟨H1, I1, q⟩
variable {tA tB' : TT} {rest : List Expr}
def tAnd (t u : TT) : TT := fun σ H Q => t σ H fun c H1 => if c = true then u σ H1 Q else Q false H1
def tOr (t u : TT) : TT := fun σ H Q => t σ H fun c H1 => if c = true then Q true H1 else u σ H1 Q
def tNot (t : TT) : TT := fun σ H Q => t σ H fun c H1 => Q (!c) H1
theorem pw_and1 (ha : PT X a tA) : PW X (.BoolOp .And [a] pos) tA := by
  intro wh pins s σ H Q I h
  refine isTrue_and (thn (ha pins s σ H Q I h) fun c s1 e => ?_)
  cases c with
  | true => exact isTrue_and_nil e
  | false => exact e
theorem pw_or1 (ha : PT X a tA) : PW X (.BoolOp .Or [a] pos) tA := by
  intro wh pins s σ H Q I h
  refine isTrue_or (thn (ha pins s σ H Q I h) fun c s1 e => ?_)
  cases c with
  | false => exact isTrue_or_nil e
  | true => exact e
theorem pw_and (ha : PT X a tA) (hb : PW X (.BoolOp .And (b :: rest) pos) tB') : PW X (.BoolOp .And (a :: b :: rest) pos) (tAnd tA tB') := by
  intro wh pins s σ H Q I h
  refine isTrue_and (thn (ha pins s σ H _ I h) fun c s1 ⟨H1, I1, q1⟩ => ?_)
  cases c with
  | true => exact hb wh pins s1 σ H1 Q I1 q1
  | false => exact ⟨H1, I1, q1⟩
theorem pw_or (ha : PT X a tA) (hb : PW X (.BoolOp .Or (b :: rest) pos) tB') : PW X (.BoolOp .Or (a :: b :: rest) pos) (tOr tA tB') := by
  intro wh pins s σ H Q I h
  refine isTrue_or (thn (ha pins s σ H _ I h) fun c s1 ⟨H1, I1, q1⟩ => ?_)
  cases c with
  | true => exact ⟨H1, I1, q1⟩
  | false => exact hb wh pins s1 σ H1 Q I1 q1
theorem pt_not (ha : PT X a tA) : PT X (.UnaryOp .Not a pos) (tNot tA) := by
  intro pins s σ H Q I h
  exact isTrue_not (thn (ha pins s σ H (fun c H1 => Q (!c) H1) I h) fun c s1 ⟨H1, I1, q1⟩ => ⟨H1, I1, q1⟩)
inductive tNotVI (Q : VK) (x : V) (H1 : Hp) : Prop
  | mk (c : _) (h1_ : x = .bl c) (h2_ : Q (.bl (!c)) H1) : tNotVI Q x H1
def tNotV (ta : TE) : TE := fun σ H Q => ta σ H fun x H1 => tNotVI Q x H1
theorem pe_not (ha : PE X a ta) : PE X (.UnaryOp .Not a pos) (tNotV ta) := by
  intro pins s σ H Q I h
  refine UnaryOp_ (thn (ha pins s σ H _ I h) fun v s1 ⟨x, H1, I1, r1, q1⟩ => ?_)
  obtain ⟨c, rfl, q1⟩ := q1
  cases r1
  exact not_of (wpAny_truthy_bool ⟨.bl (!c), H1, I1, rfl, q1⟩)
end
end L2
namespace L2
open PySem PySem.Spec PyProof.Rows
def SqL (K : PySem.W.Frag) (H : Hp) (a : Addr) (xs : List V) : Prop :=
  Rd H a (.lst xs) ∨
    ∃ (o : Obj) (its : Array Value) (n : Nat), K.lookup a = some o ∧ o.cls = .type "list" ∧ o.dict = none ∧ o.data = .seq its n ∧ its.size ≤ sizeLine ∧ Vals xs its.toList
def SqT (K : PySem.W.Frag) (H : Hp) (a : Addr) (xs : List V) : Prop :=
  Rd H a (.tup xs) ∨
    ∃ (o : Obj) (its : Array Value) (n : Nat), K.lookup a = some o ∧ o.cls = .type "tuple" ∧ o.data = .seq its n ∧ its.size ≤ sizeLine ∧ Vals xs its.toList
def absV : Value → Option V
  | .none => some .non
  | .bool b => some (.bl b)
  | .int i _ => some (.int i)
  | .str x _ => some (.str x)
  | .bytes b _ => some (.byt b)
  | .float b _ => some (.flt b)
  | .ref a => some (.ref a)
  | .type n => some (.ty n)
  | _ => none
theorem RelV.abs {x : V} {u : Value} (r : RelV x u) : absV u = some x := by
  cases x with
  | non => cases r; rfl
  | bl _ => cases r; rfl
  | int _ => obtain ⟨t, rfl⟩ := r; rfl
  | str _ => obtain ⟨t, rfl⟩ := r; rfl
  | byt _ => obtain ⟨t, rfl⟩ := r; rfl
  | flt _ => obtain ⟨t, rfl⟩ := r; rfl
  | ref _ => cases r; rfl
  | ty _ => cases r; rfl
theorem RelV.inj {x y : V} {u : Value} (r : RelV x u) (q : RelV y u) : x = y := Option.some.inj (r.abs.symm.trans q.abs)
theorem Vals.inj : ∀ {xs ys : List V} {us : List Value}, Vals xs us → Vals ys us → xs = ys
  | _, _, _, .nil, .nil => rfl
  | _, _, _, .cons r t, .cons r' t' => by rw [r.inj r', Vals.inj t t']
section
variable {X : Cx} {pins : List (Addr × Obj)} {σ : St} {H : Hp} {s : Shared} {a : Addr} {xs ys : List V}
theorem SqL.of {K : PySem.W.Frag} (h : H a = some (.lst xs)) : SqL K H a xs := .inl (.inl h)
theorem SqT.of {K : PySem.W.Frag} (h : H a = some (.tup xs)) : SqT K H a xs := .inl (.inl h)
theorem Inv.list (I : Inv X pins σ H s) (h : SqL X.K H a xs) : ∃ its : List Value, Vals xs its ∧ PlainL s.heap a its.toArray ∧ xs.length ≤ sizeLine := by
  rcases h with h | ⟨o, its, n, hk, hc, hd, hs, hz, r⟩
  · obtain ⟨z, its, n, r, e⟩ := h.ok I.hok
    exact ⟨its, r, ⟨_, n, e, rfl, rfl, rfl⟩, z⟩
  · refine ⟨its.toList, r, ⟨o, n, I.kIn a o hk, hc, hd, by simpa using hs⟩, ?_⟩
    have e := r.length
    simp only [Array.length_toList] at e
    exact Nat.le_trans (θe e) hz
theorem Inv.tuple (I : Inv X pins σ H s) (h : SqT X.K H a xs) : ∃ its : List Value, Vals xs its ∧ IsTup s.heap a its.toArray ∧ xs.length ≤ sizeLine := by
  rcases h with h | ⟨o, its, n, hk, hc, hs, hz, r⟩
  · obtain ⟨z, its, r, p⟩ := h.ok I.hok
    exact ⟨its, r, p, z⟩
  · refine ⟨its.toList, r, ⟨o, I.kIn a o hk, hc, n, by simpa using hs⟩, ?_⟩
    have e := r.length
    simp only [Array.length_toList] at e
    exact Nat.le_trans (θe e) hz
theorem Inv.list_inj (I : Inv X pins σ H s) (h : SqL X.K H a xs) (h' : SqL X.K H a ys) : xs = ys := by
  obtain ⟨its, r, ⟨o, n, e, _, _, d⟩, _⟩ := I.list h
  obtain ⟨its', r', ⟨o', n', e', _, _, d'⟩, _⟩ := I.list h'
  rw [e] at e'; cases e'
  rw [d] at d'
  injection d' with d1 _
  have : its = its' := by simpa using congrArg Array.toList d1
  subst this
  exact r.inj r'
end
abbrev Cx.wish (X : Cx) (E : Value → Shared → Prop) : Cx := { X with xe := E }
abbrev Cx.nox (X : Cx) : Cx := X.wish fun _ _ => False
theorem Cx.Ok.wish {X : Cx} (ok : X.Ok) (E : Value → Shared → Prop) : (X.wish E).Ok :=
  ⟨ok.mod, ok.kind, ok.glob, ok.blt, ok.above, ok.inj, ok.has, ok.cab, ok.hd, ok.frames, ok.stk, ok.exf, ok.bs, ok.bsz, ok.noex, ok.exfs, ok.funs, ok.frf⟩
theorem Cx.Ok.unwish {X : Cx} {E : Value → Shared → Prop} (ok : (X.wish E).Ok) : X.Ok :=
  ⟨ok.mod, ok.kind, ok.glob, ok.blt, ok.above, ok.inj, ok.has, ok.cab, ok.hd, ok.frames, ok.stk, ok.exf, ok.bs, ok.bsz, ok.noex, ok.exfs, ok.funs, ok.frf⟩
section
variable {X : Cx} {pins : List (Addr × Obj)} {σ : St} {H : Hp} {s : Shared} {E : Value → Shared → Prop}
theorem Inv.wish (I : Inv X pins σ H s) (E : Value → Shared → Prop) : Inv (X.wish E) pins σ H s := ⟨I.ok.wish E, I.os, I.bare, I.base, I.loc, I.cell, I.free, I.freeC, I.pin, I.hok, I.len⟩
theorem Inv.unwish (I : Inv (X.wish E) pins σ H s) : Inv X pins σ H s := ⟨I.ok.unwish, I.os, I.bare, I.base, I.loc, I.cell, I.free, I.freeC, I.pin, I.hok, I.len⟩
theorem SP.unwish {D : Ends} {f : Flow} {s' : Shared} (h : SP (X.wish E) pins D f s') : SP X pins D f s' := by
  cases f with
  | next => obtain ⟨σ', H', I, q⟩ := h; exact ⟨σ', H', I.unwish, q⟩
  | brk => obtain ⟨σ', H', I, q⟩ := h; exact ⟨σ', H', I.unwish, q⟩
  | cont => obtain ⟨σ', H', I, q⟩ := h; exact ⟨σ', H', I.unwish, q⟩
  | ret u => obtain ⟨v, σ', H', I, r, q⟩ := h; exact ⟨v, σ', H', I.unwish, r, q⟩
theorem PE.nox {e : Expr} {t : TE} (h : PE X.nox e t) : PE X e t := fun pins s σ H Q I hw =>
  wpAny_mono (h pins s σ H Q (I.wish _) hw) (fun _ _ ⟨v, H', I', r, q⟩ => ⟨v, H', I'.unwish, r, q⟩) fun _ _ z => False.elim z
theorem PT.nox {e : Expr} {t : TT} (h : PT X.nox e t) : PT X e t := fun pins s σ H Q I hw =>
  wpAny_mono (h pins s σ H Q (I.wish _) hw) (fun _ _ ⟨H', I', q⟩ => ⟨H', I'.unwish, q⟩) fun _ _ z => False.elim z
theorem PSs.nox {st : List Stmt} {t : TS} (h : PSs X.nox st t) : PSs X st t := fun pins s σ H D I hw =>
  wpAny_mono (h pins s σ H D (I.wish _) hw) (fun _ _ q => q.unwish) fun _ _ z => False.elim z
end
section
variable {X : Cx} {st : Stmt} {rest : List Stmt} {t u : TS} {e : Expr} {te : TE} {pos : Pos}
def tNext : TS := fun D σ H => D.nx σ H
def tSeq (t u : TS) : TS := fun D σ H => t { D with nx := u D } σ H
theorem pss_nil : PSs X [] tNext := fun _ _ σ H _ I h => wpAny_execs_nil ⟨σ, H, I, h⟩
theorem pss_cons (h1 : PS X st t) (h2 : PSs X rest u) : PSs X (st :: rest) (tSeq t u) := by
  intro pins s σ H D I h
  refine wpAny_execs_cons (thn (h1 pins s σ H { D with nx := u D } I h) fun f s1 q => ?_)
  cases f with
  | next =>
    obtain ⟨σ', H', I', q⟩ := q
    exact h2 pins s1 σ' H' D I' q
  | ret v => exact q
  | brk => exact q
  | cont => exact q
theorem pss_one (h1 : PS X st t) : PSs X [st] t := by
  intro pins s σ H D I h
  refine wpAny_execs_cons (thn (h1 pins s σ H D I h) fun f s1 q => ?_)
  cases f with
  | next => exact wpAny_execs_nil q
  | ret v => exact q
  | brk => exact q
  | cont => exact q
theorem Inv.quiet {pins : List (Addr × Obj)} {σ : St} {H : Hp} {s : Shared} (I : Inv X pins σ H s) : interactive X.env = false := by simp [interactive, I.ok.kind]
def tDrop (te : TE) : TS := fun D σ H => te σ H fun _ H1 => D.nx σ H1
theorem ps_expr (he : PE X e te) (hs : swapsWith e none pos.line X.env = pure false := by rfl) : PS X (.Expr e pos) (tDrop te) := by
  intro pins s σ H D I h
  exact wpAny_Expr_any (thn (he pins s σ H _ I h) fun v s1 ⟨x, H1, I1, r1, q1⟩ => ⟨σ, H1, I1, q1⟩) I.quiet hs
def tRet (te : TE) : TS := fun D σ H => te σ H D.rt
theorem ps_ret (he : PE X e te) : PS X (.Return (some e) pos) (tRet te) := by
  intro pins s σ H D I h
  exact wpAny_Return_some (thn (he pins s σ H _ I h) fun v s1 ⟨x, H1, I1, r1, q1⟩ => ⟨x, σ, H1, I1, r1, q1⟩)
def tIfS (c : TT) (t u : TS) : TS := fun D σ H => c σ H fun b H1 => if b = true then t D σ H1 else u D σ H1
theorem ps_if {c : Expr} {a b : List Stmt} {tc : TT} (hc : PT X c tc) (ha : PSs X a t) (hb : PSs X b u) : PS X (.If c a b pos) (tIfS tc t u) := by
  intro pins s σ H D I h
  refine wpAny_If (thn (hc pins s σ H _ I h) fun d s1 ⟨H1, I1, q1⟩ => ?_)
  cases d with
  | true => exact ha pins s1 σ H1 D I1 q1
  | false => exact hb pins s1 σ H1 D I1 q1
end
abbrev TG := V → St → Hp → (St → Hp → Prop) → Prop
abbrev TGs := List V → St → Hp → (St → Hp → Prop) → Prop
def PG (X : Cx) (target : Expr) (t : TG) : Prop :=
  ∀ (pins : List (Addr × Obj)) (s : Shared) (σ : St) (H : Hp) (v : V) (u : Value) (Q : St → Hp → Prop), Inv X pins σ H s → RelV v u → t v σ H Q →
    wpAny (model X.prog X.w) X.A (assign target X.env u) (fun _ s' => ∃ σ' H', Inv X pins σ' H' s' ∧ Q σ' H') X.xe s
def PGs (X : Cx) (ts : List Expr) (t : TGs) : Prop :=
  ∀ (pins : List (Addr × Obj)) (s : Shared) (σ : St) (H : Hp) (vs : List V) (us : List Value) (Q : St → Hp → Prop), Inv X pins σ H s → Vals vs us → t vs σ H Q →
    wpAny (model X.prog X.w) X.A (assignInOrder ((assignEach ts X.env).map (·.2)) us) (fun _ s' => ∃ σ' H', Inv X pins σ' H' s' ∧ Q σ' H') X.xe s
abbrev TIp := V → V → Hp → VK → Prop
def PIp (X : Cx) (op : Operator) (t : TIp) : Prop :=
  ∀ (pins : List (Addr × Obj)) (s : Shared) (σ : St) (H : Hp) (x y : V) (v u : Value) (Q : VK), Inv X pins σ H s → RelV x v → RelV y u → t x y H Q →
    wpAny (model X.prog X.w) X.A (inplaceOp op v u) (EP X pins σ Q) X.xe s
section
variable {X : Cx} {pos : Pos}
def gName (i : Nat) : TG := fun v σ H Q => Q (σ.set i (some v)) H
theorem pg_name {i : Nat} {x : Str} (hN : X.N.Nodup) (hi : X.N[i]? = some x) (hx : Loc X.env.scope x) (hf : X.fn x = true ∨ X.env.scope.names.lookup x = some .local := by first | exact .inl rfl | exact .inr rfl | assumption) : PG X (.Name x pos) (gName i) := by
  intro pins s σ H v u Q I r h
  exact wpAny_assign_Name (store_ok I hN hi hx r (fun s' I' => ⟨_, H, I', h⟩) hf)
def tAsg (te : TE) (g : TG) : TS := fun D σ H => te σ H fun x H1 => g x σ H1 D.nx
theorem ps_set {i : Nat} {x : Str} {e : Expr} {te : TE} {pos' : Pos} (hN : X.N.Nodup) (hi : X.N[i]? = some x) (hx : Loc X.env.scope x) (he : PE X e te) (hs : swapsWith e (some (.Name x pos')) pos.line X.env = pure false := by rfl) (hf : X.fn x = true ∨ X.env.scope.names.lookup x = some .local := by first | exact .inl rfl | exact .inr rfl | assumption) :
    PS X (.Assign [.Name x pos'] e pos) (tAsg te (gName i)) := by
  intro pins s σ H D I h
  refine wpAny_Assign_Name (thn (he pins s σ H _ I h) fun v s1 ⟨y, H1, I1, r1, q1⟩ => ?_) hs
  exact store_ok I1 hN hi hx r1 (fun s2 I2 => ⟨_, H1, I2, q1⟩) hf
inductive tAug (i : Nat) (te : TE) (ti : TIp) (D : Ends) (σ : St) (H : Hp) : Prop
  | mk (x : _) (h1_ : σ[i]? = some (some x)) (h2_ : te σ H fun y H1 => ti x y H1 fun z H2 => D.nx (σ.set i (some z)) H2) : tAug i te ti D σ H
theorem ps_aug {i : Nat} {x : Str} {e : Expr} {te : TE} {op : Operator} {ti : TIp} {pos' : Pos} (hN : X.N.Nodup) (hi : X.N[i]? = some x) (hx : Loc X.env.scope x) (he : PE X e te) (ho : PIp X op ti) (hf : X.fn x = true ∨ X.env.scope.names.lookup x = some .local := by first | exact .inl rfl | exact .inr rfl | assumption) :
    PS X (.AugAssign (.Name x pos') op e pos) (tAug i te ti) := by
  intro pins s σ H D I h
  obtain ⟨v, e1, h⟩ := h
  obtain ⟨m, hn, hl⟩ := I.loc
  have vis : Vis X.env.scope x := by rcases hx with k | k; exact .inl k; exact .inr (.inl k)
  obtain ⟨u, r, l⟩ := hl i x v hi e1 vis
  refine wpAny_AugAssign_Name ?_
  have go : wpAny (model X.prog X.w) X.A (eval e X.env) (fun w s₂ => wpAny (model X.prog X.w) X.A (inplaceOp op u w) (fun r s₃ => wpAny (model X.prog X.w) X.A (storeName X.env x r) (fun _ => SP X pins D .next) X.xe s₃) X.xe s₂) X.xe s := by
    refine thn (he pins s σ H _ I h) fun w s1 ⟨y, H1, I1, r1, q1⟩ => ?_
    refine thn (ho pins s1 σ H1 v y u w _ I1 r r1 q1) fun z s2 ⟨zv, H2, I2, r2, q2⟩ => ?_
    exact store_ok I2 hN hi hx r2 (fun s3 I3 => ⟨_, H2, I3, q2⟩) hf
  rcases l with ⟨hk, hm⟩ | ⟨hk, c, hc, hcell⟩
  · exact wpAny_loadName_local I.ok.kind hk hn hm go
  · rcases hk with hk | hk
    · exact wpAny_loadName_cell I.ok.kind hk hc hcell go
    · rcases hx with k | k
      · have : X.env.scope.names.lookup x = some .free := hk
        rw [k] at this; cases this
      · have : X.env.scope.names.lookup x = some .free := hk
        rw [k] at this; cases this
inductive ipI (f : Int → Int → Int) (x : V) (y : V) (H : Hp) (Q : VK) : Prop
  | mk (i : _) (j : _) (h1_ : x = .int i) (h2_ : y = .int j) (h3_ : Q (.int (f i j)) H) : ipI f x y H Q
theorem ip_add : PIp X .Add (ipI fun i j => i + j) := by
  intro pins s σ H x y v u Q I r1 r2 h
  obtain ⟨i, j, e1, e2, q⟩ := h
  subst e1; subst e2
  obtain ⟨t, rfl⟩ := r1
  obtain ⟨t', rfl⟩ := r2
  exact iadd_int ⟨.int _, H, I.tok _, ⟨_, rfl⟩, q⟩
end
section
variable {X : Cx} {pos : Pos}
def tWhile (c : TT) (tb : TS) : TS := fun D σ H => ∃ W : Nat → St → Hp → Prop, (∃ m, W m σ H) ∧ ∀ m σ H, W m σ H →
  c σ H fun b H1 => if b = true then ∃ N : St → Hp → Prop, (∀ σ' H', N σ' H' → ∃ m', m' < m ∧ W m' σ' H') ∧ tb { D with nx := N, ct := N, bk := D.nx } σ H1 else D.nx σ H1
theorem ps_while {c : Expr} {body : List Stmt} {tc : TT} {tb : TS} (hp : PassesOwn (model X.prog X.w) X.A X.env X.xe) (hc : PT X c tc) (hb : PSs X body tb) : PS X (.While c body [] pos) (tWhile tc tb) := by
  intro pins s σ H D I h
  obtain ⟨W, ⟨m0, w0⟩, turn⟩ := h
  refine wpAny_While (codeAny_whileLoop (fun n s' => ∃ σ' H', Inv X pins σ' H' s' ∧ W n σ' H') ?_ m0 ⟨σ, H, I, w0⟩)
  rintro n s1 ⟨σ1, H1, I1, w1⟩
  refine wpAny_passesOwn hp (thn (hc pins s1 σ1 H1 _ I1 (turn n σ1 H1 w1)) fun b s2 ⟨H2, I2, q2⟩ => ?_)
  cases b with
  | true =>
    obtain ⟨N, hN, q2⟩ := q2
    rw [if_pos rfl]
    refine wpAny_passesOwn hp (thn (hb pins s2 σ1 H2 _ I2 q2) fun f s3 q3 => ?_)
    cases f with
    | next =>
      obtain ⟨σ3, H3, I3, n3⟩ := q3
      obtain ⟨m', hm, w3⟩ := hN σ3 H3 n3
      exact ⟨m', hm, σ3, H3, I3, w3⟩
    | cont =>
      obtain ⟨σ3, H3, I3, n3⟩ := q3
      obtain ⟨m', hm, w3⟩ := hN σ3 H3 n3
      exact ⟨m', hm, σ3, H3, I3, w3⟩
    | brk => exact q3
    | ret v => exact q3
  | false =>
    rw [if_neg Bool.false_ne_true]
    exact wpAny_execs_nil ⟨σ1, H2, I2, q2⟩
end
structure It where
  go : Nat → Hp → Prop
  yld : Nat → Hp → V → Hp → Prop
  stop : Nat → Hp → Prop
def FpOk (X : Cx) (pins : List (Addr × Obj)) (H : Hp) (b : Addr) : Prop :=
  H b = none ∧ b ≠ X.env.locals ∧ b ∉ X.fs ∧ (b ∈ X.ex ∨ X.s₀.heap.objs.size ≤ b) ∧ (∀ x c, X.env.cells.lookup x = some c → c ≠ b) ∧ ∀ p ∈ X.pn ++ pins, p.1 ≠ b
theorem Inv.fpOk {X : Cx} {pins : List (Addr × Obj)} {σ : St} {H H' : Hp} {s : Shared} {b : Addr} (I : Inv X pins σ H s) (hb : s.heap.objs.size ≤ b) (hn : H' b = none) : FpOk X pins H' b := by
  refine ⟨hn, Nat.ne_of_gt (Nat.lt_of_lt_of_le I.lt hb), I.nofs hb, .inr (Nat.le_trans I.sz hb), fun x c e z => ?_, fun p hp z => ?_⟩
  · obtain ⟨v, q⟩ := I.cell x c e
    exact absurd (Nat.lt_of_lt_of_le q.lt (by rw [z]; exact hb)) (Nat.lt_irrefl _)
  · exact absurd (Nat.lt_of_lt_of_le (Heap.lt_size (I.pin p hp).1) (by rw [z]; exact hb)) (Nat.lt_irrefl _)
structure Turn (P : Program) (w : World) (K : PySem.W.Frag) (tg : Expr) (J : It) (fp : List Addr) (it : Addr) (tn : Nat → Heap → Prop) : Prop where
  mem : it ∈ fp
  obj : ∀ i h, tn i h → ∀ b ∈ fp, ∃ o, h.get? b = some o ∧ ∀ v, o.data ≠ .cell v
  keep : ∀ i h h', tn i h → (∀ b ∈ fp, ∀ o, h.get? b = some o → h'.get? b = some o) → tn i h'
  item : ∀ (X : Cx), X.prog = P → X.w = w → X.K = K → X.calm = true → ∀ (i : Nat) (pins : List (Addr × Obj)) (s : Shared) (σ : St) (H : Hp) (E : Value → Shared → Prop), Inv X pins σ H s → (∀ b ∈ fp, FpOk X pins H b) → tn i s.heap → J.go i H →
    wpAny (model P w) X.A (pyNext (.ref it)) (fun r s1 => ∃ u, r = some u ∧
      wpAny (model P w) X.A (letOwnedTupleGo tg (.ref it) u) (fun _ s2 => ∃ x H', Inv X pins σ H' s2 ∧ RelV x u ∧ J.yld i H x H' ∧ tn (i + 1) s2.heap ∧ ∀ b ∈ fp, H' b = none) E s1) E s
  done : ∀ (X : Cx), X.prog = P → X.w = w → X.K = K → X.calm = true → ∀ (i : Nat) (pins : List (Addr × Obj)) (s : Shared) (σ : St) (H : Hp) (E : Value → Shared → Prop), Inv X pins σ H s → (∀ b ∈ fp, FpOk X pins H b) → tn i s.heap → J.stop i H →
    wpAny (model P w) X.A (pyNext (.ref it)) (fun r s1 => r = none ∧ Inv X pins σ H s1) E s
  self : ∀ (A : Around) (i : Nat) (s : Shared) (Q : Value → Shared → Prop) (E : Value → Shared → Prop), tn i s.heap → Q (.ref it) s → wpAny (model P w) A (pyIter (.ref it)) Q E s
abbrev TI := St → Hp → (It → Hp → Prop) → Prop
def PIE (X : Cx) (pins : List (Addr × Obj)) (σ : St) (tg : Expr) (R : It → Hp → Prop) (itv : Value) (s2 : Shared) : Prop :=
  ∃ (it : Addr) (fp : List Addr) (tn : Nat → Heap → Prop) (J : It) (H' : Hp), itv = .ref it ∧ Inv X pins σ H' s2 ∧ Turn X.prog X.w X.K tg J fp it tn ∧ tn 0 s2.heap ∧ (∀ b ∈ fp, FpOk X pins H' b) ∧ R J H'
def PI (X : Cx) (tg iter : Expr) (wi : TI) : Prop :=
  ∀ (pins : List (Addr × Obj)) (s : Shared) (σ : St) (H : Hp) (R : It → Hp → Prop), Inv X pins σ H s → wi σ H R →
    wpAny (model X.prog X.w) X.A (eval iter X.env) (fun v s1 => wpAny (model X.prog X.w) X.A (pyIter v) (PIE X pins σ tg R) X.xe s1) X.xe s
theorem go_of {M : Model} {A : Around} {E : Value → Shared → Prop} {s : Shared} {tg : Expr} {it : Addr} {u : Value} {o : Obj} {n : String} {vs : Array Value} {Q : Unit → Shared → Prop} (ho : s.heap.get? it = some o) (hc : o.cls = .type n) (hd : o.data = .fields vs)
    (hn : ["enumerate", "zip", "dict_itemiterator", "dict_reverseitemiterator", "odict_iterator", "itertools.zip_longest", "itertools.pairwise"].contains n = false) (hQ : Q () s) : wpAny M A (letOwnedTupleGo tg (.ref it) u) Q E s := by
  unfold letOwnedTupleGo
  cases tg <;> first
    | exact wpAny_pure hQ
    | (cases u <;> first
        | exact wpAny_pure hQ
        | (refine wpAny_bind (wpAny_load ho ?_)
           rw [hc, hd]
           show wpAny M A (if (["enumerate", "zip", "dict_itemiterator", "dict_reverseitemiterator", "odict_iterator", "itertools.zip_longest", "itertools.pairwise"].contains n && vs[0]? == some (rawInt _)) = true then _ else _) Q E s
           rw [if_neg (by intro h; rw [hn, Bool.false_and] at h; cases h)]
           exact wpAny_pure hQ))
def Itl (K : PySem.W.Frag) (a : Addr) : It :=
  ⟨fun i H => ∃ xs x, SqL K H a xs ∧ xs[i]? = some x, fun i H x H' => H' = H ∧ ∀ xs, SqL K H a xs → xs[i]? = some x, fun i H => ∃ xs, SqL K H a xs ∧ xs.length ≤ i⟩
def Itr (lo : Int) (n : Nat) : It := ⟨fun i _ => i < n, fun i H x H' => H' = H ∧ x = .int (lo + i), fun i _ => n ≤ i⟩
theorem turn_list {P : Program} {w : World} {K : PySem.W.Frag} {tg : Expr} (a it : Addr) : Turn P w K tg (Itl K a) [it] it (fun i h => h.IsListIter it a i) where
  mem := by simp
  obj := fun i h st b hb => by
    have e : b = it := by simpa using hb
    subst e
    obtain ⟨o, e, c, d⟩ := st
    exact ⟨o, e, fun v z => by rw [d] at z; cases z⟩
  keep := fun i h h' st k => st.at fun o e => k it (by simp) o e
  item := by
    intro X hP hw hK hc i pins s σ H E I hf st hg
    subst hP hw hK
    obtain ⟨xs, x, hq, hx⟩ := hg
    obtain ⟨its, rv, p, hz⟩ := I.list hq
    obtain ⟨u, hu, ru⟩ := rv.get hx
    obtain ⟨f0, f1, f2, f3, f4, f5⟩ := hf it (by simp)
    refine wpAny_pyNext_list_item st p.isList (x := u) (by simpa using hu) fun h' st' sb => ?_
    have I1 : Inv X pins σ H { s with heap := h' } := I.turned (t' := s.toks) (fun b o hb e => (sb.2 b hb).trans e) f0 f1 f3 f4 f5
    obtain ⟨o, e, c, d⟩ := id st'
    exact ⟨u, rfl, go_of (s := { s with heap := h' }) e c d (by decide) ⟨x, H, I1, ru, ⟨rfl, fun ys hy => by rw [I.list_inj hy hq]; exact hx⟩, st', fun b hb => (hf b hb).1⟩⟩
  done := by
    intro X hP hw hK hc i pins s σ H E I hf st hg
    subst hP hw hK
    obtain ⟨xs, hq, hx⟩ := hg
    obtain ⟨its, rv, p, hz⟩ := I.list hq
    obtain ⟨f0, f1, f2, f3, f4, f5⟩ := hf it (by simp)
    have hl := rv.length
    exact wpAny_pyNext_list_end (I.ok.hd hc) st p.isList (by simp; exact Nat.le_trans (θs hl) hx) fun h' eb => ⟨rfl, I.turned (t' := s.toks) (fun b o hb e => eb b o hb e) f0 f1 f3 f4 f5⟩
  self := fun _ _ _ _ _ st h => wpAny_pyIter_listiter st h
theorem turn_range {P : Program} {w : World} {K : PySem.W.Frag} {tg : Expr} (it : Addr) (lo : Int) (n : Nat) : Turn P w K tg (Itr lo n) [it] it (fun i h => IsRangeIter h it (lo + (i : Nat) * 1) ((n : Int) - (i : Nat)) 1) where
  mem := by simp
  obj := fun i h st b hb => by
    have e : b = it := by simpa using hb
    subst e
    exact ⟨_, st, fun v z => by
      have z' : Data.fields _ = Data.cell v := z
      cases z'⟩
  keep := fun i h h' st k => k it (by simp) _ st
  item := by
    intro X hP hw hK hc i pins s σ H E I hf st hg
    subst hP hw hK
    obtain ⟨f0, f1, f2, f3, f4, f5⟩ := hf it (by simp)
    have W := Walks.range (prog := X.prog) (w := X.w) (I.ok.hd hc) it lo 1 n
    refine W.item i s _ _ hg st fun v h' tk hv st' kk => ?_
    obtain ⟨t, rfl⟩ := hv
    have I1 : Inv X pins σ H { s with heap := h', toks := tk } := I.turned (fun b o hb e => kk b o (by simpa using hb) e) f0 f1 f3 f4 f5
    refine ⟨_, rfl, go_of (s := { s with heap := h', toks := tk }) (n := "range_iterator") st' rfl rfl (by decide) ⟨.int (lo + i), H, I1, ⟨t, ?_⟩, ⟨rfl, rfl⟩, st', fun b hb => (hf b hb).1⟩⟩
    rw [Int.mul_one]
  done := by
    intro X hP hw hK hc i pins s σ H E I hf st hg
    subst hP hw hK
    obtain ⟨f0, f1, f2, f3, f4, f5⟩ := hf it (by simp)
    exact wpAny_pyNext_range_end (I.ok.hd hc) st (by have : n ≤ i := hg; lia) fun h' eb => ⟨rfl, I.turned (t' := s.toks) (fun b o hb e => eb b o hb e) f0 f1 f3 f4 f5⟩
  self := fun _ _ _ _ _ st h => wpAny_pyIter_rangeiter st h
end L2
namespace L2
open PySem PySem.Spec PyProof.Rows
section
variable {X : Cx} {tg : Expr}
inductive iListI (K : PySem.W.Frag) (R : (It → Hp → Prop)) (x : V) (H1 : Hp) : Prop
  | mk (a : _) (h1_ : x = .ref a) (h2_ : (∃ xs, SqL K H1 a xs)) (h3_ : R (Itl K a) H1) : iListI K R x H1
def iList (K : PySem.W.Frag) (tl : TE) : TI := fun σ H R => tl σ H fun x H1 => iListI K R x H1
theorem pi_list {l : Expr} {tl : TE} (hl : PE X l tl) : PI X tg l (iList X.K tl) := by
  intro pins s σ H R I h
  refine thn (hl pins s σ H _ I h) fun v s1 ⟨x, H1, I1, r1, q1⟩ => ?_
  obtain ⟨a, e, ⟨xs, hq⟩, q⟩ := q1
  subst e
  cases r1
  obtain ⟨its, rv, p, hz⟩ := I1.list hq
  refine wpAny_pyIter_list p.isList ?_
  refine ⟨s1.heap.objs.size, [s1.heap.objs.size], _, _, H1, rfl, I1.kept (t' := s1.toks) fun b o e => Heap.get?_push_of_some _ e, turn_list a _, ⟨_, Heap.get?_push_size _ rfl, rfl, rfl⟩, fun b hb => ?_, q⟩
  have e : b = s1.heap.objs.size := by simpa using hb
  subst e
  exact I1.fpOk (Nat.le_refl _) (I1.hok.fresh (Nat.le_refl _))
theorem range_it {pins : List (Addr × Obj)} {σ : St} {H : Hp} {s : Shared} {R : It → Hp → Prop} {E : Value → Shared → Prop} {lo hi : Int} {t u v : Tok} {tk : Nat} (I : Inv X pins σ H s) (h1 : -(2 ^ 62) ≤ lo) (h2 : lo < 2 ^ 62) (h3 : -(2 ^ 62) ≤ hi) (h4 : hi < 2 ^ 62)
    (q : R (Itr lo (hi - lo).toNat) H) : wpAny (model X.prog X.w) X.A (pyIter (.ref s.heap.objs.size)) (PIE X pins σ tg R) E { s with heap := s.heap.push { cls := .type "range", data := .fields #[.int lo t, .int hi u, .int 1 v] }, toks := tk } := by
  refine wpAny_pyIter_range (IsRange.new ..) (small_one h1 h2 h3 h4) ?_
  have I1 : Inv X pins σ H { s with heap := s.heap.push { cls := .type "range", data := .fields #[.int lo t, .int hi u, .int 1 v] }, toks := tk } := I.kept fun b o e => Heap.get?_push_of_some _ e
  refine ⟨(s.heap.push { cls := .type "range", data := .fields #[.int lo t, .int hi u, .int 1 v] }).objs.size, [(s.heap.push { cls := .type "range", data := .fields #[.int lo t, .int hi u, .int 1 v] }).objs.size], _, _, H, rfl,
    I1.kept (t' := tk) fun b o e => Heap.get?_push_of_some _ e, turn_range _ lo (hi - lo).toNat, ?_, fun b hb => ?_, q⟩
  · have e1 : lo + ((0 : Nat) : Int) * 1 = lo := by simp
    have e2 : (((hi - lo).toNat : Nat) : Int) - ((0 : Nat) : Int) = Builtin.Range.rangeSize lo hi 1 := by rw [rangeSize_one]; split <;> lia
    show IsRangeIter _ _ (lo + ((0 : Nat) : Int) * 1) ((((hi - lo).toNat : Nat) : Int) - ((0 : Nat) : Int)) 1
    rw [e1, e2]
    exact Heap.get?_push_size _ rfl
  · have e : b = (s.heap.push { cls := .type "range", data := .fields #[.int lo t, .int hi u, .int 1 v] }).objs.size := by simpa using hb
    subst e
    exact I1.fpOk (Nat.le_refl _) (I1.hok.fresh (Nat.le_refl _))
inductive iRng1I (R : (It → Hp → Prop)) (vs : List V) (H1 : Hp) : Prop
  | mk (j : Int) (h1_ : vs = [.int j]) (h2_ : -(2 ^ 62) ≤ j) (h3_ : j < 2 ^ 62) (h4_ : R (Itr 0 j.toNat) H1) : iRng1I R vs H1
def iRng1 (ta : TA) : TI := fun σ H R => ta σ H fun vs H1 => iRng1I R vs H1
theorem pi_range1 {a : Expr} {ta : TA} {p pos : Pos} (hg : Gl X "range") (hm : X.mg "range" = none) (ha : PA X [a] ta) (hs : starEach [a] X.env = [(false, eval a X.env)] := by rfl) : PI X tg (.Call (.Name "range" p) [a] [] pos) (iRng1 ta) := by
  intro pins s σ H R I h
  refine Call_ (ld_blt I hg hm boot_range (PyProof.Rows.callWith_type1 (thn (ha pos pins s σ H _ I h) fun us s1 ⟨vs, H1, I1, r1, q1⟩ => ?_) hs rfl))
  obtain ⟨j, e, q1, q2, q⟩ := q1
  subst e
  cases r1 with
  | cons r rr =>
    cases rr
    obtain ⟨t, rfl⟩ := r
    exact call_range_1 (range_it I1 (by lia) (by lia) q1 q2 (by simpa using q))
def tFor (wi : TI) (g : TG) (tb : TS) : TS := fun D σ H => wi σ H fun J H1 => ∃ W : Nat → Nat → St → Hp → Prop, (∃ m, W 0 m σ H1) ∧ ∀ i m σ H, W i m σ H →
  (J.stop i H ∧ D.nx σ H) ∨ (J.go i H ∧ ∃ N : St → Hp → Prop, (∀ σ' H', N σ' H' → ∃ m', m' < m ∧ W (i + 1) m' σ' H') ∧ ∀ x H', J.yld i H x H' → g x σ H' fun σ2 H2 => tb { D with nx := N, ct := N, bk := D.nx } σ2 H2)
def pinsAt (fp : List Addr) (h : Heap) : List (Addr × Obj) := fp.filterMap fun b => (h.get? b).map fun o => (b, o)
theorem mem_pinsAt {fp : List Addr} {h : Heap} {b : Addr} {o : Obj} (hb : b ∈ fp) (e : h.get? b = some o) : (b, o) ∈ pinsAt fp h := List.mem_filterMap.mpr ⟨b, hb, by rw [e]; rfl⟩
theorem of_pinsAt {fp : List Addr} {h : Heap} {p : Addr × Obj} (hp : p ∈ pinsAt fp h) : p.1 ∈ fp ∧ h.get? p.1 = some p.2 := by
  obtain ⟨b, hb, e⟩ := List.mem_filterMap.mp hp
  cases q : h.get? b with
  | none => rw [q] at e; cases e
  | some o =>
    rw [q] at e
    have e' : (b, o) = p := Option.some.inj e
    subst e'
    exact ⟨hb, q⟩
theorem Inv.pinned {pins : List (Addr × Obj)} {σ : St} {H : Hp} {s : Shared} {fp : List Addr} (I : Inv X pins σ H s) (hf : ∀ b ∈ fp, FpOk X pins H b) (ho : ∀ b ∈ fp, ∃ o, s.heap.get? b = some o ∧ ∀ v, o.data ≠ .cell v) : Inv X (pins ++ pinsAt fp s.heap) σ H s :=
  I.pins_of fun p hp => (List.mem_append.mp hp).elim (fun z => I.pin p (List.mem_append_right _ z)) fun z => by
    obtain ⟨hb, e⟩ := of_pinsAt z
    obtain ⟨f0, f1, f2, _⟩ := hf p.1 hb
    obtain ⟨o, e', d⟩ := ho p.1 hb
    rw [e] at e'; cases e'
    exact ⟨e, f0, f1, f2, d⟩
theorem Inv.unpinned {pins pl : List (Addr × Obj)} {σ : St} {H : Hp} {s : Shared} (I : Inv X (pins ++ pl) σ H s) : Inv X pins σ H s := I.pins_of fun p hp => I.pin p (List.mem_append_right _ (List.mem_append_left _ hp))
theorem ps_for {iter : Expr} {body : List Stmt} {wi : TI} {g : TG} {tb : TS} {pos : Pos} (hp : PassesOwn (model X.prog X.w) X.A X.env X.xe) (hc : X.calm = true) (hi : PI X tg iter wi) (hg : PG X tg g) (hb : PSs X body tb)
    (hs : ∀ x, foldedSetIterable iter X.env x = pure x := by intro _; rfl) : PS X (.For tg iter body [] pos) (tFor wi g tb) := by
  intro pins s σ H D I h
  refine wpAny_For (thn (hi pins s σ H _ I h) fun v s1 h1 => thn h1 fun itv s2 h2 => ?_) hs
  obtain ⟨it, fp, tn, J, H2, e, I2, T, st2, f2, W, ⟨m0, w0⟩, turn⟩ := h2
  subst e
  have stat : ∀ {H' : Hp}, (∀ b ∈ fp, H' b = none) → ∀ b ∈ fp, FpOk X pins H' b := fun hn b hb => ⟨hn b hb, (f2 b hb).2⟩
  refine codeAny_forLoop_any (fun n s' => ∃ i σ' H', Inv X pins σ' H' s' ∧ tn i s'.heap ∧ (∀ b ∈ fp, H' b = none) ∧ W i n σ' H') ?_ m0 ⟨0, σ, H2, I2, st2, fun b hb => (f2 b hb).1, w0⟩
  rintro n s3 ⟨i, σ3, H3, I3, st3, fr3, w3⟩
  rcases turn i n σ3 H3 w3 with ⟨stop, qn⟩ | ⟨go, N, hN, step⟩
  · refine wpAny_passesOwn hp (thn (T.done X rfl rfl rfl hc i pins s3 σ3 H3 X.xe I3 (stat fr3) st3 stop) fun r s4 ⟨hr, I4⟩ => ?_)
    subst hr
    exact wpAny_execs_nil ⟨σ3, H3, I4, qn⟩
  · refine wpAny_passesOwn hp (thn (T.item X rfl rfl rfl hc i pins s3 σ3 H3 X.xe I3 (stat fr3) st3 go) fun r s4 ⟨u, hr, h4⟩ => ?_)
    subst hr
    refine wpAny_passesOwn hp (thn h4 fun _ s5 ⟨x, H5, I5, r5, y5, st5, fr5⟩ => ?_)
    have I5' := I5.pinned (stat fr5) (T.obj _ _ st5)
    refine wpAny_passesOwn hp (thn (hg _ s5 σ3 H5 x u _ I5' r5 (step x H5 y5)) fun _ s6 ⟨σ6, H6, I6, q6⟩ => ?_)
    refine wpAny_passesOwn hp (thn (hb _ s6 σ6 H6 _ I6 q6) fun f s7 q7 => ?_)
    have again : ∀ {σ7 : St} {H7 : Hp}, Inv X (pins ++ pinsAt fp s5.heap) σ7 H7 s7 → N σ7 H7 → ∃ m, m < n ∧ ∃ i σ' H', Inv X pins σ' H' s7 ∧ tn i s7.heap ∧ (∀ b ∈ fp, H' b = none) ∧ W i m σ' H' := fun {σ7 H7} I7 n7 => by
      obtain ⟨m', hm, w7⟩ := hN σ7 H7 n7
      refine ⟨m', hm, i + 1, σ7, H7, I7.unpinned, T.keep _ _ _ st5 fun b hb o e => (I7.pin (b, o) (List.mem_append_right _ (List.mem_append_right _ (mem_pinsAt hb e)))).1, fun b hb => ?_, w7⟩
      obtain ⟨o, e, d⟩ := T.obj _ _ st5 b hb
      exact (I7.pin (b, o) (List.mem_append_right _ (List.mem_append_right _ (mem_pinsAt hb e)))).2.1
    cases f with
    | next => obtain ⟨σ7, H7, I7, n7⟩ := q7; exact again I7 n7
    | cont => obtain ⟨σ7, H7, I7, n7⟩ := q7; exact again I7 n7
    | brk => obtain ⟨σ7, H7, I7, q7⟩ := q7; exact ⟨σ7, H7, I7.unpinned, q7⟩
    | ret v => obtain ⟨x7, σ7, H7, I7, r7, q7⟩ := q7; exact ⟨x7, σ7, H7, I7.unpinned, r7, q7⟩
end
theorem for_list {K : PySem.W.Frag} {a : Addr} {xs : List V} {g : TG} {tb : TS} {D : Ends} {σ : St} {H : Hp} (Pv : Nat → St → Hp → Prop) (h0 : Pv 0 σ H) (hl : ∀ i σ H, i ≤ xs.length → Pv i σ H → SqL K H a xs)
    (hs : ∀ i x σ H, xs[i]? = some x → Pv i σ H → g x σ H fun σ2 H2 => tb { D with nx := Pv (i + 1), ct := Pv (i + 1), bk := D.nx } σ2 H2) (hd : ∀ σ H, Pv xs.length σ H → D.nx σ H) :
    ∃ W : Nat → Nat → St → Hp → Prop, (∃ m, W 0 m σ H) ∧ ∀ i m σ H, W i m σ H →
      ((Itl K a).stop i H ∧ D.nx σ H) ∨ ((Itl K a).go i H ∧ ∃ N : St → Hp → Prop, (∀ σ' H', N σ' H' → ∃ m', m' < m ∧ W (i + 1) m' σ' H') ∧ ∀ x H', (Itl K a).yld i H x H' → g x σ H' fun σ2 H2 => tb { D with nx := N, ct := N, bk := D.nx } σ2 H2) := by
  refine ⟨fun i m σ H => m = xs.length - i ∧ i ≤ xs.length ∧ Pv i σ H, ⟨xs.length, by simp, Nat.zero_le _, h0⟩, ?_⟩
  rintro i m σ H ⟨rfl, hi, p⟩
  have q := hl i σ H hi p
  by_cases hlt : i < xs.length
  · refine .inr ⟨⟨xs, xs[i], q, by simp [hlt]⟩, Pv (i + 1), fun σ' H' p' => ⟨xs.length - (i + 1), by exact θo [_,_,_,_] (θ0+1) θ1 (θ0+(θ2+1)+θ3) (θ3+(θ1+θ2)) rfl (θa (θr (θo [_,_] (θ0+1) θ1 (θ0+1) θ1 rfl hlt)) (θq _ _)), rfl, hlt, p'⟩, fun x H' y => ?_⟩
    obtain ⟨e, y⟩ := y
    subst e
    exact hs i x σ _ (y xs q) p
  · have e : i = xs.length := by exact Nat.le_antisymm (θo [_,_] θ0 θ1 θ0 θ1 rfl hi) (θo [_,_] θ0 θ1 θ0 θ1 rfl (θw hlt))
    subst e
    exact .inl ⟨⟨xs, q, Nat.le_refl _⟩, hd σ H p⟩
theorem for_range {lo : Int} {n : Nat} {g : TG} {tb : TS} {D : Ends} {σ : St} {H : Hp} (Pv : Nat → St → Hp → Prop) (h0 : Pv 0 σ H)
    (hs : ∀ i σ H, i < n → Pv i σ H → g (.int (lo + i)) σ H fun σ2 H2 => tb { D with nx := Pv (i + 1), ct := Pv (i + 1), bk := D.nx } σ2 H2) (hd : ∀ σ H, Pv n σ H → D.nx σ H) :
    ∃ W : Nat → Nat → St → Hp → Prop, (∃ m, W 0 m σ H) ∧ ∀ i m σ H, W i m σ H →
      ((Itr lo n).stop i H ∧ D.nx σ H) ∨ ((Itr lo n).go i H ∧ ∃ N : St → Hp → Prop, (∀ σ' H', N σ' H' → ∃ m', m' < m ∧ W (i + 1) m' σ' H') ∧ ∀ x H', (Itr lo n).yld i H x H' → g x σ H' fun σ2 H2 => tb { D with nx := N, ct := N, bk := D.nx } σ2 H2) := by
  refine ⟨fun i m σ H => m = n - i ∧ i ≤ n ∧ Pv i σ H, ⟨n, by simp, Nat.zero_le _, h0⟩, ?_⟩
  rintro i m σ H ⟨rfl, hi, p⟩
  by_cases hlt : i < n
  · refine .inr ⟨hlt, Pv (i + 1), fun σ' H' p' => ⟨n - (i + 1), by exact θo [_,_,_,_] (θ0+1) θ1 (θ0+(θ2+1)+θ3) (θ3+(θ1+θ2)) rfl (θa (θr (θo [_,_] (θ0+1) θ1 (θ0+1) θ1 rfl hlt)) (θq _ _)), rfl, hlt, p'⟩, fun x H' y => ?_⟩
    obtain ⟨e, y⟩ := y
    subst e y
    exact hs i σ _ hlt p
  · have e : i = n := by exact Nat.le_antisymm (θo [_,_] θ0 θ1 θ0 θ1 rfl hi) (θo [_,_] θ0 θ1 θ0 θ1 rfl (θw hlt))
    subst e
    exact .inl ⟨Nat.le_refl _, hd σ H p⟩
end L2
namespace L2
open PySem PySem.Spec PyProof.Rows
abbrev R2 := V → V → Hp → VK → Prop
def OpR (X : Cx) (f : Value → Value → Sem Value) (r : R2) : Prop :=
  ∀ (pins : List (Addr × Obj)) (s : Shared) (σ : St) (H : Hp) (x y : V) (v u : Value) (Q : VK), Inv X pins σ H s → RelV x v → RelV y u → r x y H Q →
    wpAny (model X.prog X.w) X.A (f v u) (EP X pins σ Q) X.xe s
def UnR (X : Cx) (f : Value → Sem Value) (r : V → Hp → VK → Prop) : Prop :=
  ∀ (pins : List (Addr × Obj)) (s : Shared) (σ : St) (H : Hp) (x : V) (v : Value) (Q : VK), Inv X pins σ H s → RelV x v → r x H Q →
    wpAny (model X.prog X.w) X.A (f v) (EP X pins σ Q) X.xe s
def CallR (X : Cx) (f : Value) (r : List V → Hp → VK → Prop) : Prop :=
  ∀ (pins : List (Addr × Obj)) (s : Shared) (σ : St) (H : Hp) (xs : List V) (us : List Value) (Q : VK), Inv X pins σ H s → Vals xs us → r xs H Q →
    wpAny (model X.prog X.w) X.A (call f us) (EP X pins σ Q) X.xe s
def TruR (X : Cx) (r : V → Hp → (Bool → Hp → Prop) → Prop) : Prop :=
  ∀ (pins : List (Addr × Obj)) (s : Shared) (σ : St) (H : Hp) (x : V) (v : Value) (Q : Bool → Hp → Prop), Inv X pins σ H s → RelV x v → r x H Q →
    wpAny (model X.prog X.w) X.A (truthy v) (TP X pins σ Q) X.xe s
def tOp (r : R2) (ta tb : TE) : TE := fun σ H Q => ta σ H fun x H1 => tb σ H1 fun y H2 => r x y H2 Q
def tUn (r : V → Hp → VK → Prop) (ta : TE) : TE := fun σ H Q => ta σ H fun x H1 => r x H1 Q
inductive rI (C : Int → Int → Prop) (g : Int → Int → V) (x : V) (y : V) (H : Hp) (Q : VK) : Prop
  | mk (i : _) (j : _) (h1_ : x = .int i) (h2_ : y = .int j) (h3_ : C i j) (h4_ : Q (g i j) H) : rI C g x y H Q
inductive rI0 (g : Int → Int → V) (x : V) (y : V) (H : Hp) (Q : VK) : Prop
  | mk (i : _) (j : _) (h1_ : x = .int i) (h2_ : y = .int j) (h3_ : Q (g i j) H) : rI0 g x y H Q
inductive rU (g : Int → V) (x : V) (H : Hp) (Q : VK) : Prop
  | mk (i : _) (h1_ : x = .int i) (h2_ : Q (g i) H) : rU g x H Q
section
variable {X : Cx} {a b c : Expr} {ta tb tc : TE} {pos : Pos}
theorem binT (ha : PE X a ta) (hb : PE X b tb) {pins : List (Addr × Obj)} {s : Shared} {σ : St} {H : Hp} {R : V → V → Hp → Prop} (I : Inv X pins σ H s)
    (h : ta σ H fun x H1 => tb σ H1 fun y H2 => R x y H2) {Q : Value → Shared → Prop} {f : Value → Value → Sem Value}
    (hf : ∀ v u s2 x y H2, Inv X pins σ H2 s2 → RelV x v → RelV y u → R x y H2 → wpAny (model X.prog X.w) X.A (f v u) Q X.xe s2) :
    wpAny (model X.prog X.w) X.A (eval a X.env) (fun v s₁ => wpAny (model X.prog X.w) X.A (eval b X.env) (fun u s₂ => wpAny (model X.prog X.w) X.A (f v u) Q X.xe s₂) X.xe s₁) X.xe s := by
  refine thn (ha pins s σ H _ I h) fun v s1 ⟨x, H1, I1, r1, q1⟩ => ?_
  refine thn (hb pins s1 σ H1 _ I1 q1) fun u s2 ⟨y, H2, I2, r2, q2⟩ => ?_
  exact hf v u s2 x y H2 I2 r1 r2 q2
theorem pe_op {op : Operator} {r : R2} (ho : OpR X (binaryOp op) r) (ha : PE X a ta) (hb : PE X b tb) : PE X (.BinOp a op b pos) (tOp r ta tb) := by
  intro pins s σ H Q I h
  exact wpAny_BinOp (binT ha hb I h fun v u s2 x y H2 I2 rx ry q => ho pins s2 σ H2 x y v u Q I2 rx ry q)
theorem pe_un {op : UnaryOp} {r : V → Hp → VK → Prop} (ho : UnR X (unaryOp op) r) (ha : PE X a ta) : PE X (.UnaryOp op a pos) (tUn r ta) := by
  intro pins s σ H Q I h
  exact UnaryOp_ (thn (ha pins s σ H _ I h) fun v s1 ⟨x, H1, I1, r1, q1⟩ => ho pins s1 σ H1 x v Q I1 r1 q1)
theorem opI {f : Value → Value → Sem Value} {C : Int → Int → Prop} {g : Int → Int → Int}
    (rule : ∀ (i j : Int) (t u : Tok) (s : Shared) (Q : Value → Shared → Prop) (E : Value → Shared → Prop), C i j → Q (.int (g i j) s.toks) { s with toks := s.toks + 1 } → wpAny (model X.prog X.w) X.A (f (.int i t) (.int j u)) Q E s) :
    OpR X f (rI C fun i j => .int (g i j)) := by
  intro pins s σ H x y v u Q I rx ry h
  obtain ⟨i, j, rfl, rfl, hc, q⟩ := h
  obtain ⟨t, rfl⟩ := rx
  obtain ⟨t', rfl⟩ := ry
  exact rule i j t t' s _ _ hc ⟨.int (g i j), H, I.tok _, ⟨_, rfl⟩, q⟩
theorem opI0 {f : Value → Value → Sem Value} {g : Int → Int → Int}
    (rule : ∀ (i j : Int) (t u : Tok) (s : Shared) (Q : Value → Shared → Prop) (E : Value → Shared → Prop), Q (.int (g i j) s.toks) { s with toks := s.toks + 1 } → wpAny (model X.prog X.w) X.A (f (.int i t) (.int j u)) Q E s) :
    OpR X f (rI0 fun i j => .int (g i j)) := by
  intro pins s σ H x y v u Q I rx ry h
  obtain ⟨i, j, rfl, rfl, q⟩ := h
  obtain ⟨t, rfl⟩ := rx
  obtain ⟨t', rfl⟩ := ry
  exact rule i j t t' s _ _ ⟨.int (g i j), H, I.tok _, ⟨_, rfl⟩, q⟩
theorem opB0 {f : Value → Value → Sem Value} {g : Int → Int → Bool}
    (rule : ∀ (i j : Int) (t u : Tok) (s : Shared) (Q : Value → Shared → Prop) (E : Value → Shared → Prop), Q (.bool (g i j)) s → wpAny (model X.prog X.w) X.A (f (.int i t) (.int j u)) Q E s) :
    OpR X f (rI0 fun i j => .bl (g i j)) := by
  intro pins s σ H x y v u Q I rx ry h
  obtain ⟨i, j, rfl, rfl, q⟩ := h
  obtain ⟨t, rfl⟩ := rx
  obtain ⟨t', rfl⟩ := ry
  exact rule i j t t' s _ _ ⟨.bl (g i j), H, I, rfl, q⟩
def CDiv (i j : Int) : Prop := 0 < j ∧ j < 1073741824
def CPow (i j : Int) : Prop := 0 ≤ j ∧ j ≤ 1000000 ∧ i.natAbs < 2 ^ 64
def CMul (i j : Int) : Prop := (-(2 ^ 64) < i ∧ i < 2 ^ 64) ∨ (-(2 ^ 64) < j ∧ j < 2 ^ 64)
theorem CMul.ok {i j : Int} (h : CMul i j) : IntMulOk i j := by
  rcases h with ⟨h1, h2⟩ | ⟨h1, h2⟩
  · exact .of_left (intBits_le_64 h1 h2)
  · exact .of_right (intBits_le_64 h1 h2)
theorem op_add : OpR X (binaryOp .Add) (rI0 fun i j => .int (i + j)) := opI0 fun _ _ _ _ _ _ _ q => add_int q
theorem op_sub : OpR X (binaryOp .Sub) (rI0 fun i j => .int (i - j)) := opI0 fun _ _ _ _ _ _ _ q => sub_int q
theorem op_mul : OpR X (binaryOp .Mult) (rI CMul fun i j => .int (i * j)) := opI fun _ _ _ _ _ _ _ hc q => mul_int q hc.ok
theorem op_fdiv : OpR X (binaryOp .FloorDiv) (rI CDiv fun i j => .int (i / j)) := opI fun i j _ _ _ _ _ hc q => by
  have h1 : (0 : Int) < j := hc.1
  have h2 : j < 1073741824 := hc.2
  exact floordiv_int (by lia) (by rw [Int.fdiv_eq_ediv_of_nonneg i (by lia)]; exact q) (.inl (PyProof.noPylong_small (by omega)))
theorem op_mod : OpR X (binaryOp .Mod) (rI (fun _ j => 0 < j) fun i j => .int (i % j)) := opI fun i j _ _ _ _ _ hc q => by
  have h1 : (0 : Int) < j := hc
  exact mod_int' (by lia) (by rw [Int.fmod_eq_emod_of_nonneg i (by lia)]; exact q)
theorem op_pow : OpR X (binaryOp .Pow) (rI CPow fun i j => .int (i ^ j.toNat)) := opI fun _ _ _ _ _ _ _ hc q => pow_int_small hc.1 hc.2.1 hc.2.2 q
theorem unI {f : Value → Sem Value} {g : Int → Int}
    (rule : ∀ (i : Int) (t : Tok) (s : Shared) (Q : Value → Shared → Prop) (E : Value → Shared → Prop), Q (.int (g i) s.toks) { s with toks := s.toks + 1 } → wpAny (model X.prog X.w) X.A (f (.int i t)) Q E s) :
    UnR X f (rU fun i => .int (g i)) := by
  intro pins s σ H x v Q I rx h
  obtain ⟨i, rfl, q⟩ := h
  obtain ⟨t, rfl⟩ := rx
  exact rule i t s _ _ ⟨.int (g i), H, I.tok _, ⟨_, rfl⟩, q⟩
theorem un_neg : UnR X (unaryOp .USub) (rU fun i => .int (-i)) := unI fun _ _ _ _ _ q => neg_int q
end
def scal : V → V → Bool
  | .non, .non => true | .non, .int _ => true | .int _, .non => true | .non, .bl _ => true | .bl _, .non => true | .non, .str _ => true | .str _, .non => true
  | .int _, .int _ => true | .bl _, .bl _ => true | .str _, .str _ => true | .byt _, .byt _ => true
  | .int _, .str _ => true | .str _, .int _ => true | .bl _, .str _ => true | .str _, .bl _ => true
  | _, _ => false
def rEq : R2 := fun x y H Q => scal x y = true ∧ Q (.bl (decide (x = y))) H
def rNe : R2 := fun x y H Q => scal x y = true ∧ Q (.bl (!decide (x = y))) H
theorem dec_int {i j : Int} : decide (V.int i = V.int j) = (i == j) := by
  rw [Bool.eq_iff_iff]
  simp
theorem dec_bl {i j : Bool} : decide (V.bl i = V.bl j) = (i == j) := by
  rw [Bool.eq_iff_iff]
  simp
theorem dec_str {i j : Str} : decide (V.str i = V.str j) = (i == j) := by
  rw [Bool.eq_iff_iff]
  simp
theorem dec_byt {i j : Array UInt8} : decide (V.byt i = V.byt j) = (i.toList == j.toList) := by
  rw [Bool.eq_iff_iff]
  cases i
  cases j
  simp
section
variable {X : Cx} {a b c : Expr} {ta tb tc : TE} {pos : Pos}
theorem fin_bl {pins : List (Addr × Obj)} {σ : St} {H : Hp} {s : Shared} {Q : VK} {k k' : Bool} (I : Inv X pins σ H s) (q : Q (.bl k) H) (e : k = k') : EP X pins σ Q (.bool k') s := by
  subst e
  exact ⟨.bl k, H, I, rfl, q⟩
theorem op_eq : OpR X (compareOp .Eq) rEq := by
  intro pins s σ H x y v u Q I rx ry h
  obtain ⟨hs, q⟩ := h
  cases x with
  | non =>
    cases rx
    cases y with
    | non => cases ry; exact PySem.EqNone.eq_none_none (fin_bl I q (by simp))
    | bl j => cases ry; exact PySem.EqNone.eq_none_bool (fin_bl I q (by simp))
    | int j => obtain ⟨t', rfl⟩ := ry; exact PySem.EqNone.eq_none_int (fin_bl I q (by simp))
    | str j => obtain ⟨t', rfl⟩ := ry; exact PySem.EqNone.eq_none_str (fin_bl I q (by simp))
    | _ => exact absurd (show false = true from hs) Bool.false_ne_true
  | bl i =>
    cases rx
    cases y with
    | non => cases ry; exact PySem.EqNone.eq_bool_none (fin_bl I q (by simp))
    | bl j => cases ry; exact eq_bool (fin_bl I q dec_bl)
    | str j => obtain ⟨t', rfl⟩ := ry; exact PySem.EqMixed.eq_bool_str (fin_bl I q (by simp))
    | _ => exact absurd (show false = true from hs) Bool.false_ne_true
  | int i =>
    obtain ⟨t, rfl⟩ := rx
    cases y with
    | non => cases ry; exact PySem.EqNone.eq_int_none (fin_bl I q (by simp))
    | int j => obtain ⟨t', rfl⟩ := ry; exact eq_int (fin_bl I q dec_int)
    | str j => obtain ⟨t', rfl⟩ := ry; exact PySem.EqMixed.eq_int_str (fin_bl I q (by simp))
    | _ => exact absurd (show false = true from hs) Bool.false_ne_true
  | str i =>
    obtain ⟨t, rfl⟩ := rx
    cases y with
    | non => cases ry; exact PySem.EqNone.eq_str_none (fin_bl I q (by simp))
    | bl j => cases ry; exact PySem.EqMixed.eq_str_bool (fin_bl I q (by simp))
    | int j => obtain ⟨t', rfl⟩ := ry; exact PySem.EqMixed.eq_str_int (fin_bl I q (by simp))
    | str j => obtain ⟨t', rfl⟩ := ry; exact eq_str (fin_bl I q dec_str)
    | _ => exact absurd (show false = true from hs) Bool.false_ne_true
  | byt i =>
    obtain ⟨t, rfl⟩ := rx
    cases y with
    | byt j => obtain ⟨t', rfl⟩ := ry; exact PySem.W.eq_bytes (fin_bl I q dec_byt)
    | _ => exact absurd (show false = true from hs) Bool.false_ne_true
  | _ => cases y <;> exact absurd (show false = true from hs) Bool.false_ne_true
theorem op_ne : OpR X (compareOp .NotEq) rNe := by
  intro pins s σ H x y v u Q I rx ry h
  obtain ⟨hs, q⟩ := h
  cases x with
  | non =>
    cases rx
    cases y with
    | non => cases ry; exact PySem.EqNone.ne_none_none (fin_bl I q (by simp))
    | bl j => cases ry; exact PySem.EqNone.ne_none_bool (fin_bl I q (by simp))
    | int j => obtain ⟨t', rfl⟩ := ry; exact PySem.EqNone.ne_none_int (fin_bl I q (by simp))
    | str j => obtain ⟨t', rfl⟩ := ry; exact PySem.EqNone.ne_none_str (fin_bl I q (by simp))
    | _ => exact absurd (show false = true from hs) Bool.false_ne_true
  | bl i =>
    cases rx
    cases y with
    | non => cases ry; exact PySem.EqNone.ne_bool_none (fin_bl I q (by simp))
    | bl j => cases ry; exact ne_bool (fin_bl I q (congrArg not dec_bl))
    | str j => obtain ⟨t', rfl⟩ := ry; exact PySem.EqMixed.ne_bool_str (fin_bl I q (by simp))
    | _ => exact absurd (show false = true from hs) Bool.false_ne_true
  | int i =>
    obtain ⟨t, rfl⟩ := rx
    cases y with
    | non => cases ry; exact PySem.EqNone.ne_int_none (fin_bl I q (by simp))
    | int j => obtain ⟨t', rfl⟩ := ry; exact ne_int (fin_bl I q (congrArg not dec_int))
    | str j => obtain ⟨t', rfl⟩ := ry; exact PySem.EqMixed.ne_int_str (fin_bl I q (by simp))
    | _ => exact absurd (show false = true from hs) Bool.false_ne_true
  | str i =>
    obtain ⟨t, rfl⟩ := rx
    cases y with
    | non => cases ry; exact PySem.EqNone.ne_str_none (fin_bl I q (by simp))
    | bl j => cases ry; exact PySem.EqMixed.ne_str_bool (fin_bl I q (by simp))
    | int j => obtain ⟨t', rfl⟩ := ry; exact PySem.EqMixed.ne_str_int (fin_bl I q (by simp))
    | str j => obtain ⟨t', rfl⟩ := ry; exact ne_str (fin_bl I q (congrArg not dec_str))
    | _ => exact absurd (show false = true from hs) Bool.false_ne_true
  | byt i =>
    obtain ⟨t, rfl⟩ := rx
    cases y with
    | byt j => obtain ⟨t', rfl⟩ := ry; exact PySem.W.ne_bytes (fin_bl I q (congrArg not dec_byt))
    | _ => exact absurd (show false = true from hs) Bool.false_ne_true
  | _ => cases y <;> exact absurd (show false = true from hs) Bool.false_ne_true
theorem op_lt : OpR X (compareOp .Lt) (rI0 fun i j => .bl (decide (i < j))) := opB0 fun _ _ _ _ _ _ _ q => lt_int q
theorem op_le : OpR X (compareOp .LtE) (rI0 fun i j => .bl (decide (i ≤ j))) := opB0 fun _ _ _ _ _ _ _ q => le_int q
theorem op_in_str : OpR X (compareOp .In) (fun x y H Q => ∃ i j, x = .str i ∧ y = .str j ∧ Q (.bl (!(Builtin.Str.occurrences j i 0 j.length 1).isEmpty)) H) := by
  intro pins s σ H x y v u Q I rx ry h
  obtain ⟨i, j, rfl, rfl, q⟩ := h
  obtain ⟨t, rfl⟩ := rx
  obtain ⟨t', rfl⟩ := ry
  exact in_str (fin_bl I q rfl)
theorem nomark (b : Expr) {op : CmpOp} (h : op ≠ .In := by decide) (h2 : op ≠ .NotIn := by decide) : behindInMarks op b = false := by
  have e1 : (op == CmpOp.In) = false := by cases op <;> first | rfl | exact absurd rfl h
  have e2 : (op == CmpOp.NotIn) = false := by cases op <;> first | rfl | exact absurd rfl h2
  cases b <;> simp [behindInMarks, e1, e2]
theorem pe_cmpR {op : CmpOp} {r : R2} (ho : OpR X (compareOp op) r) (ha : PE X a ta) (hb : PE X b tb) (hm : behindInMarks op b = false) : PE X (.Compare a [op] [b] pos) (tOp r ta tb) := by
  intro pins s σ H Q I h
  exact wpAny_Compare1 (binT ha hb I h fun v u s2 x y H2 I2 rx ry q => ho pins s2 σ H2 x y v u Q I2 rx ry q) hm
inductive tTestI (H : Hp) (Q : (Bool → Hp → Prop)) (x : V) (H' : Hp) : Prop
  | mk (k : _) (h1_ : x = .bl k) (h2_ : Q k H') : tTestI H Q x H'
def tTest (t : TE) : TT := fun σ H Q => t σ H fun x H' => tTestI H Q x H'
theorem pt_cmpR {op : CmpOp} {r : R2} (ho : OpR X (compareOp op) r) (ha : PE X a ta) (hb : PE X b tb) (hm : behindInMarks op b = false) : PT X (.Compare a [op] [b] pos) (tTest (tOp r ta tb)) := by
  intro pins s σ H Q I h
  refine wpAny_isTrue_Compare1 (thn (ha pins s σ H _ I h) fun v s1 ⟨x, H1, I1, r1, q1⟩ => thn (hb pins s1 σ H1 _ I1 q1) fun u s2 ⟨y, H2, I2, r2, q2⟩ =>
    thn (ho pins s2 σ H2 x y v u _ I2 r1 r2 q2) fun c s3 ⟨z, H3, I3, r3, k, e, q3⟩ => ?_) hm
  subst e
  cases r3
  exact wpAny_truthy_bool ⟨H3, I3, q3⟩
def TruV (K : PySem.W.Frag) (x : V) (H : Hp) (k : Bool) : Prop :=
  match x with
  | .non => k = false
  | .bl b => k = b
  | .int i => k = (i != 0)
  | .str y => y.length ≤ sizeLine ∧ k = ((y.length : Int) != 0)
  | .byt y => y.size ≤ sizeLine ∧ k = ((y.size : Int) != 0)
  | .ref p => (∃ xs, SqL K H p xs ∧ k = !xs.isEmpty) ∨ (∃ xs, SqT K H p xs ∧ k = !xs.isEmpty) ∨ ∃ kvs, H p = some (.dK kvs) ∧ k = !kvs.isEmpty
  | _ => False
theorem isEmpty_kv {κ : Type} {kvs : List (κ × V)} {vs : List (κ × Value)} (r : KV kvs vs) : (!vs.isEmpty) = !kvs.isEmpty := by
  cases r <;> rfl
theorem isEmpty_of {xs : List V} {its : List Value} (r : Vals xs its) : (!its.toArray.isEmpty) = !xs.isEmpty := by
  cases r <;> simp
theorem line63 : (sizeLine : Nat) < 2 ^ 63 := by rw [sizeLine_eq]; decide
theorem tru_ok : TruR X (fun x H Q => ∃ k, TruV X.K x H k ∧ Q k H) := by
  intro pins s σ H x v Q I rx h
  obtain ⟨k, e, q⟩ := h
  have hl := line63
  have hs : sizeLine = 16777216 := sizeLine_eq
  cases x with
  | non =>
    cases rx
    have e' : k = false := e
    subst e'
    exact truthy_none ⟨H, I, q⟩
  | bl b =>
    cases rx
    have e' : k = b := e
    subst e'
    exact wpAny_truthy_bool ⟨H, I, q⟩
  | int i =>
    obtain ⟨t, rfl⟩ := rx
    have e' : k = (i != 0) := e
    subst e'
    exact PySem.P.truthy_int ⟨H, I, q⟩
  | str y =>
    obtain ⟨t, rfl⟩ := rx
    obtain ⟨hy, e'⟩ : y.length ≤ sizeLine ∧ k = ((y.length : Int) != 0) := e
    subst e'
    exact PySem.P.truthy_str (by lia) ⟨H, I.tok _, q⟩
  | byt y =>
    obtain ⟨t, rfl⟩ := rx
    obtain ⟨hy, e'⟩ : y.size ≤ sizeLine ∧ k = ((y.size : Int) != 0) := e
    subst e'
    exact PySem.W.truthy_bytes (by exact θo [_,_] θ0 1099511627776 (θ0+θ1) (θ1+16777216) rfl (θa hy (θe hs))) ⟨H, I.tok _, q⟩
  | ref p =>
    cases rx
    have e' : (∃ xs, SqL X.K H p xs ∧ k = !xs.isEmpty) ∨ (∃ xs, SqT X.K H p xs ∧ k = !xs.isEmpty) ∨ ∃ kvs, H p = some (.dK kvs) ∧ k = !kvs.isEmpty := e
    rcases e' with ⟨xs, hx, e'⟩ | ⟨xs, hx, e'⟩ | ⟨kvs, hx, e'⟩
    · subst e'
      obtain ⟨its, r, pl, hz⟩ := I.list hx
      have hlen := r.length
      exact wpAny_truthy_list pl.isList (by simp only [List.size_toArray]; lia) ⟨H, I.tok _, by rw [isEmpty_of r]; exact q⟩
    · subst e'
      obtain ⟨its, r, pl, hz⟩ := I.tuple hx
      have hlen := r.length
      exact truthy_tuple pl (by simp only [List.size_toArray]; lia) ⟨H, I.tok _, by rw [isEmpty_of r]; exact q⟩
    · subst e'
      obtain ⟨hz, hS, vs, r, m⟩ : kvs.length ≤ sizeLine ∧ (p == sysModules) = false ∧ ∃ vs, KV kvs vs ∧ s.heap.DictOf (mixKind X.prog X.w) p vs := I.hok p _ hx
      have hlen : kvs.length = vs.length := Paired.length r
      exact wpAny_truthy_dict hS m (by lia) ⟨H, I.tok _, by rw [isEmpty_kv r]; exact q⟩
  | _ => exact (show False from e).elim
theorem pt_truth (ha : PE X a ta) (he : ∀ whole, isTrue a X.env whole = (do let v ← whole; standAt a.pos; holding [v] (truthy v))) :
    PT X a (fun σ H Q => ta σ H fun x H' => ∃ k, TruV X.K x H' k ∧ Q k H') := by
  intro pins s σ H Q I h
  exact isTrue_plain (thn (ha pins s σ H _ I h) fun v s1 ⟨x, H1, I1, r1, q1⟩ => tru_ok pins s1 σ H1 x v Q I1 r1 q1) (he _)
theorem op_add_str : OpR X (binaryOp .Add) (fun x y H Q => ∃ i j, x = .str i ∧ y = .str j ∧ i.length + j.length ≤ sizeLine ∧ Q (.str (i ++ j)) H) := by
  intro pins s σ H x y v u Q I rx ry h
  obtain ⟨i, j, rfl, rfl, hz, q⟩ := h
  obtain ⟨t, rfl⟩ := rx
  obtain ⟨t', rfl⟩ := ry
  exact add_str (fun t' tk => ⟨.str (i ++ j), H, I.tok _, ⟨_, rfl⟩, q⟩) hz
theorem vals1 {x : V} {us : List Value} (r : Vals [x] us) : ∃ u, us = [u] ∧ RelV x u := by
  cases r with
  | cons r1 r2 => cases r2; exact ⟨_, rfl, r1⟩
theorem call_abs : CallR X (.builtin "abs") (fun xs H Q => ∃ i, xs = [.int i] ∧ Q (.int (if i < 0 then -i else i)) H) := by
  intro pins s σ H xs us Q I r h
  obtain ⟨i, rfl, q⟩ := h
  obtain ⟨u, rfl, t, rfl⟩ := vals1 r
  exact call_abs_int fun u tk => ⟨.int (if i < 0 then -i else i), H, I.tok _, ⟨_, rfl⟩, q⟩
theorem call_int1 : CallR X (.type "int") (fun xs H Q => (∃ i, xs = [.int i] ∧ Q (.int i) H) ∨ ∃ k, xs = [.bl k] ∧ Q (.int (if k then 1 else 0)) H) := by
  intro pins s σ H xs us Q I r h
  rcases h with ⟨i, rfl, q⟩ | ⟨k, rfl, q⟩
  · obtain ⟨u, rfl, t, rfl⟩ := vals1 r
    exact call_int_int ⟨.int i, H, I, ⟨_, rfl⟩, q⟩
  · obtain ⟨u, rfl, r1⟩ := vals1 r
    cases r1
    exact call_int_bool ⟨.int (if k then 1 else 0), H, I.tok _, ⟨_, rfl⟩, q⟩
end
end L2
namespace L2
open PySem PySem.Spec PyProof.Rows
structure ObjM (h : Heap) (x dx C : Addr) (mA : Str → Option Value) : Prop where
  obj : h.get? x = some (PySem.W.instObj C dx)
  ns : h.Ns1 dx mA
  ne : dx ≠ x
theorem lookIn_ns {h : Heap} {dx : Addr} {mA : Str → Option Value} (n : h.Ns1 dx mA) : ∃ od, h.get? dx = some od ∧ ∀ name, PySem.W.lookIn name od = some (mA name) := by
  obtain ⟨o, es, ep, ho, hd, hk, _, hm⟩ := n
  refine ⟨o, ho, fun name => ?_⟩
  have e := hm name
  unfold nsFind findBy at e
  rw [← Array.find?_toList] at e
  unfold PySem.W.lookIn
  rw [hd]
  dsimp only
  split
  · rename_i y q
    rw [q] at e
    exact congrArg some e
  · rename_i q
    rw [q] at e
    have a : es.toList.any (·.refKey) = false := by
      rw [List.any_eq_false]
      intro y hy
      obtain ⟨z, t, hkey⟩ := hk y (Array.mem_toList_iff.mp hy)
      simp [DictEntry.refKey, hkey]
    have a' : ¬ es.toList.any (·.refKey) = true := by rw [a]; exact Bool.false_ne_true
    rw [if_neg a']
    exact congrArg some e
theorem ObjM.look {h : Heap} {x dx C : Addr} {mA : Str → Option Value} (I : ObjM h x dx C mA) : ∃ od, PySem.W.InstAt h x (PySem.W.instObj C dx) C (some od) ∧ ∀ name, PySem.W.lookIn name od = some (mA name) :=
  let ⟨od, ho, hl⟩ := lookIn_ns I.ns
  ⟨od, ⟨I.obj, rfl, rfl, ho⟩, hl⟩
section
variable {prog : Program} {w : World} {A : Around} {E : Value → Shared → Prop} {s : Shared} {K : PySem.W.Frag} {x dx C f : Addr} {mA : Str → Option Value} {name : Str} {v : Value}
end
section
variable {P : Program} {w : World} {H H' : Hp} {h h' : Heap} {a C dx : Addr} {fs fs' : List (Str × V)}
theorem ins_get (hok : HOk P w H h) (e : H a = some (.ins C dx fs)) : ∃ mA, ObjM h a dx C mA ∧ (∀ f, RelO (fs.lookup f) (mA f)) ∧ PySem.Within mA (fs.map (·.1)) ∧ fs.length ≤ 1000 ∧ H dx = some (.own a) := by
  obtain ⟨d, z, ne, ob, mA, n, r, q⟩ := (show ObjOk P w H h a (.ins C dx fs) from hok a _ e)
  exact ⟨mA, ⟨ob, n, ne⟩, r, q, z, d⟩
end
structure Cls (K : PySem.W.Frag) (C : Addr) : Prop where
  pg : PySem.W.plainGet K C Str.empty = true
  hd : PySem.W.hasDictIn K C = true
  po : PySem.W.plainOver K C = true
  sa : PySem.W.findIn K (.ref C) "__setattr__" = some (some (.builtin "object.__setattr__"))
theorem Cls.get {K : PySem.W.Frag} {C : Addr} (c : Cls K C) (f : Str) : PySem.W.plainGet K C f = true := c.pg
section
variable {X : Cx} {pins : List (Addr × Obj)} {σ : St} {H : Hp} {s : Shared} {a C dx : Addr} {fs : List (Str × V)} {f : Str} {v : V} {A : Around} {E : Value → Shared → Prop}
theorem Inv.made (I : Inv X pins σ H s) : Inv X pins σ (upd (upd H s.heap.objs.size (.own (s.heap.objs.size + 1))) (s.heap.objs.size + 1) (.ins C s.heap.objs.size []))
    { s with heap := (s.heap.push PySem.W.emptyDict).push (PySem.W.instObj C s.heap.objs.size) } := by
  have e1 : (s.heap.push PySem.W.emptyDict).get? s.heap.objs.size = some PySem.W.emptyDict := Heap.get?_push_size s.heap rfl
  have e2 : ((s.heap.push PySem.W.emptyDict).push (PySem.W.instObj C s.heap.objs.size)).get? (s.heap.objs.size + 1) = some (PySem.W.instObj C s.heap.objs.size) := by
    have := Heap.get?_push_size (s.heap.push PySem.W.emptyDict) (o := PySem.W.instObj C s.heap.objs.size) rfl
    rwa [Heap.size_push] at this
  have e3 : (s.heap.push PySem.W.emptyDict).Ns s.heap.objs.size (fun _ => none) := ⟨PySem.W.emptyDict, #[], _, e1, rfl, (fun e he => absurd he (by simp)), fun _ => rfl⟩
  have I1 := I.laid (a := s.heap.objs.size) (o := .own (s.heap.objs.size + 1)) (h' := s.heap.push PySem.W.emptyDict) (t' := s.toks) (fun b u q => Heap.get?_push_of_some _ q) (Nat.le_refl _) ⟨_, e1⟩
  refine I1.laid (a := s.heap.objs.size + 1) (o := .ins C s.heap.objs.size []) (t' := s.toks) (fun b u q => Heap.get?_push_of_some _ q) (Nat.le_of_eq (Heap.size_push _ _)) ?_
  have ne : s.heap.objs.size ≠ s.heap.objs.size + 1 := Nat.ne_of_lt (Nat.lt_succ_self _)
  refine ⟨by rw [upd_ne ne, upd_same], Nat.zero_le _, ne, e2, fun _ => none, (Heap.Ns1.of_empty e3).at fun o q => Heap.get?_push_of_some _ q, fun _ => True.intro, fun y hy => absurd rfl hy⟩
end
section
variable {X : Cx} {o e value : Expr} {f : Str} {pos pos' tpos : Pos} {ta tv : TE}
end
section
variable {X : Cx} {pins : List (Addr × Obj)} {σ : St} {H : Hp} {s : Shared} {A : Around} {E : Value → Shared → Prop} {Q : Value → Shared → Prop} {c : Value} {b : Bool}
inductive TyOf (K : PySem.W.Frag) (H : Hp) : V → Value → Prop where
  | non : TyOf K H .non (.type "NoneType")
  | bl (x : Bool) : TyOf K H (.bl x) (.type "bool")
  | int (i : Int) : TyOf K H (.int i) (.type "int")
  | str (x : Str) : TyOf K H (.str x) (.type "str")
  | flt (x : UInt64) : TyOf K H (.flt x) (.type "float")
  | lst {a : Addr} {xs : List V} (e : H a = some (.lst xs)) : TyOf K H (.ref a) (.type "list")
  | frz {a : Addr} {o : Obj} {xs : List V} (e : H a = some (.frz o (.lst xs))) : TyOf K H (.ref a) (.type "list")
  | tup {a : Addr} {xs : List V} (e : H a = some (.tup xs)) : TyOf K H (.ref a) (.type "tuple")
  | dK {a : Addr} {kvs : List (Key × V)} (e : H a = some (.dK kvs)) : TyOf K H (.ref a) (.type "dict")
  | dT {a : Addr} {kvs : List (List Key × V)} (e : H a = some (.dT kvs)) : TyOf K H (.ref a) (.type "dict")
  | ins {a C dx : Addr} {fs : List (Str × V)} (e : H a = some (.ins C dx fs)) (cl : Cls K C) (ha : PySem.W.findIn K (.ref C) "__class__" = some (some (.builtin "object.__class__")))
      (hn : PySem.W.specialIn K (.builtin "object.__class__") "__get__" = some (some (.builtin "getset_descriptor.__get__"))) (htk : PySem.W.takesIn K (.builtin "object.__class__") = some true)
      (hm : PySem.W.mroIn K C (.type "object") = some true) : TyOf K H (.ref a) (.ref C)
end
end L2
namespace L2
open PySem PySem.Spec PyProof.Rows
structure Room (k : Nat) (A : Around) : Prop where
  hd : A.handled = none
  dp : A.depth + 3 * k + 5 < recursionLimit
  un : A.units + 16 * k + 200 < cLine
theorem Room.mono {j k : Nat} {A : Around} (r : Room k A) (h : j ≤ k) : Room j A := ⟨r.hd, by have := r.dp; exact θo [_,_,_,_] (θ0+(.m 3 (θ1))+5+1) θ2 (θ0+(.m 3 (θ3))+5+1+(θ1+(θ1+θ1))) (θ2+(θ3+(θ3+θ3))) rfl (θa this (θa h (θa h h))), by have := r.un; lia⟩
theorem Room.deeper {k : Nat} {A : Around} (r : Room (k + 1) A) (env : Env) : Room k (A.deeper env) :=
  ⟨r.hd, by have := r.dp; show A.depth + 1 + 3 * k + 5 < _; lia, by have := r.un; show A.units + 3 + 16 * k + 200 < _; lia⟩
theorem Room.in1 {k : Nat} {A : Around} (r : Room (k + 1) A) : Room k A.in1 :=
  ⟨r.hd, by have := r.dp; show A.depth + 3 * k + 5 < _; lia, by have := r.un; show A.units + 1 + 16 * k + 200 < _; lia⟩
theorem Room.depth {k : Nat} {A : Around} (r : Room k A) : A.depth < recursionLimit := by have := r.dp; lia
theorem Room.units {k : Nat} {A : Around} (r : Room k A) : A.units + 64 < cLine := by have := r.un; lia
theorem Room.units0 {k : Nat} {A : Around} (r : Room k A) : A.units < cLine := by have := r.un; lia
def tNil : TA := fun _ H Q => Q [] H
def tCons (ta : TE) (tr : TA) : TA := fun σ H Q => ta σ H fun x H1 => tr σ H1 fun xs H2 => Q (x :: xs) H2
section
variable {X : Cx} {e : Expr} {es : List Expr} {te : TE} {t : TA} {pos : Pos}
theorem pa_nil : PA X [] tNil := fun _ _ _ _ H Q I h => Calls.spliced_nil ⟨[], H, I, .nil, h⟩
theorem pa_cons (ha : PE X e te) (hr : PA X es t) (hs : starEach (e :: es) X.env = (false, eval e X.env) :: starEach es X.env := by rfl) : PA X (e :: es) (tCons te t) := by
  intro pos pins s σ H Q I h
  rw [hs]
  show wpAny _ _ (spliced ((false, eval e X.env) :: backTo pos (starEach es X.env))) _ _ s
  refine Calls.spliced_cons (thn (ha pins s σ H _ I h) fun u s1 ⟨x, H1, I1, r1, q1⟩ => ?_)
  exact thn (hr pos pins s1 σ H1 _ I1 q1) fun us s2 ⟨xs, H2, I2, r2, q2⟩ => ⟨x :: xs, H2, I2, .cons r1 r2, q2⟩
def tTup (t : TA) : TE := fun σ H Q => t σ H fun xs H1 => xs.length ≤ sizeLine ∧ ∀ p, H1 p = none → Q (.ref p) (upd H1 p (.tup xs))
def tLst (t : TA) : TE := fun σ H Q => t σ H fun xs H1 => xs.length ≤ sizeLine ∧ ∀ p, H1 p = none → Q (.ref p) (upd H1 p (.lst xs))
theorem pe_tup {x1} (h : PA X es t) : PE X (.Tuple es x1 pos) (tTup t) := by
  intro pins s σ H Q I hq
  refine wpAny_Tuple_spliced (thn (h pos pins s σ H _ I hq) fun us s1 ⟨xs, H1, I1, r, z, q⟩ => ⟨by rw [← r.length]; exact z, ?_⟩)
  have hf : H1 s1.heap.objs.size = none := I1.hok.fresh (Nat.le_refl _)
  refine ⟨.ref s1.heap.objs.size, upd H1 s1.heap.objs.size (.tup xs), I1.laid (t' := s1.toks) (fun b u e => Heap.get?_push_of_some _ e) (Nat.le_refl _) ?_, rfl, q _ hf⟩
  exact ⟨z, us, r, ⟨_, Heap.get?_push_size _ rfl, rfl, _, rfl⟩⟩
theorem pe_lst (h : PA X es t) : PE X (.List es pos) (tLst t) := by
  intro pins s σ H Q I hq
  refine wpAny_List_spliced (thn (h pos pins s σ H _ I hq) fun us s1 ⟨xs, H1, I1, r, z, q⟩ => ⟨by rw [← r.length]; exact z, ?_⟩)
  have hf : H1 s1.heap.objs.size = none := I1.hok.fresh (Nat.le_refl _)
  refine ⟨.ref s1.heap.objs.size, upd H1 s1.heap.objs.size (.lst xs), I1.laid (t' := s1.toks) (fun b u e => Heap.get?_push_of_some _ e) (Nat.le_refl _) ?_, rfl, q _ hf⟩
  exact ⟨z, us, 0, r, Heap.get?_push_size _ rfl⟩
end
abbrev Sp := List V → Hp → VK → XK → Prop
abbrev CXT := List Env → Hp → Shared → XK → Value → Shared → Prop
structure Env0 (P : Program) (w : World) (K : PySem.W.Frag) (mg : Str → Option Value) (base : Heap) (A : Around) (outer : List Env) (s : Shared) (H : Hp) : Prop where
  frames : A.frames = some outer
  mod : Mod K mg base
  bs : ∀ b o, base.get? b = some o → s.heap.get? b = some o ∧ H b = none
  bsz : base.objs.size ≤ s.heap.objs.size
  funs : s.heap.FunFrames base outer
  frf : ∀ b ∈ frs outer, H b = none
  hok : HOk P w H s.heap
  bare : AllBare s.gens
def CE (outer : List Env) (P : Program) (w : World) (H : Hp) (s : Shared) (Q : VK) (u : Value) (s' : Shared) : Prop :=
  ∃ v H', s'.os = s.os ∧ AllBare s'.gens ∧ Un (frs outer) [] H H' s.heap s'.heap ∧ HOk P w H' s'.heap ∧ RelV v u ∧ Q v H'
def CR (CX : CXT) (outer : List Env) (P : Program) (w : World) (H : Hp) (s : Shared) (Q : VK) (E : XK) (r : Result) (s' : Shared) : Prop :=
  match r with
  | .ok (.ret u) => CE outer P w H s Q u s'
  | .ok _ => False
  | .error e => CX outer H s E e s'
structure FnOk (P : Program) (w : World) (K : PySem.W.Frag) (mg : Str → Option Value) (base : Heap) (CX : CXT) (k : Nat) (f : Addr) (fd : FuncData) (ps : List Str) (sp : Sp) : Prop where
  len : ∀ vs H Q E, sp vs H Q E → vs.length = ps.length
  run : ∀ (A : Around) (outer : List Env) (s : Shared) (H : Hp) (args : Args) (us : List Value) (vs : List V) (Q : VK) (E : XK), Room k A → Env0 P w K mg base A outer s H → BindsTo s fd args (ps.zip us) → Vals vs us → sp vs H Q E →
    codeAny (model P w) A (.call (.ref f) args) (CR CX outer P w H s Q E) s
theorem FnOk.mono {P : Program} {w : World} {K : PySem.W.Frag} {mg : Str → Option Value} {base : Heap} {CX : CXT} {j k : Nat} {f : Addr} {fd : FuncData} {ps : List Str} {sp : Sp} (F : FnOk P w K mg base CX j f fd ps sp) (h : j ≤ k) :
    FnOk P w K mg base CX k f fd ps sp := ⟨F.len, fun A outer s H args us vs Q E hr => F.run A outer s H args us vs Q E (hr.mono h)⟩
theorem Env0.in1 {P : Program} {w : World} {K : PySem.W.Frag} {mg : Str → Option Value} {base : Heap} {A : Around} {outer : List Env} {s : Shared} {H : Hp} (e : Env0 P w K mg base A outer s H) :
    Env0 P w K mg base A.in1 outer s H := ⟨e.frames, e.mod, e.bs, e.bsz, e.funs, e.frf, e.hok, e.bare⟩
section
variable {X : Cx} {pins : List (Addr × Obj)} {σ : St} {H : Hp} {s s' : Shared}
theorem Inv.env0 (I : Inv X pins σ H s) : Env0 X.prog X.w X.K X.mg X.base X.A X.stack s H :=
  ⟨I.ok.frames, I.ok.mod, I.bs, Nat.le_trans I.ok.bsz I.sz, I.stack, I.stkFree, I.hok, I.bare⟩
theorem Inv.after {Q : VK} {u : Value} (I : Inv X pins σ H s) (h : CE X.stack X.prog X.w H s Q u s') : EP X pins σ Q u s' := by
  obtain ⟨v, H', os, bare, un, hok, r, q⟩ := h
  obtain ⟨hh, g, d, t, os'⟩ := s'
  obtain rfl : os' = s.os := os
  exact ⟨v, H', I.call (h' := hh) (g' := g) (d' := d) (t' := t) (ch := []) un hok bare (fun b z => absurd z (by simp)), r, q⟩
end
def tCall (sp : Sp) (dvs : List V) (E : XK) (t : TA) : TE := fun σ H Q => t σ H fun vs H1 => sp (vs ++ dvs) H1 Q E
def Binds (K : PySem.W.Frag) (fd : FuncData) (ps : List Str) (ds : List Value) : Prop :=
  ∀ (s : Shared) (us : List Value), K.In s.heap → (us ++ ds).length = ps.length → BindsTo s fd ⟨us, []⟩ (ps.zip (us ++ ds))
theorem Binds.all {K : PySem.W.Frag} {fd : FuncData} {ps : List Str} (h : ∀ us : List Value, us.length = ps.length → bindArgs fd ⟨us, []⟩ = pure (ps.zip us)) : Binds K fd ps [] := fun s us _ hl => by
  rw [List.append_nil] at hl ⊢
  exact .of_eq (h us hl)
def Passes (CX : CXT) (X : Cx) (E : XK) : Prop := ∀ (pins : List (Addr × Obj)) (σ : St) (H : Hp) (s : Shared) (e : Value) (s' : Shared), Inv X pins σ H s → CX X.stack H s E e s' → X.xe e s'
section
variable {X : Cx} {CX : CXT} {k : Nat} {f C : Addr} {fd : FuncData} {ps : List Str} {sp : Sp} {dvs : List V} {ds : List Value} {E : XK} {x m : Str} {p pos apos : Pos} {e o : Expr} {es : List Expr} {ta : TE} {t : TA}
theorem run_fn {pins : List (Addr × Obj)} {σ : St} {H : Hp} {s : Shared} {Q : VK} {us : List Value} {vs : List V} (F : FnOk X.prog X.w X.K X.mg X.base CX k f fd ps sp) (hr : Room k X.A) (hb : Binds X.K fd ps ds) (hd : Vals dvs ds) (hx : Passes CX X E)
    (I : Inv X pins σ H s) (r : Vals vs us) (h : sp (vs ++ dvs) H Q E) : wpAny (model X.prog X.w) X.A (call (.ref f) us) (EP X pins σ Q) X.xe s := by
  have r2 : Vals (vs ++ dvs) (us ++ ds) := r.append hd
  have hl : (us ++ ds).length = ps.length := by rw [← r2.length]; exact F.len _ _ _ _ h
  refine wpAny_call (codeAny_mono (F.run X.A X.stack s H ⟨us, []⟩ (us ++ ds) (vs ++ dvs) Q E hr I.env0 (hb s us I.kIn hl) r2 h) fun r s' hq => ?_)
  cases r with
  | error e => exact hx pins σ H s e s' I hq
  | ok fl =>
    cases fl with
    | ret u => exact I.after hq
    | next => exact False.elim hq
    | brk => exact False.elim hq
    | cont => exact False.elim hq
theorem pe_call (F : FnOk X.prog X.w X.K X.mg X.base CX k f fd ps sp) (hr : Room k X.A) (hg : Gl X x) (hm : X.mg x = some (.ref f)) (hk : PySem.W.keepIn X.K (.ref f) = true) (hb : Binds X.K fd ps ds) (hd : Vals dvs ds) (hx : Passes CX X E)
    (ha : PA X (e :: es) t) (hdb : (x == ("__debug__" : Str)) = false := by decide) (he : starEach (e :: es) X.env = (false, eval e X.env) :: starEach es X.env := by rfl) (hpl : (backTo pos (starEach es X.env)).any (·.1) = false := by rfl) :
    PE X (.Call (.Name x p) (e :: es) [] pos) (tCall sp dvs E t) := by
  intro pins s σ H Q I h
  refine wpAny_Call_Name_kw (ld_glob I hg hm ?_ hdb)
  refine PySem.W.callWith_K (h₀ := X.base) I.ok.mod.kin hk (thn (ha pos pins s σ H _ I h) fun us s1 ⟨vs, H1, I1, r, q⟩ => ⟨I1.kIn, ?_⟩) he hpl
  exact run_fn F hr hb hd hx I1 r q
end
def PK (X : Cx) (kws : List Keyword) (t : TA) : Prop :=
  ∀ (pos : Pos) (pins : List (Addr × Obj)) (s : Shared) (σ : St) (H : Hp) (Q : List V → Hp → Prop), Inv X pins σ H s → t σ H Q → wpAny (model X.prog X.w) X.A (evalAll ((backToKw pos (keywordEach kws X.env)).map (·.2))) (AP X pins σ Q) X.xe s
section
variable {X : Cx} {CX : CXT} {k : Nat} {f C : Addr} {fd : FuncData} {ps ks : List Str} {sp : Sp} {E : XK} {x m : Str} {p pos apos kpos : Pos} {e o : Expr} {es : List Expr} {kws : List Keyword} {te ta : TE} {t tk : TA} {nm : Option Str}
variable {g : List Value → List Value → List Value} {gV : List V → List V → List V}
end
structure FnScope (N P : List Str) (sc : Scope) : Prop where
  kind : sc.kind = .function
  co : sc.isCoroutine = false
  gen : sc.isGenerator = false
  nd : N.Nodup
  pre : N.take P.length = P
  par : ∀ x ∈ P, sc.names.lookup x = some .local ∨ sc.names.lookup x = some .cell
  nofree : ∀ y ∈ sc.names, y.2 ≠ .free
theorem bindL_out {kindOf : Str → Option NameKind} {x : Str} : ∀ {binds : List (Str × Value)} {m : Str → Option Value}, (∀ v, (x, v) ∉ binds) → bindL kindOf binds m x = m x
  | [], _, _ => rfl
  | (n, v) :: r, m, h => by
    unfold bindL
    rw [bindL_out fun w hw => h w (List.mem_cons_of_mem _ hw)]
    split
    · have : x ≠ n := by rintro rfl; exact h v List.mem_cons_self
      simp [this]
    · rfl
theorem bindC_out {kindOf : Str → Option NameKind} {x : Str} : ∀ {binds : List (Str × Value)} {m : Str → Option Value}, (∀ v, (x, v) ∉ binds) → bindC kindOf binds m x = m x
  | [], _, _ => rfl
  | (n, v) :: r, m, h => by
    unfold bindC
    rw [bindC_out fun w hw => h w (List.mem_cons_of_mem _ hw)]
    split
    · rfl
    · have : x ≠ n := by rintro rfl; exact h v List.mem_cons_self
      simp [this]
theorem bindL_get {kindOf : Str → Option NameKind} {x : Str} {v : Value} : ∀ {P : List Str} {vs : List Value} {i : Nat} {m : Str → Option Value}, P.Nodup → P[i]? = some x → vs[i]? = some v → kindOf x = some .local →
    bindL kindOf (P.zip vs) m x = some v
  | [], _, _, _, _, h, _, _ => by simp at h
  | _ :: _, [], _, _, _, _, h, _ => by simp at h
  | p :: P, w :: vs, 0, m, nd, h1, h2, hk => by
    simp at h1 h2; subst h1; subst h2
    show bindL kindOf ((p, w) :: P.zip vs) m p = _
    unfold bindL
    rw [bindL_out fun v hv => (List.nodup_cons.mp nd).1 (List.of_mem_zip hv).1, if_pos hk]
    simp
  | p :: P, w :: vs, i + 1, m, nd, h1, h2, hk => by
    show bindL kindOf ((p, w) :: P.zip vs) m x = _
    unfold bindL
    exact bindL_get (i := i) (List.nodup_cons.mp nd).2 (by simpa using h1) (by simpa using h2) hk
theorem bindC_get {kindOf : Str → Option NameKind} {x : Str} {v : Value} : ∀ {P : List Str} {vs : List Value} {i : Nat} {m : Str → Option Value}, P.Nodup → P[i]? = some x → vs[i]? = some v → kindOf x ≠ some .local →
    bindC kindOf (P.zip vs) m x = some v
  | [], _, _, _, _, h, _, _ => by simp at h
  | _ :: _, [], _, _, _, _, h, _ => by simp at h
  | p :: P, w :: vs, 0, m, nd, h1, h2, hk => by
    simp at h1 h2; subst h1; subst h2
    show bindC kindOf ((p, w) :: P.zip vs) m p = _
    unfold bindC
    rw [bindC_out fun v hv => (List.nodup_cons.mp nd).1 (List.of_mem_zip hv).1, if_neg hk]
    simp
  | p :: P, w :: vs, i + 1, m, nd, h1, h2, hk => by
    show bindC kindOf ((p, w) :: P.zip vs) m x = _
    unfold bindC
    exact bindC_get (i := i) (List.nodup_cons.mp nd).2 (by simpa using h1) (by simpa using h2) hk
def start (N : List Str) (vs : List V) : St := vs.map some ++ List.replicate (N.length - vs.length) none
def cxOf (CX : CXT) (P : Program) (w : World) (K : PySem.W.Frag) (mg : Str → Option Value) (base : Heap) (N : List Str) (qual : Str) (scope : Scope) (f : Addr) (cd : Value) (A : Around) (outer : List Env) (s : Shared) (H : Hp) (E : XK) : Cx where
  prog := P
  w := w
  K := K
  mg := mg
  base := base
  A := A.deeper (envOfC qual scope s.heap.objs.size f cd)
  N := N
  s₀ := s
  H₀ := H
  env := envOfC qual scope s.heap.objs.size f cd
  outer := outer
  stack := envOfC qual scope s.heap.objs.size f cd :: outer
  ex := []
  calm := true
  fn := fun _ => true
  pn := []
  xe := fun e s' => wpAny (model P w) (A.deeper (envOfC qual scope s.heap.objs.size f cd)) (leaving (envOfC qual scope s.heap.objs.size f cd) e) (fun _ s'' => CX outer H s E e s'') (fun e' s'' => CX outer H s E e' s'') s'
theorem cell_has {sc : Scope} {n : Nat} {x : Str} (h : sc.names.lookup x = some .cell) : ∃ c, (cellsFrom n sc.names []).lookup x = some c := by
  have q := PySem.W.cellsFrom_some sc.names n [] (.inl h)
  exact Option.isSome_iff_exists.mp q
theorem inv_start {CX : CXT} {P : Program} {w : World} {K : PySem.W.Frag} {mg : Str → Option Value} {base : Heap} {N ps : List Str} {qual : Str} {scope : Scope} {f : Addr} {cd : Value} {A : Around} {outer : List Env} {s s1 : Shared} {H : Hp} {E : XK} {us : List Value} {vs : List V}
    (S : FnScope N ps scope) (hd : A.handled = none) (e0 : Env0 P w K mg base A outer s H) (hl : vs.length = ps.length) (r : Vals vs us)
    (x : InCallC s s.heap.objs.size (bindL (envOfC qual scope s.heap.objs.size f cd).kindOf (ps.zip us) fun _ => none) (cellsFrom (s.heap.objs.size + 1) scope.names []) (bindC (envOfC qual scope s.heap.objs.size f cd).kindOf (ps.zip us) fun _ => none) s1) :
    Inv (cxOf CX P w K mg base N qual scope f cd A outer s H E) [] (start N vs) H s1 := by
  have hpl : ps.length ≤ N.length := by have := congrArg List.length S.pre; rw [List.length_take] at this; exact Nat.le_trans (θs this) (θj _ _)
  obtain ⟨h1, tk, rfl, hk⟩ := x.done
  have noA : ∀ b : Addr, b ∉ (cxOf CX P w K mg base N qual scope f cd A outer s H E).ex := fun b z => absurd (show b ∈ ([] : List Addr) from z) (by simp)
  refine ⟨⟨e0.mod, S.kind, rfl, rfl, Nat.le_refl _, fun y z c h1 h2 => ?_, fun y hy => ?_, fun y c _ h => ?_, fun _ => hd, Around.frames_deeper e0.frames, .inr ⟨rfl, rfl⟩, fun b z => absurd z (noA b), e0.bs, e0.bsz, fun b _ _ => noA b, fun b z => absurd z (noA b), e0.funs, e0.frf⟩,
    rfl, e0.bare, Un.kept hk, ⟨_, x.toInCall.ns, fun i y v h1 h2 h3 => ?_⟩, fun y c h => ⟨_, x.cell y c h⟩, e0.hok.fresh (Nat.le_refl _), fun y c h => ?_, fun p hp => absurd (show p ∈ ([] : List (Addr × Obj)) from hp) (by simp), e0.hok.kept hk, ?_⟩
  · exact name_of_addr x.apart (PySem.mem_of_lookup h1) (PySem.mem_of_lookup h2)
  · have hy : scope.names.lookup y = some .cell ∨ scope.names.lookup y = some .free := hy
    rcases hy with hy | hy
    · exact cell_has hy
    · exact absurd rfl (S.nofree _ (PySem.mem_of_lookup hy))
  · exact Nat.le_of_lt (x.above y c (PySem.mem_of_lookup h))
  · have hi : i < vs.length := by
      unfold start at h2
      by_cases hi : i < vs.length
      · exact hi
      · rw [List.getElem?_append_right (by simpa using hi)] at h2
        rw [List.getElem?_replicate] at h2
        split at h2 <;> cases h2
    have ha : vs[i]? = some v := by
      unfold start at h2
      rw [List.getElem?_append_left (by simpa using hi), List.getElem?_map] at h2
      cases e : vs[i]? with
      | none => rw [e] at h2; cases h2
      | some a => rw [e] at h2; cases h2; rfl
    obtain ⟨u, hu, rv⟩ := r.get ha
    have hp : ps[i]? = some y := by
      rw [← S.pre, List.getElem?_take_of_lt (by exact Nat.le_trans hi (θe hl))]; exact h1
    have ndP : ps.Nodup := by rw [← S.pre]; exact S.nd.sublist (List.take_sublist _ _)
    refine ⟨u, rv, ?_⟩
    rcases S.par y (List.mem_of_getElem? hp) with k | k
    · exact .inl ⟨k, bindL_get ndP hp hu k⟩
    · obtain ⟨c, e⟩ := cell_has (n := s.heap.objs.size + 1) k
      refine .inr ⟨.inl k, c, e, ?_⟩
      have q := x.cell y c e
      rw [bindC_get ndP hp hu (by show scope.names.lookup y ≠ _; rw [k]; decide)] at q
      exact q
  · exact e0.hok.fresh (Nat.le_of_lt (x.above y c (PySem.mem_of_lookup h)))
  · unfold start
    show _ = N.length
    rw [List.length_append, List.length_map, List.length_replicate]
    exact Nat.le_antisymm (θo [_,_,_] (θ0+θ1) θ2 (θ1+θ0) θ2 rfl (θr (θo [_,_,_] θ0 θ1 (θ0+θ2) (θ2+θ1) rfl (θa (θe hl) hpl)))) (θo [_,_,_] θ0 (θ1+θ2) θ0 (θ2+θ1) rfl (θq _ _))
theorem fn_of {CX : CXT} {P : Program} {w : World} {K : PySem.W.Frag} {mg : Str → Option Value} {base : Heap} {k : Nat} {f : Addr} {name qual : Str} {params : Arguments} {body : List Stmt} {scope : Scope} {dV kV doc pm cdv ct oc : Value} {an od : Option Addr}
    {osl : Array (Option Value)} {N ps : List Str} {sp : Sp} (lk : K.lookup f = some ⟨oc, od, .func (PySem.W.fnOf name qual params body scope dV kV doc pm an cdv ct), osl⟩) (hcd : PySem.W.codeIn K cdv qual = true) (S : FnScope N ps scope)
    (len : ∀ vs H Q E, sp vs H Q E → vs.length = ps.length)
    (hbody : ∀ (A : Around) (outer : List Env) (s : Shared) (H : Hp) (vs : List V) (Q : VK) (E : XK), Room k (A.deeper (envOfC qual scope s.heap.objs.size f cdv)) → sp vs H Q E →
      ∃ t, PSs (cxOf CX P w K mg base N qual scope f cdv A outer s H E) body t ∧ t { nx := fun _ H' => Q .non H', rt := Q } (start N vs) H) :
    FnOk P w K mg base CX (k + 1) f (PySem.W.fnOf name qual params body scope dV kV doc pm an cdv ct) ps sp := by
  refine ⟨len, fun A outer s H args us vs Q E hr e0 hb r hsp => ?_⟩
  have hl := len _ _ _ _ hsp
  have KX : K.In s.heap := e0.mod.kin.keeps fun b o e => (e0.bs b o e).1
  have lim : s.heap.NoLimit := e0.mod.nolimit.keeps fun b o e => (e0.bs b o e).1
  have hkind : ∀ y ∈ ps.zip us, scope.names.lookup y.1 = some .local ∨ (scope.names.lookup y.1 = some .cell ∧ ((cellsFrom (s.heap.objs.size + 1) scope.names []).lookup y.1).isSome = true) := fun ⟨n, v⟩ hy => by
    rcases S.par n (List.of_mem_zip hy).1 with q | q
    · exact .inl q
    · exact .inr ⟨q, PySem.W.cellsFrom_some _ _ _ (.inl q)⟩
  refine codeAny_call_function hr.depth (KX _ _ lk) rfl S.co S.gen rfl (PySem.W.codeRec_of KX hcd) (hb _ _ _ _ ?_)
  refine wpAny_newFunctionEnv_cells S.kind hkind fun env he s1 x => ?_
  subst he
  refine ⟨lim.keeps x.toInCall.keep, codeAny_func ?_⟩
  obtain ⟨t, ht, hq⟩ := hbody A outer s H vs Q E (hr.deeper _) hsp
  have I : Inv (cxOf CX P w K mg base N qual scope f cdv A outer s H E) [] (start N vs) H s1 := inv_start S hr.hd e0 hl r x
  refine wpAny_mono (ht [] s1 (start N vs) H _ I hq) (fun fl s' hs => ?_) fun e s' hs => hs
  have fin : ∀ {σ' : St} {H' : Hp} {v : V} {u : Value}, Inv (cxOf CX P w K mg base N qual scope f cdv A outer s H E) [] σ' H' s' → RelV v u → Q v H' → CE outer P w H s Q u s' :=
    fun {σ' H' v u} J rv q => ⟨v, H', J.os, J.bare, J.base, J.hok, rv, q⟩
  cases fl with
  | ret u =>
    obtain ⟨v, σ', H', J, rv, q⟩ := hs
    exact fin J rv q
  | next =>
    obtain ⟨σ', H', J, q⟩ := hs
    exact fin (v := V.non) (u := Value.none) J rfl q
  | brk =>
    obtain ⟨_, _, _, q⟩ := hs
    exact False.elim q
  | cont =>
    obtain ⟨_, _, _, q⟩ := hs
    exact False.elim q
end L2
namespace L2
open PySem PySem.Spec PyProof.Rows
section
variable {X : Cx} {x : Str} {p pos : Pos} {e : Expr} {es : List Expr} {t : TA} {id T : String} {r : List V → Hp → VK → Prop}
def tCB (r : List V → Hp → VK → Prop) (t : TA) : TE := fun σ H Q => t σ H fun vs H1 => r vs H1 Q
theorem pe_callB (hc : CallR X (.builtin id) r) (hg : Gl X x) (hm : X.mg x = none) (hv : bootBuiltins x = some (.builtin id)) (ha : PA X (e :: es) t) (hn : x ≠ "__name__" := by decide) (hdb : (x == ("__debug__" : Str)) = false := by decide)
    (he : starEach (e :: es) X.env = (false, eval e X.env) :: starEach es X.env := by rfl) (hpl : (backTo pos (starEach es X.env)).any (·.1) = false := by rfl) : PE X (.Call (.Name x p) (e :: es) [] pos) (tCB r t) := by
  intro pins s σ H Q I h
  refine wpAny_Call_Name_kw (ld_blt I hg hm hv ?_ hn hdb)
  exact PyProof.Rows.callWith_builtin1 (thn (ha pos pins s σ H _ I h) fun us s1 ⟨vs, H1, I1, r1, q1⟩ => hc pins s1 σ H1 vs us Q I1 r1 q1) he hpl
theorem pe_callTy (hc : CallR X (.type T) r) (hg : Gl X x) (hm : X.mg x = none) (hv : bootBuiltins x = some (.type T)) (ha : PA X (e :: es) t) (hn : x ≠ "__name__" := by decide) (hdb : (x == ("__debug__" : Str)) = false := by decide)
    (he : starEach (e :: es) X.env = (false, eval e X.env) :: starEach es X.env := by rfl) (hpl : (backTo pos (starEach es X.env)).any (·.1) = false := by rfl) : PE X (.Call (.Name x p) (e :: es) [] pos) (tCB r t) := by
  intro pins s σ H Q I h
  refine wpAny_Call_Name_kw (ld_blt I hg hm hv ?_ hn hdb)
  exact PyProof.Rows.callWith_type1 (thn (ha pos pins s σ H _ I h) fun us s1 ⟨vs, H1, I1, r1, q1⟩ => hc pins s1 σ H1 vs us Q I1 r1 q1) he hpl
end
end L2
namespace HT
open PySem PyProof.Rows
section
open PySem.SeqAt
open PySem.AutoSeq1 (wpAny_loadPart')
open PySem.MeetsSeq PySem.MeetsSeq2 PySem.MeetsSeq3
end
section
variable {prog : Program} {w : World} {A : Around} {E : Value → Shared → Prop} {s : Shared}
def sIx (n d : Nat) : Option Int → Nat
  | none => d
  | some v => if v < 0 then (v + (n : Int)).toNat else min v.toNat n
theorem sIx_nat (n d k : Nat) : sIx n d (some (k : Int)) = min k n := by
  show (if (k : Int) < 0 then ((k : Int) + (n : Int)).toNat else min (k : Int).toNat n) = min k n
  rw [if_neg (by lia), Int.toNat_natCast]
end
end HT
namespace L2
open PySem PySem.Spec PyProof.Rows
abbrev TO := St → Hp → (Option Int → Hp → Prop) → Prop
def PO (X : Cx) (e : Option Expr) (t : TO) : Prop :=
  ∀ (pins : List (Addr × Obj)) (s : Shared) (σ : St) (H : Hp) (Q : Option Int → Hp → Prop), Inv X pins σ H s → t σ H Q →
    wpAny (model X.prog X.w) X.A (evalPart e X.env) (fun u s' => ∃ o H', Inv X pins σ H' s' ∧ IsPart u o ∧ Q o H') X.xe s
inductive tPartI (Q : (Option Int → Hp → Prop)) (x : V) (H1 : Hp) : Prop
  | mk (i : _) (h1_ : x = .int i) (h2_ : Q (some i) H1) : tPartI Q x H1
def tPart (t : TE) : TO := fun σ H Q => t σ H fun x H1 => tPartI Q x H1
section
variable {X : Cx} {e : Expr} {te : TE} {lo hi : Option Expr} {tl th : TO} {pos p2 : Pos}
theorem po_some (h : PE X e te) : PO X (some e) (tPart te) := by
  intro pins s σ H Q I hw
  rw [evalPart_some]
  refine thn (h pins s σ H _ I hw) fun u s1 ⟨x, H1, I1, r1, q1⟩ => ?_
  obtain ⟨i, rfl, q⟩ := q1
  obtain ⟨t, rfl⟩ := r1
  exact ⟨some i, H1, I1, .int i t, q⟩
def SlR (X : Cx) (r : V → Option Int → Option Int → Hp → VK → Prop) : Prop :=
  ∀ (pins : List (Addr × Obj)) (s : Shared) (σ : St) (H : Hp) (x : V) (v vl vu : Value) (lo hi : Option Int) (sl : Addr) (Q : VK), Inv X pins σ H s → RelV x v → s.heap.IsSliceOf sl vl vu .none → IsPart vl lo → IsPart vu hi → r x lo hi H Q →
    ∃ T id, typeLookup (.type T) "__getitem__" = pure (some (.builtin id)) ∧ s.TypeIs v T ∧ wpAny (model X.prog X.w) X.A (getItem v (.ref sl)) (EP X pins σ Q) X.xe s
def tSl (r : V → Option Int → Option Int → Hp → VK → Prop) (te : TE) (tl th : TO) : TE := fun σ H Q => te σ H fun x H1 => tl σ H1 fun l H2 => th σ H2 fun u H3 => r x l u H3 Q
theorem pe_slice {r : V → Option Int → Option Int → Hp → VK → Prop} (hr : SlR X r) (he : PE X e te) (hl : PO X lo tl) (hu : PO X hi th) : PE X (.Subscript e (.Slice lo hi none p2) pos) (tSl r te tl th) := by
  intro pins s σ H Q I h
  refine Subscript_ (thn (he pins s σ H _ I h) fun v s1 ⟨x, H1, I1, r1, q1⟩ => ?_)
  refine wpAny_Slice (thn (hl pins s1 σ H1 _ I1 q1) fun vl s2 ⟨l, H2, I2, pl, q2⟩ => thn (hu pins s2 σ H2 _ I2 q2) fun vu s3 ⟨u, H3, I3, pu, q3⟩ => ?_)
  rw [evalPart_none]
  refine wpAny_pure ?_
  have I4 : Inv X pins σ H3 { s3 with heap := s3.heap.push { cls := .type "slice", data := .fields #[vl, vu, .none] } } := I3.kept (t' := s3.toks) fun b ob q => Heap.get?_push_of_some _ q
  obtain ⟨T, id, hT, ht, hg⟩ := hr pins { s3 with heap := s3.heap.push { cls := .type "slice", data := .fields #[vl, vu, .none] } } σ H3 x v vl vu l u s3.heap.objs.size Q I4 r1 (Heap.IsSliceOf.new ..) pl pu q3
  show wpAny (model X.prog X.w) X.A (subscriptTail e (.Slice lo hi none p2) v (.ref s3.heap.objs.size)) (EP X pins σ Q) X.xe { s3 with heap := s3.heap.push { cls := .type "slice", data := .fields #[vl, vu, .none] } }
  exact tail_any (ops := [.ref s3.heap.objs.size, v]) ht hT hg (by with_unfolding_all rfl)
def cutV (xs : List V) (lo hi : Option Int) : List V := (xs.drop (HT.sIx xs.length 0 lo)).take (HT.sIx xs.length xs.length hi - HT.sIx xs.length 0 lo)
theorem cutV_length (xs : List V) (lo hi : Option Int) : (cutV xs lo hi).length ≤ xs.length := by
  unfold cutV
  rw [List.length_take, List.length_drop]
  lia
end
end L2
namespace L2
open PySem PySem.Spec PyProof.Rows
def ixN (n : Nat) (i : Int) : Option Nat := if 0 ≤ i then (if i < n then some i.toNat else none) else if -(n : Int) ≤ i then some (i + n).toNat else none
def atI {α : Type} (xs : List α) (i : Int) : Option α := (ixN xs.length i).bind fun j => xs[j]?
theorem ixN_seq {n : Nat} {i : Int} {j : Nat} (h : ixN n i = some j) : seqIndex? i n = some j ∧ j < n ∧ -(n : Int) ≤ i ∧ i < n := by
  unfold ixN at h
  by_cases h0 : 0 ≤ i
  · rw [if_pos h0] at h
    by_cases h1 : i < n
    · rw [if_pos h1] at h
      have e : i.toNat = j := Option.some.inj h
      exact ⟨by rw [seqIndex_of h0 h1, e], by lia, by lia, h1⟩
    · rw [if_neg h1] at h; cases h
  · rw [if_neg h0] at h
    by_cases h1 : -(n : Int) ≤ i
    · rw [if_pos h1] at h
      have e : (i + n).toNat = j := Option.some.inj h
      exact ⟨by rw [seqIndex_neg (by lia) h1, e], by lia, h1, by lia⟩
    · rw [if_neg h1] at h; cases h
theorem atI_get {α : Type} {xs : List α} {i : Int} {v : α} (h : atI xs i = some v) : ∃ j, seqIndex? i xs.length = some j ∧ xs[j]? = some v ∧ j < xs.length ∧ -(xs.length : Int) ≤ i ∧ i < xs.length := by
  unfold atI at h
  cases e : ixN xs.length i with
  | none => rw [e] at h; cases h
  | some j =>
    rw [e] at h
    obtain ⟨h1, h2, h3, h4⟩ := ixN_seq e
    exact ⟨j, h1, h, h2, h3, h4⟩
theorem atI_nat {α : Type} {xs : List α} {j : Nat} {v : α} (h : xs[j]? = some v) : atI xs (j : Int) = some v := by
  have hj : j < xs.length := (List.getElem?_eq_some_iff.mp h).1
  have e : ixN xs.length (j : Int) = some j := by
    unfold ixN
    rw [if_pos (by lia), if_pos (by lia)]; simp
  unfold atI; rw [e]; exact h
theorem atI_last {α : Type} (xs : List α) (v : α) : atI (xs ++ [v]) (-1) = some v := by
  have hl : (xs ++ [v]).length = xs.length + 1 := by simp
  have e : ixN (xs ++ [v]).length (-1) = some xs.length := by
    unfold ixN
    rw [hl, if_neg (by decide), if_pos (by lia)]
    congr 1
    lia
  unfold atI
  rw [e]
  show (xs ++ [v])[xs.length]? = some v
  simp
def PlainIx (b : Expr) : Prop := ∀ o i, subscripted b false o i = operate [o, i] (getItem o i)
def IxR (X : Cx) (r : R2) : Prop :=
  ∀ (value slice : Expr) (pins : List (Addr × Obj)) (s : Shared) (σ : St) (H : Hp) (x y : V) (v u : Value) (Q : VK), Inv X pins σ H s → RelV x v → RelV y u → r x y H Q →
    subscripted slice false v u = operate [v, u] (getItem v u) → wpAny (model X.prog X.w) X.A (subscriptTail value slice v u) (EP X pins σ Q) X.xe s
def MtR (X : Cx) (id : String) (r : V → List V → Hp → VK → Prop) : Prop :=
  ∀ (pins : List (Addr × Obj)) (s : Shared) (σ : St) (H : Hp) (x : V) (xs : List V) (v : Value) (us : List Value) (Q : VK), Inv X pins σ H s → RelV x v → Vals xs us → r x xs H Q →
    wpAny (model X.prog X.w) X.A (call (.builtin id) (v :: us)) (EP X pins σ Q) X.xe s
section
variable {X : Cx} {a b : Expr} {ta tb : TE} {pos : Pos}
theorem pe_ix {r : R2} (hr : IxR X r) (ha : PE X a ta) (hb : PE X b tb) (hs : PlainIx b) : PE X (.Subscript a b pos) (tOp r ta tb) := by
  intro pins s σ H Q I h
  exact Subscript_ (binT ha hb I h fun v u s2 x y H2 I2 rx ry q => hr a b pins s2 σ H2 x y v u Q I2 rx ry q (hs _ _))
inductive rIxL (K : PySem.W.Frag) (x : V) (y : V) (H : Hp) (Q : VK) : Prop
  | mk (p : _) (xs : _) (i : _) (v : _) (h1_ : x = .ref p) (h2_ : y = .int i) (h3_ : SqL K H p xs) (h4_ : atI xs i = some v) (h5_ : Q v H) : rIxL K x y H Q
inductive rIxT (K : PySem.W.Frag) (x : V) (y : V) (H : Hp) (Q : VK) : Prop
  | mk (p : _) (xs : _) (i : _) (v : _) (h1_ : x = .ref p) (h2_ : y = .int i) (h3_ : SqT K H p xs) (h4_ : atI xs i = some v) (h5_ : Q v H) : rIxT K x y H Q
inductive rIxS (x : V) (y : V) (H : Hp) (Q : VK) : Prop
  | mk (z : _) (i : _) (c : _) (h1_ : x = .str z) (h2_ : y = .int i) (h3_ : z.length ≤ sizeLine) (h4_ : atI z.cps.toList i = some c) (h5_ : Q (.str ⟨#[c]⟩) H) : rIxS x y H Q
theorem ix_list : IxR X (rIxL X.K) := by
  intro value slice pins s σ H x y v u Q I rx ry h hs
  obtain ⟨p, xs, i, z, rfl, rfl, hq, he, q⟩ := h
  cases rx
  obtain ⟨t, rfl⟩ := ry
  obtain ⟨its, r, pl, hz⟩ := I.list hq
  obtain ⟨j, h1, h2, h3, h4, h5⟩ := atI_get he
  obtain ⟨w, ew, rw'⟩ := r.get h2
  have hl := r.length
  have hn := line63
  have fin : EP X pins σ Q w s := ⟨z, H, I, rw', q⟩
  by_cases h0 : 0 ≤ i
  · have hj : i.toNat = j := by
      rw [seqIndex_of h0 h5] at h1
      exact Option.some.inj h1
    exact item_listR pl.isList h0 (by lia) (by rw [hj]; simpa using ew) fin hs
  · have hj : (i + (its.toArray.size : Int)).toNat = j := by
      rw [seqIndex_neg (by lia) h4] at h1
      rw [List.size_toArray, ← hl]
      exact Option.some.inj h1
    exact subscriptTail_builtinR (x := w) pl.isList.typeIs slot_list_getitem.lookup
      (wpAny_getItem_list_neg (Q := fun r s' => r = w ∧ EP X pins σ Q r s') pl.isList (by lia) (by rw [List.size_toArray] <;> lia) (by lia) (by rw [hj]; simpa using ew) ⟨rfl, fin⟩) hs
theorem ix_tup : IxR X (rIxT X.K) := by
  intro value slice pins s σ H x y v u Q I rx ry h hs
  obtain ⟨p, xs, i, z, rfl, rfl, hq, he, q⟩ := h
  cases rx
  obtain ⟨t, rfl⟩ := ry
  obtain ⟨its, r, pl, hz⟩ := I.tuple hq
  obtain ⟨j, h1, h2, h3, h4, h5⟩ := atI_get he
  obtain ⟨w, ew, rw'⟩ := r.get h2
  have hl := r.length
  have hn := line63
  have fin : EP X pins σ Q w s := ⟨z, H, I, rw', q⟩
  exact subscriptTail_builtinR (x := w) pl.typeIs slot_tuple_getitem.lookup
    (getItem_tuple (j := j) (Q := fun r s' => r = w ∧ EP X pins σ Q r s') pl (by lia) (by lia) (by rw [List.size_toArray, ← hl]; exact h1) (by simpa using ew) ⟨rfl, fin⟩) hs
theorem ix_str : IxR X rIxS := by
  intro value slice pins s σ H x y v u Q I rx ry h hs
  obtain ⟨z, i, c, rfl, rfl, hz, he, q⟩ := h
  obtain ⟨t, rfl⟩ := rx
  obtain ⟨t', rfl⟩ := ry
  obtain ⟨j, h1, h2, h3, h4, h5⟩ := atI_get he
  have hl : z.cps.toList.length = z.length := by simp [Str.length]
  rw [hl] at h1 h4 h5
  have hn := line63
  exact tail_any (typeIs_str s z t) slot_str_getitem.lookup (getItem_str (c := c) (by
    have e1 : decide (i < -(2 ^ 63 : Int)) = false := decide_eq_false (by lia)
    have e2 : decide (i ≥ 2 ^ 63) = false := decide_eq_false (by lia)
    rw [e1, e2, Bool.or_false]) (by rw [h1]; simpa using h2) ⟨.str ⟨#[c]⟩, H, I.tok _, ⟨_, rfl⟩, q⟩) hs
theorem Inv.lst {pins : List (Addr × Obj)} {σ : St} {H : Hp} {s : Shared} {p : Addr} {xs : List V} (I : Inv X pins σ H s) (h : H p = some (.lst xs)) :
    ∃ (its : List Value) (n : Nat), Vals xs its ∧ s.heap.get? p = some { cls := .type "list", data := .seq its.toArray n } ∧ xs.length ≤ sizeLine := by
  obtain ⟨z, its, n, r, e⟩ := I.hok p _ h
  exact ⟨its, n, r, e, z⟩
theorem slice_bounds (lo hi : Option Int) (n : Nat) : (sliceBounds lo hi none n).1 = ((HT.sIx n 0 lo : Nat) : Int) ∧ (sliceBounds lo hi none n).2.1 = ((HT.sIx n n hi : Nat) : Int) ∧ (sliceBounds lo hi none n).2.2 = 1 := by
  refine ⟨?_, ?_, rfl⟩
  · cases lo with
    | none => simp [sliceBounds, HT.sIx]
    | some i =>
      simp only [sliceBounds, HT.sIx, Option.getD_none, show (1 : Int) > 0 by decide, if_true]
      by_cases h : i < 0
      · simp only [h, if_true] <;> lia
      · simp only [h, if_false] <;> lia
  · cases hi with
    | none => simp [sliceBounds, HT.sIx]
    | some i =>
      simp only [sliceBounds, HT.sIx, Option.getD_none, show (1 : Int) > 0 by decide, if_true]
      by_cases h : i < 0
      · simp only [h, if_true] <;> lia
      · simp only [h, if_false] <;> lia
theorem slicePick_cut (its : List Value) (lo hi : Option Int) : slicePick its.toArray lo hi none = ((its.drop (HT.sIx its.length 0 lo)).take (HT.sIx its.length its.length hi - HT.sIx its.length 0 lo)).toArray := by
  obtain ⟨h1, h2, h3⟩ := slice_bounds lo hi its.toArray.size
  unfold slicePick
  rw [h1, h2, h3]
  simp only [sliceRange_one, pick_run, List.size_toArray] <;> rfl
inductive rSlL (K : PySem.W.Frag) (x : V) (lo : Option Int) (hi : Option Int) (H : Hp) (Q : VK) : Prop
  | mk (a : _) (xs : _) (h1_ : x = .ref a) (h2_ : SqL K H a xs) (h3_ : ∀ p, H p = none → Q (.ref p) (upd H p (.lst (cutV xs lo hi)))) : rSlL K x lo hi H Q
theorem sl_list : SlR X (rSlL X.K) := by
  intro pins s σ H x v vl vu lo hi sl Q I rx hs pl pu h
  obtain ⟨a, xs, rfl, hx, q⟩ := h
  cases rx
  obtain ⟨its, r, ht, hz⟩ := I.list hx
  have hlen := r.length
  refine ⟨"list", _, slot_list_getitem.lookup, ht.isList.typeIs, ?_⟩
  refine wpAny_getItem_list_slice ht.isList hs pl pu .none (by simp) ?_ (by rw [List.size_toArray] <;> exact Nat.le_trans (θs hlen) hz)
  rw [slicePick_cut, ← hlen]
  refine ⟨.ref s.heap.objs.size, _, I.laid (t' := s.toks) (o := .lst (cutV xs lo hi)) (fun b ob q => Heap.get?_push_of_some _ q) (Nat.le_refl _) ?_, rfl, q _ (I.hok.fresh (Nat.le_refl _))⟩
  exact ⟨Nat.le_trans (cutV_length xs lo hi) hz, _, 0, (r.drop (HT.sIx xs.length 0 lo)).take (HT.sIx xs.length xs.length hi - HT.sIx xs.length 0 lo), Heap.get?_push_size _ rfl⟩
inductive rLenQ (K : PySem.W.Frag) (xs : List V) (H : Hp) (Q : VK) : Prop
  | mk (p : Addr) (ys : List V) (h1_ : xs = [.ref p]) (h2_ : SqL K H p ys ∨ SqT K H p ys) (h3_ : Q (.int ys.length) H) : rLenQ K xs H Q
theorem call_len_seq : CallR X (.builtin "len") (rLenQ X.K) := by
  intro pins s σ H xs us Q I r h
  obtain ⟨p, ys, rfl, hq, q⟩ := h
  obtain ⟨u, rfl, rx⟩ := vals1 r
  cases rx
  have hn := line63
  rcases hq with hq | hq
  · obtain ⟨its, r', pl, hz⟩ := I.list hq
    have hlen := r'.length
    exact Calls.call_len_list pl.isList (by simp only [List.size_toArray] <;> lia) ⟨.int ys.length, H, I.tok _, ⟨s.toks + 1, by rw [List.size_toArray, hlen]⟩, q⟩
  · obtain ⟨its, r', pl, hz⟩ := I.tuple hq
    have hlen := r'.length
    exact len_tuple pl (by simp only [List.size_toArray] <;> lia) ⟨.int ys.length, H, I.tok _, ⟨s.toks + 1, by rw [List.size_toArray, hlen]⟩, q⟩
theorem call_len_str : CallR X (.builtin "len") (fun xs H Q => ∃ z, xs = [.str z] ∧ z.length ≤ sizeLine ∧ Q (.int z.length) H) := by
  intro pins s σ H xs us Q I r h
  obtain ⟨z, rfl, hz, q⟩ := h
  obtain ⟨u, rfl, t, rfl⟩ := vals1 r
  have hn := line63
  exact len_str (by lia) ⟨.int z.length, H, I.tok _, ⟨_, rfl⟩, q⟩
inductive rListO (K : PySem.W.Frag) (xs : List V) (H : Hp) (Q : VK) : Prop
  | mk (p : Addr) (ys : List V) (h1_ : xs = [.ref p]) (h2_ : SqL K H p ys ∨ SqT K H p ys) (h3_ : ∀ l, H l = none → Q (.ref l) (upd H l (.lst ys))) : rListO K xs H Q
theorem call_list_of : CallR X (.type "list") (rListO X.K) := by
  intro pins s σ H xs us Q I r h
  obtain ⟨p, ys, rfl, hq, q⟩ := h
  obtain ⟨u, rfl, rx⟩ := vals1 r
  cases rx
  have fin : ∀ (its : List Value), Vals ys its → ys.length ≤ sizeLine → ∀ (h' : Heap) (c' : Nat), (∀ b o', s.heap.get? b = some o' → h'.get? b = some o') →
      h'.get? s.heap.objs.size = some { cls := .type "list", dict := none, data := .seq its.toArray c', slots := #[] } → EP X pins σ Q (.ref s.heap.objs.size) { s with heap := h' } := fun its r' hz h' c' kp e =>
    ⟨.ref s.heap.objs.size, _, I.laid (t' := s.toks) kp (Nat.le_refl _) (show ObjOk X.prog X.w _ h' _ (.lst ys) from ⟨hz, its, c', r', e⟩), rfl, q _ (I.hok.fresh (Nat.le_refl _))⟩
  rcases hq with hq | hq
  · obtain ⟨its, r', pl, hz⟩ := I.list hq
    have hlen := r'.length
    obtain ⟨o, ho, hc, n, hd⟩ := pl.isList
    exact call_list_seq p (.inl rfl) ho hc hd (fun h' c' kp e => fin its r' hz h' c' kp e) (by simp only [List.size_toArray] <;> exact Nat.le_trans (θs hlen) hz)
  · obtain ⟨its, r', pl, hz⟩ := I.tuple hq
    have hlen := r'.length
    obtain ⟨o, ho, hc, n, hd⟩ := pl
    exact call_list_seq p (.inr rfl) ho hc hd (fun h' c' kp e => fin its r' hz h' c' kp e) (by simp only [List.size_toArray] <;> exact Nat.le_trans (θs hlen) hz)
def tyV (K : PySem.W.Frag) (T : String) (x : V) (H : Hp) : Prop := match x with
  | .str _ => T = "str"
  | .int _ => T = "int"
  | .ref p => (T = "list" ∧ ∃ xs, SqL K H p xs) ∨ (T = "tuple" ∧ ∃ o, K.lookup p = some o ∧ o.cls = .type "tuple" ∧ o.dict = none) ∨
      (T = "dict" ∧ ((∃ kvs, H p = some (.dK kvs)) ∨ ∃ kvs, H p = some (.dT kvs))) ∨ (T = "set" ∧ ∃ S n, H p = some (.set S n))
  | _ => False
theorem tyV_is {pins : List (Addr × Obj)} {σ : St} {H : Hp} {s : Shared} {T : String} {x : V} {v : Value} (I : Inv X pins σ H s) (r : RelV x v) (ty : tyV X.K T x H) :
    s.TypeIs v T ∧ ∀ a, v = .ref a → ∃ ob, s.heap.get? a = some ob ∧ ob.dict = none := by
  cases x with
  | str z =>
    obtain ⟨t, rfl⟩ := r
    cases (show T = "str" from ty)
    exact ⟨typeIs_str s z t, fun _ e => nomatch e⟩
  | int i =>
    obtain ⟨t, rfl⟩ := r
    cases (show T = "int" from ty)
    exact ⟨typeIs_int s i t, fun _ e => nomatch e⟩
  | ref p =>
    cases r
    rcases ty with ⟨rfl, xs, hq⟩ | ⟨rfl, o, hk, hc, hd⟩ | ⟨rfl, hk⟩ | ⟨rfl, S, n, hk⟩
    · obtain ⟨its, _, pl, _⟩ := I.list hq
      refine ⟨pl.isList.typeIs, fun a e => ?_⟩
      cases e
      obtain ⟨o, n, e, c, hd, _⟩ := pl
      exact ⟨o, e, hd⟩
    · refine ⟨⟨o, I.kIn p o hk, hc⟩, fun a e => ?_⟩
      cases e
      exact ⟨o, I.kIn _ o hk, hd⟩
    · have z : ∃ o, s.heap.get? p = some o ∧ o.ExactDict := by
        rcases hk with ⟨kvs, hk⟩ | ⟨kvs, hk⟩
        · obtain ⟨_, _, _, _, o, _, _, e, ex, _⟩ := I.hok p _ hk
          exact ⟨o, e, ex⟩
        · obtain ⟨_, _, _, _, o, _, _, e, ex, _⟩ := I.hok p _ hk
          exact ⟨o, e, ex⟩
      obtain ⟨o, e, ex⟩ := z
      refine ⟨⟨o, e, ex.1⟩, fun a e2 => ?_⟩
      cases e2
      exact ⟨o, e, ex.2.1⟩
    · obtain ⟨o, _, _, _, e, ex, _⟩ := I.hok p _ hk
      refine ⟨⟨o, e, ex.1⟩, fun a e2 => ?_⟩
      cases e2
      exact ⟨o, e, ex.2.1⟩
  | _ => exact False.elim ty
def tBM (K : PySem.W.Frag) (T : String) (r : V → List V → Hp → VK → Prop) (to : TE) (t : TA) : TE := fun σ H Q => to σ H fun x H1 => tyV K T x H1 ∧ t σ H1 fun xs H2 => r x xs H2 Q
variable {o e : Expr} {es : List Expr} {to : TE} {t : TA} {name : Str} {apos cpos : Pos} {T id : String} {r : V → List V → Hp → VK → Prop}
theorem pe_bm (pa : PlainAttrs T) (slot : Slot T name id) (hty : typeOf (.builtin id) = pure (.type "method_descriptor")) (hm : MtR X id r) (ho : PE X o to) (ha : PA X (e :: es) t)
    (hbase : attributeBase o name X.env (eval o X.env) = eval o X.env := by rfl)
    (hfew : ((backTo cpos (starEach (e :: es) X.env)).all (fun x => !x.1) && (backToKw cpos (keywordEach [] X.env)).all (fun x => x.1.isSome)
      && decide ((e :: es).length + ([] : List Keyword).length + (if ([] : List Keyword).isEmpty then 0 else 1) < 30)) = true := by rfl)
    (hline : (apos.endLine == cpos.line) = true := by rfl) (hs : starEach (e :: es) X.env = (false, eval e X.env) :: starEach es X.env := by rfl) (hplain : (backTo cpos (starEach es X.env)).any (·.1) = false := by rfl) :
    PE X (.Call (.Attribute o name apos) (e :: es) [] cpos) (tBM X.K T r to t) := by
  intro pins s σ H Q I h
  refine wpAny_Call_method_late hbase hfew hline rfl (thn (ho pins s σ H _ I h) fun v s1 ⟨x, H1, I1, r1, ty, q1⟩ => ?_)
  obtain ⟨h1, h2⟩ := tyV_is I1 r1 ty
  refine ⟨T, id, pa, slot, hty, h1, h2, ?_⟩
  have hA := ha cpos pins s1 σ H1 _ I1 q1
  rw [hs] at hA ⊢
  refine Calls.callWith_builtin (by show (false || (backTo cpos (starEach es X.env)).any (·.1)) = false; rw [hplain] <;> rfl) (Calls.evalArgs_plain ?_)
  exact thn hA fun us s2 ⟨vs, H2, I2, r2, q2⟩ => hm pins s2 σ H2 x vs v us Q I2 r1 r2 q2
end
end L2
namespace L2
open PySem PySem.Spec PyProof.Rows
def MtM (X : Cx) (id : String) (r : V → List V → Hp → VK → Prop) : Prop :=
  ∀ (pins : List (Addr × Obj)) (s : Shared) (σ : St) (H : Hp) (x : V) (xs : List V) (v : Value) (us : List Value) (Q : VK), Inv X pins σ H s → RelV x v → Vals xs us → r x xs H Q →
    wpAny (model X.prog X.w) X.A (call (.builtin id) (v :: us)) (EP X pins σ Q) X.xe s
theorem Vals.uncons {x : V} {xs : List V} {us : List Value} (h : Vals (x :: xs) us) : ∃ u us', us = u :: us' ∧ RelV x u ∧ Vals xs us' := by
  cases h with
  | cons r t => exact ⟨_, _, rfl, r, t⟩
theorem Vals.none {us : List Value} (h : Vals [] us) : us = [] := by
  cases h with
  | nil => rfl
theorem Vals.one {x : V} {us : List Value} (h : Vals [x] us) : ∃ u, us = [u] ∧ RelV x u := by
  obtain ⟨u, us', rfl, r, t⟩ := h.uncons
  cases t.none
  exact ⟨u, rfl, r⟩
theorem Vals.two {x y : V} {us : List Value} (h : Vals [x, y] us) : ∃ u v, us = [u, v] ∧ RelV x u ∧ RelV y v := by
  obtain ⟨u, us', rfl, r, t⟩ := h.uncons
  obtain ⟨v, rfl, q⟩ := t.one
  exact ⟨u, v, rfl, r, q⟩
theorem Vals.zero : ∀ {us : List Value}, Vals [] us → us = []
  | _, .nil => rfl
theorem Vals.eraseIdx : ∀ {xs : List V} {us : List Value} (i : Nat), Vals xs us → Vals (xs.eraseIdx i) (us.eraseIdx i)
  | _, _, _, .nil => .nil
  | _, _, 0, .cons _ t => t
  | _, _, i + 1, .cons r t => .cons r (Vals.eraseIdx i t)
theorem Vals.reverse {xs : List V} {us : List Value} (h : Vals xs us) : Vals xs.reverse us.reverse := by
  induction h with
  | nil => exact .nil
  | cons r t ih => rw [List.reverse_cons, List.reverse_cons]; exact Vals.append ih (.cons r .nil)
section
variable {X : Cx} {pins : List (Addr × Obj)} {σ : St} {H : Hp} {s : Shared} {l b : Addr} {xs ys zs : List V}
theorem Inv.lset {its its' : List Value} {n : Nat} {f : Array Value → Array Value} {t' : Nat} (I : Inv X pins σ H s) (hH : H l = some (.lst xs))
    (e : s.heap.get? l = some { cls := .type "list", data := .seq its.toArray n }) (hf : f its.toArray = its'.toArray) (hv : Vals ys its') (hz : ys.length ≤ sizeLine) :
    Inv X pins σ (upd H l (.lst ys)) { s with heap := s.heap.update l (Obj.mapSeq f), toks := t' } := by
  have q := PySem.IsL.update e f
  rw [hf] at q
  refine I.write (x := l) (e := l) (by rw [hH]; exact trivial) (.inl rfl) (fun b' u hb hu => (Heap.get?_update_other s.heap (Obj.mapSeq f) (Ne.symm hb)).trans hu) ⟨_, q⟩ ?_
  exact ⟨hz, its', _, hv, q⟩
theorem Inv.lnew {its : List Value} {t' : Nat} (I : Inv X pins σ H s) (hv : Vals ys its) (hz : ys.length ≤ sizeLine) :
    Inv X pins σ (upd H s.heap.objs.size (.lst ys)) { s with heap := s.heap.push { cls := .type "list", data := .seq its.toArray }, toks := t' } :=
  I.laid (fun _ _ q => Heap.get?_push_of_some _ q) (Nat.le_refl _) ⟨hz, its, 0, hv, Heap.get?_push_size _ rfl⟩
theorem Inv.fresh (I : Inv X pins σ H s) : H s.heap.objs.size = none := I.hok.fresh (Nat.le_refl _)
theorem Inv.lstM (I : Inv X pins σ H s) (hH : H l = some (.lst xs)) : xs.length ≤ sizeLine ∧ ∃ (its : List Value) (n : Nat), Vals xs its ∧ xs.length = its.length ∧ s.heap.get? l = some { cls := .type "list", data := .seq its.toArray n } := by
  obtain ⟨z, its, n, r, e⟩ := I.hok l _ hH
  exact ⟨z, its, n, r, r.length, e⟩
theorem notLongL {n : Nat} (h : n ≤ sizeLine) : Builtin.List.listTooLong n = false := by
  unfold Builtin.List.listTooLong
  exact decide_eq_false (by exact Nat.not_lt_of_le (h))
end
section
variable {X : Cx}
inductive rAppend (x : V) (vs : List V) (H : Hp) (Q : VK) : Prop
  | mk (l : _) (xs : _) (y : _) (h1_ : x = .ref l) (h2_ : vs = [y]) (h3_ : H l = some (.lst xs)) (h4_ : xs.length < sizeLine) (h5_ : Q .non (upd H l (.lst (xs ++ [y])))) : rAppend x vs H Q
theorem mt_append : MtM X "list.append" rAppend := by
  intro pins s σ H x vs v us Q I rx rv h
  obtain ⟨l, xs, y, rfl, rfl, hH, hz, q⟩ := h
  cases rx
  obtain ⟨u, rfl, ru⟩ := rv.one
  obtain ⟨z, its, n, r, hl, e⟩ := I.lstM hH
  refine call_meets F.slot_list_append ⟨_, e, rfl⟩ F.entry_list_append (F.args_list_append_2 _ _) (PySem.list_append l its.toArray n u (by rw [List.size_toArray]; exact Nat.le_trans (θs hl) z)) ⟨e, ?_⟩
  refine ⟨.non, _, I.lset (its' := its ++ [u]) hH e (by simp) (r.append (.cons ru .nil)) ?_, rfl, q⟩
  rw [List.length_append, List.length_singleton]
  exact hz
inductive rExtend (x : V) (vs : List V) (H : Hp) (Q : VK) : Prop
  | mk (l : _) (b : _) (xs : _) (zs : _) (h1_ : x = .ref l) (h2_ : vs = [.ref b]) (h3_ : H l = some (.lst xs)) (h4_ : H b = some (.lst zs)) (h5_ : xs.length + zs.length ≤ sizeLine) (h6_ : Q .non (upd H l (.lst (xs ++ zs)))) : rExtend x vs H Q
theorem mt_extend : MtM X "list.extend" rExtend := by
  intro pins s σ H x vs v us Q I rx rv h
  obtain ⟨l, b, xs, zs, rfl, rfl, hH, hB, hz, q⟩ := h
  cases rx
  obtain ⟨u, rfl, ru⟩ := rv.one
  cases ru
  obtain ⟨z, its, n, r, hl, e⟩ := I.lstM hH
  obtain ⟨z2, its2, n2, r2, hl2, e2⟩ := I.lstM hB
  have hsz : its.toArray.size + its2.toArray.size ≤ sizeLine := by rw [List.size_toArray, List.size_toArray]; exact θo [_,_,_,_,_] (θ0+θ1) θ2 (θ0+(θ1+(θ3+θ4))) (θ3+(θ4+θ2)) rfl (θa (θs hl) (θa (θs hl2) hz))
  have hlong : ¬ (!its.toArray.isEmpty && Builtin.List.listTooLong (its.toArray.size + its2.toArray.size)) = true := by
    rw [notLongL hsz, Bool.and_false]
    exact Bool.false_ne_true
  refine call_meets F.slot_list_extend ⟨_, e, rfl⟩ F.entry_list_extend (F.args_list_extend_2 _ _)
    (AutoSeq1.list_extend_list_list_0 l its.toArray n b its2.toArray n2 hlong (by rw [List.size_toArray]; exact Nat.le_trans (θs hl) z) (by exact Nat.le_succ_of_le hsz)) ⟨e, e2, ?_⟩
  refine ⟨.non, _, I.lset (its' := its ++ its2) hH e (by simp) (r.append r2) ?_, rfl, q⟩
  rw [List.length_append]
  omega
end
section
variable {prog : Program} {w : World} {A : Around} {E : Value → Shared → Prop} {s : Shared}
end
section
variable {X : Cx}
end
end L2
namespace Att
open PySem PySem.W PySem.Calls PyProof.Rows
theorem ints_of_wellAll {P : Params} {h : Heap} : ∀ (ns : List Int) (vs : List Value), WellAll P h vs (ns.map WData.int) → IntsAre vs ns := by
  intro ns
  induction ns with
  | nil =>
    intro vs w
    rw [List.map_nil] at w
    cases w
    exact .nil
  | cons n ns ih =>
    intro vs w
    rw [List.map_cons] at w
    cases w with
    | cons a b =>
      cases a
      exact .cons _ _ (ih _ b)
theorem script_of {l : OpenLaw} {n : Nat} (hn : l.most = some n) {P : Params} {h : Heap} {args : List WData} {vals : List Value}
    (hpre : l.row.toRowW.claim.pre args = true) (hwl : WellAll P h vals args) :
    ∃ a vs ns, vals = [Value.ref a] ∧ args = [WData.list (ns.map WData.int)] ∧ h.get? a = some { cls := .type "list", data := .seq vs.toArray } ∧ IntsAre vs ns ∧ ns.length ≤ n := by
  have hsh : WShape.hasAll [] args [.list .int] = true := (pre_splitW hpre).1
  have hc : l.pre.holds [] { args := args } = true := (pre_splitW hpre).2
  obtain ⟨d, r, rfl, h1, h2⟩ := hasAllW_cons hsh
  obtain rfl := hasAllW_nil h2
  obtain ⟨xs, rfl, h3⟩ := hasW_list h1
  obtain ⟨ns, rfl⟩ := items_int h3
  have hlen : ns.length ≤ n := by
    unfold OpenLaw.pre at hc
    have h4 : (WTm.not (.lt (.lit (.int (n : Int))) (.len (.arg 0)))).holds [] { args := [.list (ns.map .int)] } = true := by
      have h4 := (holds_andW hc).1
      rw [hn] at h4
      exact h4
    have h5 := condW_of h4 (w_not (w_lt w_lit (w_len_list (w_arg rfl))))
    rw [List.length_map] at h5
    refine Nat.le_of_not_lt fun q => ?_
    have q' : (n : Int) < ((ns.length : Nat) : Int) := by omega
    first
      | (rw [decide_eq_true q'] at h5; exact absurd h5 (by decide))
      | (simp at h5; lia)
  cases hwl with
  | cons w1 w2 =>
    cases w2
    cases w1 with
    | list ho hall => exact ⟨_, _, ns, rfl, rfl, ho, ints_of_wellAll ns _ hall, hlen⟩
theorem post_true (l : OpenLaw) (args : List WData) : l.row.toRowW.claim.post args (.bool true) args = true :=
  postW_of (r := l.row.toRowW) (X := (true == true))
    (show WShape.has [] (.bool true) .bool = true by first | rfl | decide | simp [WShape.has, WShape.arms, WShape.armsAll])
    (show (WTm.eq .res (.lit (.bool true))).value [] { args := args, res := some (.bool true), after := args } = some (.bool (true == true)) from w_eq_bool (w_res rfl) w_lit) rfl
theorem attach_call {l : OpenLaw} {n : Nat} {q : Program} {loose : List Str} {XP : (Str → Option Value) → Heap → Prop} {YP : World → Heap → Prop} {d : DefRec}
    (hn : l.most = some n) (hdf : d.params.defaults = [])
    (call : ∀ (w : World) (s₀ s₁ : Shared) (mg mb : Str → Option Value) (fa : Addr) (o : Obj) (pm cd doc : Value) (a : Addr) (vs : List Value) (ns : List Int),
      Ground q loose [] XP w s₀ mg mb s₁.heap → YP w s₁.heap →
      s₁.heap.get? fa = some o → o.data = .func (docDef d.name d.params d.body d.scope pm cd doc) → s₁.heap.CodeRec cd d.name → mg d.name = some (.ref fa) →
      s₁.heap.get? a = some { cls := .type "list", data := .seq vs.toArray } → IntsAre vs ns → ns.length ≤ n → s₁.gens = #[] →
      codeAny (model l.prog w) callerA (.call (.ref fa) ⟨[.ref a], []⟩) (fun r s' => r = .ok (.ret (.bool true)) ∧ OldK s₁.heap s'.heap ∧ s'.os = s₁.os ∧ AllBare s'.gens) s₁) :
    WalkO q loose XP YP l.row.toRowW d [] (fun f vs => PySem.call f vs) := by
  intro w s₀ s₁ mg mb G Y fa o pm cd doc dV kV ho hd hcd hD hmg hg args vals as hpre hlay hrd hwl hlo
  obtain rfl : dV = .none := Dflts.none hD hdf
  obtain rfl : kV = .none := Dflts.noKw hD
  obtain ⟨a, vs, ns, rfl, rfl, hobj, hints, hlen⟩ := script_of hn hpre hwl
  refine enter_call (codeAny_mono (call w s₀ s₁ mg mb fa o pm cd doc a vs ns G Y ho (fd_plain hd) hcd hmg hobj hints hlen hg) fun r s' hq => ?_)
  obtain ⟨rfl, h2, h3, h4⟩ := hq
  exact ⟨.inl ⟨.bool true, .bool true, [], rfl, fun _ => rfl, .bool true, post_true l _, fun _ => ⟨List.Pairwise.nil, fun _ hm => (nomatch hm)⟩⟩, h2, h3, h4⟩
section
variable {prog : Program} {w : World} {A : Around} {E : Value → Shared → Prop} {s : Shared} {K : Frag}
end
end Att
namespace L2
open PySem PySem.Spec PyProof.Rows
theorem vals_ints : ∀ {vs : List Value} {ns : List Int}, IntsAre vs ns → Vals (ns.map V.int) vs
  | _, _, .nil => .nil
  | _, _, .cons n t h => .cons ⟨t, rfl⟩ (vals_ints h)
def Only (H : Hp) : Prop := ∀ b, H b = none ∨ ∃ o xs, H b = some (.frz o (.lst xs))
theorem law_call {P : Program} {w : World} {K : PySem.W.Frag} {mg mb : Str → Option Value} {CX : CXT} {k : Nat} {fa a : Addr} {fd : FuncData} {x : Str} {sp : Sp} {s₁ : Shared} {vs : List Value} {ns : List Int}
    (KX : K.In s₁.heap) (hns : s₁.heap.Ns mainGlobals mg) (hb : s₁.heap.Ns builtinsNs mb) (hbb : ∀ x : Str, x ≠ "__name__" → mb x = bootBuiltins x) (hlim : s₁.heap.NoLimit) (hg : s₁.gens = #[])
    (ha : s₁.heap.get? a = some { cls := .type "list", data := .seq vs.toArray }) (hi : IntsAre vs ns) (hl : ns.length ≤ sizeLine) (hr : Room k callerA)
    (F : ∀ base : Heap, K.In base → base.Ns mainGlobals mg → FnOk P w K mg base CX k fa fd [x] sp) (hbind : ∀ (s : Shared) (u : Value), BindsTo s fd ⟨[u], []⟩ [(x, u)])
    (hsp : ∀ H : Hp, Only H → SqL K H a (ns.map V.int) → sp [.ref a] H (fun v _ => v = .bl true) fun _ _ _ => False)
    (hCX : ∀ H e s', CX [] H s₁ (fun _ _ _ => False) e s' → False) :
    codeAny (model P w) callerA (.call (.ref fa) ⟨[.ref a], []⟩) (fun r s' => r = .ok (.ret (.bool true)) ∧ OldK s₁.heap s'.heap ∧ s'.os = s₁.os ∧ AllBare s'.gens) s₁ := by
  have rv := vals_ints hi
  have lenV := hi.length
  have core : ∀ H : Hp, Only H → SqL K H a (ns.map V.int) → HOk P w H s₁.heap → (∀ b, H b ≠ none → b = a) → (H a ≠ none → K.lookup a = none) →
      codeAny (model P w) callerA (.call (.ref fa) ⟨[.ref a], []⟩) (fun r s' => r = .ok (.ret (.bool true)) ∧ OldK s₁.heap s'.heap ∧ s'.os = s₁.os ∧ AllBare s'.gens) s₁ := by
    intro H hO hS hok hA hK
    have base_of : ∀ {b : Addr} {o : Obj}, s₁.heap.get? b = some o → H b = none → (hidT s₁.heap H).get? b = some o := fun e n => hidT_get e n
    have noA : ∀ {b : Addr} {o : Obj} {es : Array DictEntry} {ep : Nat}, s₁.heap.get? b = some o → o.data = .dict es ep → H b = none := fun {b o es ep} e d => by
      cases q : H b with
      | none => rfl
      | some u =>
        have e' : b = a := hA b (by rw [q]; simp)
        subst e'
        rw [ha] at e; cases e
        have d' : Data.seq vs.toArray _ = Data.dict es ep := d
        cases d'
    have nsK : ∀ {b : Addr} {m : Str → Option Value}, s₁.heap.Ns b m → (hidT s₁.heap H).Ns b m := fun {b m} ⟨o, es, ep, e, d, r⟩ => ⟨o, es, ep, base_of e (noA e d), d, r⟩
    have hKb : K.In (hidT s₁.heap H) := fun b o e => base_of (KX b o e) (by
      cases q : H b with
      | none => rfl
      | some u =>
        have e' : b = a := hA b (by rw [q]; simp)
        subst e'
        rw [hK (by rw [q]; simp)] at e; cases e)
    have hM : Mod K mg (hidT s₁.heap H) := ⟨hKb, nsK hns, ⟨mb, nsK hb, hbb⟩, let ⟨mc, h1, h2⟩ := hlim; ⟨mc, nsK h1, h2⟩⟩
    have e0 : Env0 P w K mg (hidT s₁.heap H) callerA [] s₁ H := ⟨rfl, hM, fun b o e => of_hidT e, Nat.le_of_eq (hidT_size _ _), trivial, fun b hb => absurd (show b ∈ ([] : List Addr) from hb) (by simp), hok, .of_eq hg⟩
    refine codeAny_mono ((F _ hKb (nsK hns)).run callerA [] s₁ H ⟨[.ref a], []⟩ [.ref a] [.ref a] _ _ hr e0 (hbind s₁ (.ref a)) (.cons rfl .nil) (hsp H hO hS)) fun r s' h => ?_
    cases r with
    | error e => exact (hCX H e s' h).elim
    | ok fl =>
      cases fl with
      | next => exact False.elim h
      | brk => exact False.elim h
      | cont => exact False.elim h
      | ret u =>
        obtain ⟨v, H', os, bare, un, hok', r', q⟩ := h
        have q' : v = .bl true := q
        subst q'
        obtain rfl : u = Value.bool true := r'
        refine ⟨rfl, OldK.of_keep fun b o e => ?_, os, bare⟩
        cases q : H b with
        | none => exact un.keep b o e q (by intro z; exact absurd (show b ∈ ([] : List Addr) from z) (by simp)) (by simp)
        | some u =>
          rcases hO b with z | ⟨ob, xs, z⟩
          · rw [q] at z; cases z
          · have z2 := un.frzs b ob _ z
            obtain ⟨e1, _⟩ := hok b _ z
            obtain ⟨e2, _⟩ := hok' b _ z2
            rw [e] at e1; cases e1
            exact e2
  cases hk : K.lookup a with
  | some o =>
    have e := KX a o hk
    rw [ha] at e
    cases e
    refine core (fun _ => none) (fun _ => .inl rfl) (.inr ⟨_, vs.toArray, _, hk, rfl, rfl, rfl, by rw [List.size_toArray, lenV]; exact hl, by simpa using rv⟩) (fun b u z => by have z' : (none : Option HO) = some u := z; cases z') (fun b z => absurd rfl z) fun z => absurd rfl z
  | none =>
    refine core (fun b => if b = a then some (.frz { cls := .type "list", data := .seq vs.toArray } (.lst (ns.map V.int))) else none) (fun b => ?_) (.inl (.inr ⟨{ cls := .type "list", data := .seq vs.toArray }, if_pos rfl⟩)) (fun b u z => ?_) (fun b z => ?_) fun _ => hk
    · by_cases hb : b = a
      · exact .inr ⟨_, _, if_pos hb⟩
      · exact .inl (if_neg hb)
    · by_cases hb : b = a
      · have z' := (if_pos hb).symm.trans z
        cases z'
        subst hb
        exact ⟨ha, by rw [List.length_map]; exact hl, vs, _, rv, ha⟩
      · have z' := (if_neg hb).symm.trans z
        cases z'
    · by_cases hb : b = a
      · exact hb
      · exact absurd (if_neg hb) z
end L2
namespace L2
open PySem PySem.Spec PyProof.Rows
theorem walk_of {l : PySem.W.OpenLaw} {n k : Nat} {q : Program} {loose : List Str} {XP : (Str → Option Value) → Heap → Prop} {YP : World → Heap → Prop} {d : DefRec} {K : Params → PySem.W.Frag} {CX : World → CXT} {sp : World → Sp} {x : Str}
    (hn : l.most = some n) (hn2 : n ≤ sizeLine) (hdf : d.params.defaults = []) (hr : Room k callerA)
    (hY : ∀ (w : World) (h : Heap), YP w h → (K w.params).In h)
    (F : ∀ (w : World) (mg : Str → Option Value) (fa : Addr) (h : Heap), (K w.params).In h → h.Ns mainGlobals mg → mg d.name = some (.ref fa) →
      ∃ fd : FuncData, (∀ (s : Shared) (u : Value), BindsTo s fd ⟨[u], []⟩ [(x, u)]) ∧
        ∀ base : Heap, (K w.params).In base → base.Ns mainGlobals mg → FnOk l.prog w (K w.params) mg base (CX w) k fa fd [x] (sp w))
    (hsp : ∀ (w : World) (H : Hp) (a : Addr) (ns : List Int), ns.length ≤ n → Only H → SqL (K w.params) H a (ns.map V.int) → sp w [.ref a] H (fun v _ => v = .bl true) fun _ _ _ => False)
    (hCX : ∀ (w : World) (H : Hp) (s : Shared) (e : Value) (s' : Shared), CX w [] H s (fun _ _ _ => False) e s' → False) :
    PySem.W.WalkO q loose XP YP l.row.toRowW d [] (fun f vs => PySem.call f vs) := by
  refine Att.attach_call hn hdf fun w s₀ s₁ mg mb fa o pm cd doc a vs ns G Y ho hd hcd hmg hobj hints hlen hg => ?_
  have KX := hY w _ Y
  obtain ⟨fd, hb, hF⟩ := F w mg fa _ KX G.T.g hmg
  exact law_call KX G.T.g G.T.b G.T.builtins G.T.nolimit hg hobj hints (Nat.le_trans hlen hn2) hr hF hb (fun H hO hS => hsp w H a ns hlen hO hS) fun H e s' => hCX w H s₁ e s'
end L2
namespace L2
open PySem PySem.Spec PyProof.Rows
def defArgs (s : Stmt) : Arguments := match s with
  | .FunctionDef _ a _ _ _ _ _ _ _ _ => a
  | _ => { posonlyargs := [], args := [], vararg := none, kwonlyargs := [], kw_defaults := [], kwarg := none, defaults := [] }
def defBody (s : Stmt) : List Stmt := match s with
  | .FunctionDef _ _ b _ _ _ _ _ _ _ => b
  | _ => []
def defScope (s : Stmt) : Scope := match s with
  | .FunctionDef _ _ _ _ _ _ sc _ _ _ => sc
  | _ => { kind := .function, names := [], isGenerator := false, isCoroutine := false }
abbrev CX0 : CXT := fun _ _ _ _ _ _ => False
abbrev E0 : XK := fun _ _ _ => False
theorem pass0 {X : Cx} : Passes CX0 X E0 := fun _ _ _ _ _ _ _ h => h.elim
structure Fun (K : PySem.W.Frag) (x qual : Str) (st : Stmt) (f : Addr) (fd : FuncData) : Prop where
  ex : ∃ (oc : Value) (od : Option Addr) (kV doc pm : Value) (an : Option Addr) (cdv ct : Value) (osl : Array (Option Value)),
    fd = PySem.W.fnOf x qual (defArgs st) (defBody st) (defScope st) .none kV doc pm an cdv ct ∧ K.lookup f = some ⟨oc, od, .func fd, osl⟩ ∧ PySem.W.codeIn K cdv qual = true
  kp : PySem.W.keepIn K (.ref f) = true
section
variable {P : Program} {w : World} {K : PySem.W.Frag} {mg : Str → Option Value} {base : Heap}
theorem Fun.ok {x qual : Str} {st : Stmt} {f : Addr} {fd : FuncData} {N ps : List Str} {k : Nat} {sp : Sp} (F : Fun K x qual st f fd) (S : FnScope N ps (defScope st)) (len : ∀ vs H Q E, sp vs H Q E → vs.length = ps.length)
    (hbody : ∀ (cdv : Value) (A : Around) (outer : List Env) (s : Shared) (H : Hp) (vs : List V) (Q : VK) (E : XK), Room k (A.deeper (envOfC qual (defScope st) s.heap.objs.size f cdv)) → sp vs H Q E →
      ∃ t, PSs (cxOf CX0 P w K mg base N qual (defScope st) f cdv A outer s H E).nox (defBody st) t ∧ t { nx := fun _ H' => Q .non H', rt := Q } (start N vs) H) : FnOk P w K mg base CX0 (k + 1) f fd ps sp := by
  obtain ⟨oc, od, kV, doc, pm, an, cdv, ct, osl, rfl, lk, hcd⟩ := F.ex
  refine fn_of lk hcd S len fun A outer s H vs Q E hr hsp => ?_
  obtain ⟨t, h, q⟩ := hbody cdv A outer s H vs Q E hr hsp
  exact ⟨t, h.nox, q⟩
theorem Fun.binds {x qual : Str} {st : Stmt} {f : Addr} {fd : FuncData} {ps : List Str} (F : Fun K x qual st f fd)
    (h : ∀ (kV doc pm : Value) (an : Option Addr) (cdv ct : Value) (us : List Value), us.length = ps.length → bindArgs (PySem.W.fnOf x qual (defArgs st) (defBody st) (defScope st) .none kV doc pm an cdv ct) ⟨us, []⟩ = pure (ps.zip us)) : Binds K fd ps [] := by
  obtain ⟨oc, od, kV, doc, pm, an, cdv, ct, osl, rfl, lk, hcd⟩ := F.ex
  exact .all (h kV doc pm an cdv ct)
theorem fun_mk {x qual : Str} {st : Stmt} {f : Addr} {oc : Value} {od an : Option Addr} {osl : Array (Option Value)} {kV doc pm cdv ct : Value} (l : K.lookup f = some ⟨oc, od, .func (PySem.W.fnOf x qual (defArgs st) (defBody st) (defScope st) .none kV doc pm an cdv ct), osl⟩)
    (c : PySem.W.codeIn K cdv qual = true) (k : PySem.W.keepIn K (.ref f) = true) : Fun K x qual st f (PySem.W.fnOf x qual (defArgs st) (defBody st) (defScope st) .none kV doc pm an cdv ct) := ⟨⟨oc, od, kV, doc, pm, an, cdv, ct, osl, rfl, l, c⟩, k⟩
end
theorem small1000 {n : Nat} (h : n ≤ 1000) : n < sizeLine := Nat.lt_of_le_of_lt h (by decide)
section
variable {X : Cx}
theorem pv (i : Nat) {x : Str} {pos : Pos} (hN : X.N[i]? = some x := by rfl) (hv : Vis X.env.scope x := by first | exact Or.inl rfl | exact Or.inr (Or.inl rfl) | exact Or.inr (Or.inr rfl)) (hd : (x == ("__debug__" : Str)) = false := by decide)
    (hcd : (x == ("__classdict__" : Str)) = false := by decide) : PE X (.Name x pos) (tVar i) := pe_var hN hv hd hcd
end
theorem iteF {A B : Prop} (h : B) : if false = true then A else B := by
  rw [if_neg Bool.false_ne_true]
  exact h
theorem iteT {A B : Prop} (h : A) : if true = true then A else B := by
  rw [if_pos rfl]
  exact h
theorem ite2 {c A B : Prop} [Decidable c] (h1 : c → A) (h2 : ¬ c → B) : if c then A else B := by
  by_cases h : c
  · rw [if_pos h]
    exact h1 h
  · rw [if_neg h]
    exact h2 h
theorem iteNS {c A B : Prop} [Decidable c] (hc : c) (h : B) : if (!decide c) = true then A else B := by
  rw [decide_eq_true hc]
  exact iteF h
def Same (H H' : Hp) : Prop := ∀ b o, H b = some o → H' b = some o
theorem Same.refl (H : Hp) : Same H H := fun _ _ h => h
theorem Same.trans {H H1 H2 : Hp} (a : Same H H1) (b : Same H1 H2) : Same H H2 := fun c o h => b c o (a c o h)
theorem Same.free {H H' : Hp} (e : Same H H') {l : Addr} (h : H' l = Option.none) : H l = Option.none := by
  cases q : H l with
  | none => rfl
  | some o =>
    rw [e l o q] at h
    cases h
theorem Same.seq {K : PySem.W.Frag} {H H' : Hp} {a : Addr} {xs : List V} (e : Same H H') (h : SqL K H a xs) : SqL K H' a xs := by
  rcases h with (h | ⟨o, h⟩) | h
  · exact .inl (.inl (e _ _ h))
  · exact .inl (.inr ⟨o, e _ _ h⟩)
  · exact .inr h
end L2
set_option maxHeartbeats 4000000
namespace L2
open PySem PySem.Spec PyProof.Rows
def compCx (X : Cx) (scope : Scope) (cl : List (Str × Addr)) (C : Addr) (Nc : List Str) (ex : List Addr) (s : Shared) (H : Hp) : Cx :=
  { X with N := Nc, s₀ := s, H₀ := H, env := compEnvC scope cl C X.env, outer := X.stack, ex := ex, fn := fun _ => false, pn := [], xe := fun _ _ => False }
theorem forIn_clos {env : Env} (F : Str × NameKind → List (Str × Addr) → Sem (ForInStep (List (Str × Addr))))
    (h1 : ∀ n a cs, env.cells.lookup n = some a → F (n, .free) cs = pure (.yield ((n, a) :: cs))) (h2 : ∀ n k cs, k ≠ .free → F (n, k) cs = pure (.yield cs)) :
    ∀ (names : List (Str × NameKind)) (cs : List (Str × Addr)), (∀ x, (x, NameKind.free) ∈ names → ∃ c, env.cells.lookup x = some c) → (∀ y c, cs.lookup y = some c → env.cells.lookup y = some c) →
      ∃ cl, forIn names cs F = pure cl ∧ (∀ y c, cl.lookup y = some c → env.cells.lookup y = some c) ∧ ∀ y, ((y, NameKind.free) ∈ names ∨ ∃ c, cs.lookup y = some c) → ∃ c, cl.lookup y = some c := by
  intro names
  induction names with
  | nil =>
    intro cs _ hcs
    exact ⟨cs, rfl, hcs, fun y h => h.elim (fun z => by simp at z) fun z => z⟩
  | cons x r ih =>
    intro cs hf hcs
    obtain ⟨n, k⟩ := x
    have hfr : ∀ x, (x, NameKind.free) ∈ r → ∃ c, env.cells.lookup x = some c := fun x hx => hf x (List.mem_cons_of_mem _ hx)
    by_cases hk : k = .free
    · subst hk
      obtain ⟨a, ha⟩ := hf n List.mem_cons_self
      obtain ⟨cl, e, p1, p2⟩ := ih ((n, a) :: cs) hfr (fun y c hy => by
        rw [List.lookup_cons] at hy
        cases hyn : y == n with
        | true =>
          rw [hyn] at hy
          cases hy
          rw [beq_iff_eq.mp hyn]
          exact ha
        | false =>
          rw [hyn] at hy
          exact hcs y c hy)
      refine ⟨cl, ?_, p1, fun y h => p2 y ?_⟩
      · rw [List.forIn_cons, h1 n a cs ha]
        exact e
      · by_cases hyn : y = n
        · subst hyn
          exact .inr ⟨a, by rw [List.lookup_cons, beq_self_eq_true]⟩
        · rcases h with h | ⟨c, h⟩
          · rcases List.mem_cons.mp h with h | h
            · cases h
              exact absurd rfl hyn
            · exact .inl h
          · refine .inr ⟨c, ?_⟩
            rw [List.lookup_cons, beq_eq_false_iff_ne.mpr hyn]
            exact h
    · obtain ⟨cl, e, p1, p2⟩ := ih cs hfr hcs
      refine ⟨cl, ?_, p1, fun y h => p2 y ?_⟩
      · rw [List.forIn_cons, h2 n k cs hk]
        exact e
      · rcases h with h | h
        · rcases List.mem_cons.mp h with h | h
          · cases h
            exact absurd rfl hk
          · exact .inl h
        · exact .inr h
theorem closure_ok {scope : Scope} {env : Env} (hf : ∀ x, (x, NameKind.free) ∈ scope.names → ∃ c, env.cells.lookup x = some c) :
    ∃ cl, closureFor scope env = pure cl ∧ (∀ y c, cl.lookup y = some c → env.cells.lookup y = some c) ∧ ∀ y, (y, NameKind.free) ∈ scope.names → ∃ c, cl.lookup y = some c := by
  have key := forIn_clos (env := env) (fun (x : Str × NameKind) (r : List (Str × Addr)) => (match x with
      | (name, kind) => if (kind == NameKind.free) = true then do
          let a ← cellOf env name
          pure (ForInStep.yield ((name, a) :: r))
        else pure (ForInStep.yield r) : Sem (ForInStep (List (Str × Addr)))))
    (fun n a cs h => by
      show (if (NameKind.free == NameKind.free) = true then _ else _) = _
      rw [if_pos (by decide)]
      unfold cellOf
      rw [h]
      rfl)
    (fun n k cs h => by
      show (if (k == NameKind.free) = true then _ else _) = _
      rw [if_neg (by simpa using h)])
    scope.names [] hf (fun y c h => by simp at h)
  obtain ⟨cl, e, p1, p2⟩ := key
  refine ⟨cl, ?_, p1, fun y h => p2 y (.inl h)⟩
  unfold closureFor
  show (forIn scope.names ([] : List (Str × Addr)) _ >>= _) = _
  rw [show (forIn scope.names ([] : List (Str × Addr)) (fun (x : Str × NameKind) (r : List (Str × Addr)) => (match x with
      | (name, kind) => if (kind == NameKind.free) = true then do
          let a ← cellOf env name
          pure (ForInStep.yield ((name, a) :: r))
        else pure (ForInStep.yield r) : Sem (ForInStep (List (Str × Addr)))))) = pure cl from e]
  rfl
structure CompScope (osc : Scope) (N : List Str) (scope : Scope) (own cap : List Str) (js : List Nat) : Prop where
  kind : scope.kind = .function
  nocell : ∀ y ∈ scope.names, y.2 ≠ .cell
  loc : ∀ x ∈ scope.names, x.2 = .local → scope.names.lookup x.1 = some .local
  fr : ∀ x ∈ scope.names, x.2 = .free → osc.names.lookup x.1 = some .cell ∨ osc.names.lookup x.1 = some .free
  nd : (own ++ cap).Nodup
  ix : cap.map some = js.map (fun j => N[j]?)
  cp : ∀ x ∈ cap, scope.names.lookup x = some .free
theorem lookup_relabel {env : Env} (x : Str) : ∀ (names : List (Str × NameKind)),
    (names.map fun (n, k) => if (k == NameKind.free && env.scope.kind == .function && env.kindOf n == some .cell) then (n, NameKind.cell) else (n, k)).lookup x =
      (names.lookup x).map fun k => if (k == NameKind.free && env.scope.kind == .function && env.kindOf x == some .cell) then NameKind.cell else k
  | [] => rfl
  | (n, k) :: r => by
    have ih := lookup_relabel (env := env) x r
    rw [List.map_cons]
    show List.lookup x ((if (k == NameKind.free && env.scope.kind == .function && env.kindOf n == some .cell) = true then (n, NameKind.cell) else (n, k)) :: _) = _
    have e : (if (k == NameKind.free && env.scope.kind == .function && env.kindOf n == some .cell) = true then (n, NameKind.cell) else (n, k)) =
        (n, if (k == NameKind.free && env.scope.kind == .function && env.kindOf n == some .cell) = true then NameKind.cell else k) := by split <;> rfl
    rw [e]
    by_cases hx : x = n
    · subst hx
      rw [List.lookup_cons_self, List.lookup_cons_self]
      rfl
    · have hb : (x == n) = false := beq_eq_false_iff_ne.mpr hx
      rw [List.lookup_cons, List.lookup_cons]
      show (match x == n with | true => _ | false => _) = Option.map _ (match x == n with | true => _ | false => _)
      rw [hb]
      exact ih
def compSt (own : List Str) (js : List Nat) (σ : St) : St := List.replicate own.length none ++ js.map fun j => (σ[j]?).join
section
variable {X : Cx} {pins : List (Addr × Obj)} {σ : St} {H : Hp} {s : Shared}
theorem Inv.notStack (I : Inv X pins σ H s) {b : Addr} (h1 : b ≠ X.env.locals) (h2 : b ∉ X.fs) : b ∉ frs X.stack := fun z => by
  rcases List.mem_cons.mp (I.stkSub b z) with h | h
  · exact h1 h
  · exact h2 h
theorem comp_inv (I : Inv X pins σ H s) {scope : Scope} {cl : List (Str × Addr)} {own cap : List Str} {js : List Nat} (S : CompScope X.env.scope X.N scope own cap js)
    (p1 : ∀ y c, cl.lookup y = some c → X.env.cells.lookup y = some c) (p2 : ∀ y, (y, NameKind.free) ∈ scope.names → ∃ c, cl.lookup y = some c)
    {fp : List Addr} (hfp : ∀ b ∈ fp, FpOk X pins H b) (hobj : ∀ b ∈ fp, ∃ o, s.heap.get? b = some o) {C : Addr} (hC : s.heap.objs.size ≤ C) {h₁ : Heap} {tk : Nat} {m : Str → Option Value}
    (hns : h₁.Ns C m) (keep : ∀ b o, s.heap.get? b = some o → h₁.get? b = some o) :
    Inv (compCx X scope cl C (own ++ cap) fp s H) [] (compSt own js σ) H { s with heap := h₁, toks := tk } := by
  have hjl : cap.length = js.length := by
    have := congrArg List.length S.ix
    simpa using this
  have hlk : ∀ x k, (compEnvC scope cl C X.env).kindOf x = some k → (k = .cell ∨ k = .free) → (x, NameKind.free) ∈ scope.names := by
    intro x k hk hkk
    have hk' : (scope.names.lookup x).map (fun k => if (k == NameKind.free && X.env.scope.kind == .function && X.env.kindOf x == some .cell) then NameKind.cell else k) = some k := by
      rw [← lookup_relabel]
      exact hk
    cases e : scope.names.lookup x with
    | none => rw [e] at hk'; cases hk'
    | some k0 =>
      rw [e] at hk'
      have hm := PySem.mem_of_lookup e
      have hk'' : (if (k0 == NameKind.free && X.env.scope.kind == .function && X.env.kindOf x == some .cell) = true then NameKind.cell else k0) = k := Option.some.inj hk'
      by_cases hf : k0 = .free
      · subst hf; exact hm
      · have : (k0 == NameKind.free) = false := by simpa using hf
        rw [this, Bool.false_and, Bool.false_and, if_neg Bool.false_ne_true] at hk''
        subst hk''
        rcases hkk with z | z
        · exact absurd z (S.nocell _ hm)
        · exact absurd z hf
  refine ⟨⟨I.ok.mod, S.kind, I.ok.glob, I.ok.blt, hC, fun x y c h1 h2 => I.ok.inj x y c (p1 x c h1) (p1 y c h2), fun x h => ?_, fun x c h _ => absurd h (show ¬ (false = true) from Bool.false_ne_true), I.ok.hd, I.ok.frames, .inl rfl, fun b hb => ⟨?_, fun x c e => ?_⟩, I.bs,
    Nat.le_trans I.ok.bsz I.sz, fun b o e hb => ?_, fun b hb => ?_, I.stack, I.stkFree⟩, rfl, I.bare, Un.kept keep, ⟨m, hns, fun i x v e1 e2 e3 => ?_⟩, fun x c e => ?_, I.hok.fresh hC, fun x c e => I.freeC x c (p1 x c e), fun p hp => absurd hp (by simp [compCx]), I.hok.kept keep, ?_⟩
  · rcases h with h | h
    · exact p2 x (hlk x _ h (.inl rfl))
    · exact p2 x (hlk x _ h (.inr rfl))
  · obtain ⟨o, e⟩ := hobj b hb
    exact Nat.ne_of_lt (Nat.lt_of_lt_of_le (Heap.lt_size e) hC)
  · exact (hfp b hb).2.2.2.2.1 x c (p1 x c e)
  · obtain ⟨_, _, _, h4, _⟩ := hfp b hb
    rcases h4 with h4 | h4
    · exact I.ok.noex b o e h4
    · exact absurd (Nat.lt_of_lt_of_le (Heap.lt_size e) (Nat.le_trans I.ok.bsz h4)) (Nat.lt_irrefl _)
  · obtain ⟨_, h2, h3, _⟩ := hfp b hb
    exact I.notStack h2 h3
  · have e1' : (own ++ cap)[i]? = some x := e1
    have hi : own.length ≤ i := by
      by_cases hi : own.length ≤ i
      · exact hi
      · unfold compSt at e2
        rw [List.getElem?_append_left (by simpa using hi), List.getElem?_replicate] at e2
        split at e2 <;> cases e2
    rw [List.getElem?_append_right hi] at e1'
    unfold compSt at e2
    rw [List.getElem?_append_right (by simpa using hi), List.length_replicate, List.getElem?_map] at e2
    cases ej : js[i - own.length]? with
    | none => rw [ej] at e2; cases e2
    | some j =>
      rw [ej] at e2
      have e2' : (σ[j]?).join = some v := Option.some.inj e2
      have e2'' : σ[j]? = some (some v) := by
        cases eσ : σ[j]? with
        | none => rw [eσ] at e2'; cases e2'
        | some o =>
          rw [eσ] at e2'
          have : o = some v := e2'
          rw [this]
      have hN : X.N[j]? = some x := by
        have q := congrArg (fun l => l[i - own.length]?) S.ix
        simp only [List.getElem?_map, e1', ej, Option.map_some] at q
        exact (Option.some.inj q).symm
      have hcap : x ∈ cap := List.mem_of_getElem? e1'
      have hfree := S.cp x hcap
      have hmem := PySem.mem_of_lookup hfree
      have hvis : Vis X.env.scope x := by
        rcases S.fr _ hmem rfl with h | h
        · exact .inr (.inl h)
        · exact .inr (.inr h)
      obtain ⟨m0, _, hl⟩ := I.loc
      obtain ⟨u, r, l⟩ := hl j x v hN e2'' hvis
      obtain ⟨c, hc⟩ := p2 x hmem
      have hcc := p1 x c hc
      have hk : (compEnvC scope cl C X.env).kindOf x = some .cell ∨ (compEnvC scope cl C X.env).kindOf x = some .free := by
        have e : (compEnvC scope cl C X.env).kindOf x = (scope.names.lookup x).map (fun k => if (k == NameKind.free && X.env.scope.kind == .function && X.env.kindOf x == some .cell) then NameKind.cell else k) := lookup_relabel x scope.names
        rw [e, hfree]
        by_cases hb : (NameKind.free == NameKind.free && X.env.scope.kind == .function && X.env.kindOf x == some .cell) = true
        · exact .inl (congrArg some (if_pos hb))
        · exact .inr (congrArg some (if_neg hb))
      refine ⟨u, r, .inr ⟨hk, c, hc, ?_⟩⟩
      rcases l with ⟨hkl, _⟩ | ⟨_, c', hc', o, ho, hd⟩
      · have hkl' : X.env.scope.names.lookup x = some .local := hkl
        rcases S.fr _ hmem rfl with h | h
        · have h : X.env.scope.names.lookup x = some .cell := h
          rw [hkl'] at h; cases h
        · have h : X.env.scope.names.lookup x = some .free := h
          rw [hkl'] at h; cases h
      · rw [hcc] at hc'
        cases hc'
        exact ⟨o, keep _ _ ho, hd⟩
  · obtain ⟨v, o, ho, hd⟩ := I.cell x c (p1 x c e)
    exact ⟨v, o, keep _ _ ho, hd⟩
  · unfold compSt
    show _ = (own ++ cap).length
    rw [List.length_append, List.length_append, List.length_replicate, List.length_map, hjl]
end
def PF (X : Cx) (ifs : List Expr) (t : TT) : Prop :=
  ∀ (pins : List (Addr × Obj)) (s : Shared) (σ : St) (H : Hp) (Q : Bool → Hp → Prop), Inv X pins σ H s → t σ H Q →
    wpAny (model X.prog X.w) X.A (forIn ifs true fun c r => if r = true then do let ok ← isTrue c X.env (eval c X.env); pure (ForInStep.yield ok) else pure (ForInStep.yield r)) (TP X pins σ Q) X.xe s
def tNoTest : TT := fun _ H Q => Q true H
theorem pf_nil {X : Cx} : PF X [] tNoTest := fun _ _ _ H _ I h => wpAny_tests_nil ⟨H, I, h⟩
theorem pf_one {X : Cx} {c : Expr} {t : TT} (h : PT X c t) : PF X [c] t := fun pins s σ H Q I hw => wpAny_tests_one (h pins s σ H Q I hw)
theorem compLoop_go {prog : Program} {w : World} {A : Around} {R : Result → Shared → Prop} {s : Shared} {elt target iter : Expr} {ifs : List Expr} {scope : Scope} {pos : Pos} {it acc : Value} {env : Env} (I : Nat → Shared → Prop)
    (turn : ∀ n s, I n s → wpAny (model prog w) A (pyNext it) (fun r s₁ => match r with
      | none => R (.ok .next) s₁
      | some v => wpAny (model prog w) A (letOwnedTupleGo target it v) (fun _ s₁' => wpAny (model prog w) A (assign target env v) (fun _ s₂ =>
          wpAny (model prog w) A (forIn ifs true fun c r => if r = true then do let ok ← isTrue c env (eval c env); pure (ForInStep.yield ok) else pure (ForInStep.yield r)) (fun ok s₃ =>
            if ok = true then wpAny (model prog w) A (eval elt env) (fun x s₄ =>
              wpAny (model prog w) A (call (.builtin "list.append") [acc, x]) (fun _ s₅ => ∃ m, m < n ∧ I m s₅) (fun _ _ => False) s₄) (fun _ _ => False) s₃
            else ∃ m, m < n ∧ I m s₃) (fun _ _ => False) s₂) (fun _ _ => False) s₁') (fun _ _ => False) s₁) (fun _ _ => False) s)
    (n : Nat) (h : I n s) :
    codeAny (model prog w) A (.compLoop (.ListComp elt [⟨target, iter, ifs, 0⟩] scope pos) 0 it acc env) R s := by
  refine codeAny_loop rfl I (fun n s hI => ?_) n h
  show wpAny _ A ((compTurn (.ListComp elt [⟨target, iter, ifs, 0⟩] scope pos) 0 it acc env).onRaise (fun x => do noteFrame x env; theTreesLotGoes x)) _ _ s
  refine wpAny_noted (wpAny_mono (E := fun _ _ => False) ?_ (fun _ _ z => z) fun _ _ z => z.elim)
  rw [compTurn_list]
  refine wpAny_bind (wpAny_standAt (wpAny_bind (wpAny_mono (turn n s hI) (fun r s₁ h₁ => ?_) fun _ _ h' => h')))
  cases r with
  | none => exact wpAny_pure h₁
  | some v =>
    refine wpAny_bind (wpAny_mono h₁ (fun _ s₁' h₁' => ?_) fun _ _ h' => h')
    refine wpAny_bind (wpAny_mono h₁' (fun _ s₂ h₂ => wpAny_bind (wpAny_mono h₂ (fun ok s₃ h₃ => ?_) fun _ _ h' => h')) fun _ _ h' => h')
    cases ok with
    | false => exact wpAny_pure ⟨rfl, h₃⟩
    | true =>
      exact wpAny_bind (wpAny_bind (wpAny_mono h₃ (fun x s₄ h₄ => wpAny_bind (wpAny_mono h₄ (fun _ s₅ h₅ => wpAny_pure (wpAny_pure ⟨rfl, h₅⟩)) fun _ _ h' => h')) fun _ _ h' => h'))
def tTurns (k : Nat) (J : It) (g : TG) (tt : TT) (te : TE) (σc : St) (fin : List V → Hp → Prop) (H1 : Hp) : Prop :=
  ∃ W : Nat → Nat → List V → Hp → Prop, (∃ m, W 0 m [] H1) ∧ ∀ i m acc H, W i m acc H →
    (J.stop i H ∧ acc.length ≤ sizeLine ∧ fin acc H) ∨
    (J.go i H ∧ acc.length < sizeLine ∧ ∃ N : List V → Hp → Prop, (∀ acc' H', N acc' H' → ∃ m', m' < m ∧ W (i + 1) m' acc' H') ∧ ∀ x H', J.yld i H x H' → g x σc H' fun σ2 H2 => σ2.drop k = σc.drop k ∧ tt σ2 H2 fun b H3 =>
      if b = true then te σ2 H3 fun y H4 => N (acc ++ [y]) H4 else N acc H3)
section
variable {X : Cx} {pins : List (Addr × Obj)} {σ : St} {H : Hp} {s : Shared}
theorem comp_run (I : Inv X pins σ H s) (hc : X.calm = true) {scope : Scope} {own cap : List Str} {js : List Nat} (S : CompScope X.env.scope X.N scope own cap js) {cl : List (Str × Addr)}
    (p1 : ∀ y c, cl.lookup y = some c → X.env.cells.lookup y = some c) (p2 : ∀ y, (y, NameKind.free) ∈ scope.names → ∃ c, cl.lookup y = some c)
    {tg iter elt : Expr} {ifs : List Expr} {pos : Pos} {J : It} {fp : List Addr} {it : Addr} {tn : Nat → Heap → Prop} (T : Turn X.prog X.w X.K tg J fp it tn) (st : tn 0 s.heap) (hf : ∀ b ∈ fp, FpOk X pins H b)
    {g : TG} {tt : TT} {te : TE} (hp : ∀ cl C ex s H, PG (compCx X scope cl C (own ++ cap) ex s H) tg g ∧ PF (compCx X scope cl C (own ++ cap) ex s H) ifs tt ∧ PE (compCx X scope cl C (own ++ cap) ex s H) elt te)
    {fin : List V → Hp → Prop} (hw : tTurns own.length J g tt te (compSt own js σ) fin H) {E : Value → Shared → Prop} {RR : Value → Addr → Result → Shared → Prop}
    (hRR : ∀ a C acc H' s' m, s.heap.objs.size ≤ a → fin acc H' → H' a = none → s'.heap.Ns C m → s.heap.objs.size ≤ C → (upd H' a (.lst acc)) C = none → Inv X pins σ (upd H' a (.lst acc)) s' → RR (.ref a) C (.ok .next) s') :
    wpAny (model X.prog X.w) X.A (newList []) (fun acc s₃ => wpAny (model X.prog X.w) X.A (newFunctionEnv scope X.env.globals cl [] X.env.qual none .none (some X.env)) (fun cenv s₄ =>
      codeAny (model X.prog X.w) X.A (.compStart (.ListComp elt [⟨tg, iter, ifs, 0⟩] scope pos) 0 (.ref it) acc { cenv with scope := relabel scope X.env }) (RR acc cenv.locals) s₄) E s₃) E s := by
  obtain ⟨W, ⟨m0, w0⟩, turn⟩ := hw
  refine wpAny_newObj_type (wpAny_newFunctionEnv S.nocell (by intro y hy; simp at hy) (fun h₁ hns₁ hsb₁ => ?_) S.kind)
  dsimp only at hns₁ hsb₁ ⊢
  generalize hH2 : s.heap.push { cls := .type "list", dict := none, data := .seq ([] : List Value).toArray } = H2 at hns₁ hsb₁ ⊢
  have hCs : H2.objs.size = s.heap.objs.size + 1 := by rw [← hH2, Heap.size_push]
  have hCle : s.heap.objs.size ≤ H2.objs.size := by rw [hCs]; exact Nat.le_succ _
  have hDC : s.heap.objs.size ≠ H2.objs.size := by rw [hCs]; exact Nat.ne_of_lt (Nat.lt_succ_self _)
  have old : ∀ b o, s.heap.get? b = some o → h₁.get? b = some o := fun b o e => hsb₁.extBut b o (Nat.ne_of_lt (Nat.lt_of_lt_of_le (Heap.lt_size e) hCle)) (Heap.get?_push_of_some _ (hH2 ▸ Heap.get?_push_of_some _ e))
  have hacc : h₁.PlainList s.heap.objs.size #[] := ⟨_, hsb₁.extBut _ _ hDC (Heap.get?_push_of_some _ (hH2 ▸ Heap.get?_push_size _ rfl))⟩
  have hobj : ∀ b ∈ fp, ∃ o, s.heap.get? b = some o := fun b hb => let ⟨o, e, _⟩ := T.obj _ _ st b hb; ⟨o, e⟩
  have hlt : ∀ b ∈ fp, b < s.heap.objs.size := fun b hb => let ⟨o, e⟩ := hobj b hb; Heap.lt_size e
  have st1 : tn 0 h₁ := T.keep _ _ _ st fun b hb o e => old b o e
  generalize hC : H2.objs.size = C at *
  generalize ha : s.heap.objs.size = a at *
  have hnl : X.env.locals < a := by rw [← ha]; exact I.lt
  have hafs : a ∉ X.fs := I.nofs (by rw [ha]; exact Nat.le_refl _)
  have hCfs : C ∉ X.fs := I.nofs (by rw [ha]; exact hCle)
  have hfree0 : H a = none := I.hok.fresh (by rw [ha]; exact Nat.le_refl _)
  have cellA : ∀ x c, cl.lookup x = some c → c < a := fun x c e => by
    obtain ⟨v, q⟩ := I.cell x c (p1 x c e)
    rw [← ha]; exact q.lt
  have I1 : Inv (compCx X scope cl C (own ++ cap) fp s H) [] (compSt own js σ) H { s with heap := h₁, toks := s.toks + ([] : List (Str × Value)).length } :=
    comp_inv I S p1 p2 hf hobj (by rw [ha]; exact hCle) hns₁ old
  obtain ⟨pg, pf, pe⟩ := hp cl C fp s H
  have loop : codeAny (model X.prog X.w) X.A (.compLoop (.ListComp elt [⟨tg, iter, ifs, 0⟩] scope pos) 0 (.ref it) (.ref a) (compEnvC scope cl C X.env)) (RR (.ref a) C)
      { s with heap := h₁, toks := s.toks + ([] : List (Str × Value)).length } := by
    have stat : ∀ {H' : Hp} {its : List Value} {k : Nat}, (∀ b ∈ fp, H' b = none) → ∀ b ∈ fp, FpOk (compCx X scope cl C (own ++ cap) fp s H) [(a, { cls := .type "list", data := .seq its.toArray k })] H' b := fun hn b hb =>
      ⟨hn b hb, Nat.ne_of_lt (Nat.lt_of_lt_of_le (hlt b hb) hCle), I.notStack (hf b hb).2.1 (hf b hb).2.2.1, .inl hb, fun x c e => (hf b hb).2.2.2.2.1 x c (p1 x c e), fun p hp => by
        have hpe : p.1 = a := by
          have hp' : p ∈ [(a, _)] := hp
          rw [List.mem_singleton.mp hp']
        rw [hpe]
        exact Nat.ne_of_gt (hlt b hb)⟩
    refine compLoop_go (env := compEnvC scope cl C X.env) (fun n s' => ∃ i acc its k H', Inv (compCx X scope cl C (own ++ cap) fp s H) [(a, { cls := .type "list", data := .seq (its : List Value).toArray k })] (compSt own js σ) H' s' ∧ tn i s'.heap ∧ (∀ b ∈ fp, H' b = none) ∧ Vals acc its ∧ acc.length ≤ sizeLine ∧ W i n acc H') ?_ m0 ?_
    · rintro n s3 ⟨i, acc, its, k, H3, I3, st3, fr3, rv, hz, w3⟩
      rcases turn i n acc H3 w3 with ⟨stop, hz', qn⟩ | ⟨go, hz', N, hN, step⟩
      · refine thn (T.done (compCx X scope cl C (own ++ cap) fp s H) rfl rfl rfl hc i _ s3 _ H3 _ I3 (stat fr3) st3 stop) fun r s4 ⟨hr, I4⟩ => ?_
        subst hr
        have hpa := I4.pin (a, { cls := .type "list", data := .seq its.toArray k }) (by simp [compCx])
        have hHa : H3 a = none := hpa.2.1
        obtain ⟨m4, hn4, _⟩ := I4.loc
        have hHC : H3 C = none := I4.free
        refine hRR a C acc H3 s4 m4 (Nat.le_refl _) qn hHa hn4 hCle (by rw [upd_ne (Ne.symm hDC)]; exact hHC) ?_
        refine I.call' (ch := fp) I4.os ?_ ?_ I4.bare fun b hb => ⟨(hf b hb).2.2.2.1, (hf b hb).2.1, (hf b hb).2.2.2.2.1, (hf b hb).2.2.2.2.2⟩
        · have u := I4.base
          have ne : ∀ b o, s.heap.get? b = some o → b ≠ a := fun b o e => Nat.ne_of_lt (by rw [← ha]; exact Heap.lt_size e)
          have hne : ∀ {b u}, H3 b = some u → b ≠ a := fun e z => by rw [z, hHa] at e; cases e
          exact ⟨u.keep, u.slot, fun b o e n hx => by rw [upd_ne (ne b o e)]; exact u.free b o e n hx, u.there, fun b xs e => by have e' := u.tups b xs e; rw [upd_ne (hne e')]; exact e',
            fun b o v e => by have e' := u.frzs b o v e; rw [upd_ne (hne e')]; exact e', fun b ps e => by obtain ⟨more, e'⟩ := u.tbls b ps e; exact ⟨more, by rw [upd_ne (hne e')]; exact e'⟩⟩
        · intro b o e
          by_cases hb : b = a
          · subst hb
            rw [upd_same] at e
            cases e
            exact ⟨hz', its, k, rv, hpa.1⟩
          · rw [upd_ne hb] at e
            have nea : ∀ c v, H3 c = some v → c ≠ a := fun c v q z => by rw [z, hHa] at q; cases q
            exact (I4.hok b o e).stay (fun _ _ _ q => q) (fun c q => by rw [upd_ne (nea c _ q)]; exact q) fun c xs q => by rw [upd_ne (nea c _ q)]; exact q
      · refine thn (T.item (compCx X scope cl C (own ++ cap) fp s H) rfl rfl rfl hc i _ s3 _ H3 _ I3 (stat fr3) st3 go) fun r s4 ⟨u, hr, h4⟩ => ?_
        subst hr
        refine thn h4 fun _ s5 ⟨x, H5, I5, r5, y5, st5, fr5⟩ => ?_
        have I5' := I5.pinned (stat fr5) (T.obj _ _ st5)
        have carry : ∀ {σ' : St} {H' : Hp} {s' : Shared}, Inv (compCx X scope cl C (own ++ cap) fp s H) ([(a, { cls := .type "list", data := .seq its.toArray k })] ++ pinsAt fp s5.heap) σ' H' s' → tn (i + 1) s'.heap ∧ (∀ b ∈ fp, H' b = none) := fun {σ' H' s'} I7 => by
          refine ⟨T.keep _ _ _ st5 fun b hb o e => (I7.pin (b, o) (List.mem_append_right _ (List.mem_append_right _ (mem_pinsAt hb e)))).1, fun b hb => ?_⟩
          obtain ⟨o, e, d⟩ := T.obj _ _ st5 b hb
          exact (I7.pin (b, o) (List.mem_append_right _ (List.mem_append_right _ (mem_pinsAt hb e)))).2.1
        have weak : ∀ {ps : List (Addr × Obj)} {σ' : St} {H' : Hp} {s' : Shared}, Inv (compCx X scope cl C (own ++ cap) fp s H) ps σ' H' s' → σ'.drop own.length = (compSt own js σ).drop own.length → Inv (compCx X scope cl C (own ++ cap) fp s H) ps (compSt own js σ) H' s' := fun {ps σ' H' s'} I7 hσ => by
          refine I7.weak ?_ fun j v e => ?_
          · rw [I7.len, I1.len]
          · by_cases hj : own.length ≤ j
            · have q := congrArg (fun l => l[j - own.length]?) hσ
              simp only [List.getElem?_drop] at q
              rw [Nat.add_sub_cancel' hj] at q
              rw [q]; exact e
            · unfold compSt at e
              rw [List.getElem?_append_left (by simpa using hj), List.getElem?_replicate] at e
              split at e <;> cases e
        refine thn (pg _ s5 _ H5 x u _ I5' r5 (step x H5 y5)) fun _ s6 ⟨σ6, H6, I6, hσ, q6⟩ => ?_
        refine thn (pf _ s6 σ6 H6 _ I6 q6) fun ok s7 ⟨H7, I7, q7⟩ => ?_
        cases ok with
        | false =>
          rw [if_neg Bool.false_ne_true] at q7 ⊢
          obtain ⟨m', hm, w7⟩ := hN _ _ q7
          exact ⟨m', hm, i + 1, acc, its, k, H7, weak I7.unpinned hσ, (carry I7).1, (carry I7).2, rv, hz, w7⟩
        | true =>
          rw [if_pos rfl] at q7 ⊢
          refine thn (pe _ s7 σ6 H7 _ I7 q7) fun y s8 ⟨yv, H8, I8, ry, q8⟩ => ?_
          obtain ⟨m', hm, w8⟩ := hN _ _ q8
          have hp8 := I8.pin (a, { cls := .type "list", data := .seq its.toArray k }) (by simp [compCx])
          refine wpAny_list_append_plain (items := its.toArray) ⟨k, hp8.1⟩ (fun h9 hl9 hs9 => ?_) (by rw [List.size_toArray, ← rv.length]; exact hz)
          obtain ⟨k9, e9⟩ := hl9
          have I9 : Inv (compCx X scope cl C (own ++ cap) fp s H) [] σ6 H8 { s8 with heap := h9 } :=
            (I8.pins_of (pins' := []) (fun p hp => absurd hp (by simp))).turned (it := a) (t' := s8.toks) (fun b o hb e => (hs9.2 b hb).trans e) hp8.2.1 hDC (.inr (Nat.le_of_eq ha)) (fun x c e => Nat.ne_of_lt (cellA x c e)) (fun p hp => absurd hp (by simp [compCx]))
          refine ⟨m', hm, i + 1, acc ++ [yv], its ++ [y], k9, H8, (weak I9 hσ).pins_of fun p hp => ?_, T.keep _ _ _ (carry I8).1 fun b hb o e => (hs9.2 b (Nat.ne_of_lt (hlt b hb))).trans e, (carry I8).2, rv.append (.cons ry .nil), by rw [List.length_append, List.length_singleton]; exact hz', w8⟩
          have hp' : p = (a, { cls := .type "list", data := .seq (its ++ [y]).toArray k9 }) := by simpa using hp
          subst hp'
          refine ⟨?_, hp8.2.1, hDC, I.notStack (Nat.ne_of_gt hnl) hafs, fun v z => nomatch z⟩
          show h9.get? a = _
          rw [e9]
          simp
    · obtain ⟨k0, e0⟩ := hacc
      refine ⟨0, [], [], k0, H, I1.pins_of fun p hp => ?_, st1, fun b hb => (hf b hb).1, .nil, Nat.zero_le _, w0⟩
      have hp' : p = (a, { cls := .type "list", data := .seq ([] : List Value).toArray k0 }) := by simpa using hp
      subst hp'
      exact ⟨e0, hfree0, hDC, I.notStack (Nat.ne_of_gt hnl) hafs, fun v z => nomatch z⟩
  exact codeAny_compStart_list loop (T.self _ 0 _ _ _ st1 loop)
def tComp (own : List Str) (js : List Nat) (wi : TI) (g : TG) (tt : TT) (te : TE) : TE := fun σ H Q => wi σ H fun J H1 =>
  tTurns own.length J g tt te (compSt own js σ) (fun acc H' => ∀ p, H' p = none → Q (.ref p) (upd H' p (.lst acc))) H1
variable {scope : Scope} {own cap : List Str} {js : List Nat} {tg iter elt : Expr} {ifs : List Expr} {pos : Pos} {wi : TI} {g : TG} {tt : TT} {te : TE}
theorem pe_comp (hc : X.calm = true) (S : CompScope X.env.scope X.N scope own cap js) (hi : PI X tg iter wi)
    (hp : ∀ cl C ex s H, PG (compCx X scope cl C (own ++ cap) ex s H) tg g ∧ PF (compCx X scope cl C (own ++ cap) ex s H) ifs tt ∧ PE (compCx X scope cl C (own ++ cap) ex s H) elt te)
    (hs : ∀ x, foldedSetIterable iter X.env x = pure x := by intro _; rfl) : PE X (.ListComp elt [⟨tg, iter, ifs, 0⟩] scope pos) (tComp own js wi g tt te) := by
  intro pins s σ H Q I h
  obtain ⟨cl, e, p1, p2⟩ := closure_ok (scope := scope) (env := X.env) (fun x hx => I.ok.has x (S.fr _ hx rfl))
  rw [eval_ListComp]
  refine wpAny_comprehension_free (use := none) rfl hs e S.kind S.loc (thn (hi pins s σ H _ I h) fun v s1 h1 => thn h1 fun itv s2 h2 => ?_)
  obtain ⟨it, fp, tn, J, H2, e2, I2, T, st2, f2, hw⟩ := h2
  subst e2
  refine comp_run I2 hc S p1 p2 T st2 f2 hp hw (RR := fun acc C => compPost (model X.prog X.w) X.A X.xe none (EP X pins σ Q) acc C) ?_
  intro a C acc H' s' m ha hfin hHa hn hC hHC I'
  have ltC : ∀ b, b < s2.heap.objs.size → b ≠ C := fun b hb => Nat.ne_of_lt (Nat.lt_of_lt_of_le hb hC)
  exact ⟨m, hn, fun h' hs' => ⟨.ref a, _, I'.turned (it := C) (t' := s'.toks) (fun b o hb e => (hs'.2 b hb).trans e) hHC (Ne.symm (ltC _ I2.lt)) (.inr (Nat.le_trans I2.sz hC))
    (fun x c e => let ⟨_, q⟩ := I2.cell x c e; ltC c q.lt) (fun p hp => ltC _ (Heap.lt_size (I2.pin p hp).1)), rfl, hfin a hHa⟩⟩
theorem ps_comp {i : Nat} {y : Str} {py spos : Pos} (hc : X.calm = true) (S : CompScope X.env.scope X.N scope own cap js) (hi : PI X tg iter wi)
    (hp : ∀ cl C ex s H, PG (compCx X scope cl C (own ++ cap) ex s H) tg g ∧ PF (compCx X scope cl C (own ++ cap) ex s H) ifs tt ∧ PE (compCx X scope cl C (own ++ cap) ex s H) elt te)
    (hN : X.N.Nodup) (hiy : X.N[i]? = some y) (hy : X.env.scope.names.lookup y = some .local)
    (hsw : swapsWith (.ListComp elt [⟨tg, iter, ifs, 0⟩] scope pos) (some (.Name y py)) spos.line X.env = pure true := by rfl)
    (hs : ∀ x, foldedSetIterable iter X.env x = pure x := by intro _; rfl) : PS X (.Assign [.Name y py] (.ListComp elt [⟨tg, iter, ifs, 0⟩] scope pos) spos) (tAsg (tComp own js wi g tt te) (gName i)) := by
  intro pins s σ H D I h
  obtain ⟨cl, e, p1, p2⟩ := closure_ok (scope := scope) (env := X.env) (fun x hx => I.ok.has x (S.fr _ hx rfl))
  rw [exec_Assign_Name_used _ _ _ _ hsw]
  refine wpAny_bind (wpAny_standAt (wpAny_bind ?_))
  show wpAny _ X.A (do let _ ← comprehension (.ListComp elt [⟨tg, iter, ifs, 0⟩] scope pos) scope X.env _ (newList []) false (eval iter X.env) (some (assign (.Name y py) X.env))) _ _ s
  refine wpAny_bind (wpAny_mono (wpAny_comprehension_free (use := some (assign (.Name y py) X.env)) (Q := fun _ s' => SP X pins D .next s') rfl hs e S.kind S.loc
    (thn (hi pins s σ H _ I h) fun v s1 h1 => thn h1 fun itv s2 h2 => ?_)) (fun _ s' hq => wpAny_pure (wpAny_pure hq)) fun _ _ e => e)
  obtain ⟨it, fp, tn, J, H2, e2, I2, T, st2, f2, hw⟩ := h2
  subst e2
  refine comp_run I2 hc S p1 p2 T st2 f2 hp hw (RR := fun acc C => compPost (model X.prog X.w) X.A X.xe (some (assign (.Name y py) X.env)) (fun _ s' => SP X pins D .next s') acc C) ?_
  intro a C acc H' s' m ha hfin hHa hn hC hHC I'
  have ltC : ∀ b, b < s2.heap.objs.size → b ≠ C := fun b hb => Nat.ne_of_lt (Nat.lt_of_lt_of_le hb hC)
  show wpAny _ X.A (assign (.Name y py) X.env (.ref a)) _ _ _
  refine wpAny_assign_Name (store_ok2 I' hN hiy (.inl hy) (v := .ref a) rfl (fun s'' I'' ⟨b, hsb, hb⟩ => ?_) (.inr hy))
  have hbC : b ≠ C := by
    rcases hb with hb | hb
    · rw [hb]; exact ltC _ I2.lt
    · obtain ⟨_, q⟩ := I2.cell y b hb
      exact ltC b q.lt
  refine ⟨m, hn.sameBut hsb (Ne.symm hbC), fun h' hs' => ⟨_, _, I''.turned (it := C) (t' := s''.toks) (fun b o hb e => (hs'.2 b hb).trans e) hHC (Ne.symm (ltC _ I2.lt)) (.inr (Nat.le_trans I2.sz hC))
    (fun x c e => let ⟨_, q⟩ := I2.cell x c e; ltC c q.lt) (fun p hp => ltC _ (Heap.lt_size (I2.pin p hp).1)), hfin a hHa⟩⟩
end
def Its (x : Str) : It := ⟨fun i _ => i < x.cps.size, fun i H y H' => H' = H ∧ ∃ c, x.cps[i]? = some c ∧ y = .str ⟨#[c]⟩, fun i _ => x.cps.size = i⟩
theorem turn_str {P : Program} {w : World} {K : PySem.W.Frag} {tg : Expr} (it : Addr) (x : Str) (t : Tok) (ty : String) (hn : ["enumerate", "zip", "dict_itemiterator", "dict_reverseitemiterator", "odict_iterator", "itertools.zip_longest", "itertools.pairwise"].contains ty = false)
    (hW : ∀ A' : Around, A'.handled = none → Walks P w A' it [it] [it] x.cps.size (SignAt x) (fun i h => h.IsStrIter it ty x t i))
    (hself : ∀ (A : Around) (i : Nat) (s : Shared) (Q : Value → Shared → Prop) (E : Value → Shared → Prop), s.heap.IsStrIter it ty x t i → Q (.ref it) s → wpAny (model P w) A (pyIter (.ref it)) Q E s) : Turn P w K tg (Its x) [it] it (fun i h => h.IsStrIter it ty x t i) where
  mem := by simp
  obj := fun i h st b hb => by
    have e : b = it := by simpa using hb
    subst e
    obtain ⟨o, e, c, d⟩ := st
    exact ⟨o, e, fun v z => by rw [d] at z; cases z⟩
  keep := fun i h h' st k => let ⟨o, e, r⟩ := st; ⟨o, k it (by simp) o e, r⟩
  item := by
    intro X hP hw hK hc i pins s σ H E I hf st hg
    subst hP hw hK
    obtain ⟨f0, f1, f2, f3, f4, f5⟩ := hf it (by simp)
    refine (hW X.A (I.ok.hd hc)).item i s _ _ hg st fun v h' tk hv st' kk => ?_
    obtain ⟨c, u, e1, e2⟩ := hv
    subst e2
    have I1 : Inv X pins σ H { s with heap := h', toks := tk } := I.turned (fun b o hb e => kk b o (by simpa using hb) e) f0 f1 f3 f4 f5
    obtain ⟨o, eo, c0, d0⟩ := id st'
    exact ⟨_, rfl, go_of (s := { s with heap := h', toks := tk }) eo c0 d0 hn ⟨.str ⟨#[c]⟩, H, I1, ⟨u, rfl⟩, ⟨rfl, c, e1, rfl⟩, st', fun b hb => (hf b hb).1⟩⟩
  done := by
    intro X hP hw hK hc i pins s σ H E I hf st hg
    subst hP hw hK
    obtain ⟨f0, f1, f2, f3, f4, f5⟩ := hf it (by simp)
    have hg : x.cps.size = i := hg
    refine (hW X.A (I.ok.hd hc)).done s _ _ (by rw [hg]; exact st) fun h' tk kk => ⟨rfl, I.turned (fun b o hb e => kk b o (by simpa using hb) e) f0 f1 f3 f4 f5⟩
  self := hself
inductive iStrI (R : (It → Hp → Prop)) (x : V) (H1 : Hp) : Prop
  | mk (z : _) (h1_ : x = .str z) (h2_ : R (Its z) H1) : iStrI R x H1
def iStr (tl : TE) : TI := fun σ H R => tl σ H fun x H1 => iStrI R x H1
theorem pi_str {X : Cx} {tg l : Expr} {tl : TE} (hl : PE X l tl) : PI X tg l (iStr tl) := by
  intro pins s σ H R I h
  refine thn (hl pins s σ H _ I h) fun v s1 ⟨x, H1, I1, r1, q1⟩ => ?_
  obtain ⟨z, e, q⟩ := q1
  subst e
  obtain ⟨t, rfl⟩ := r1
  have fin : ∀ (ty : String) (T : Turn X.prog X.w X.K tg (Its z) [s1.heap.objs.size] s1.heap.objs.size (fun i h => h.IsStrIter s1.heap.objs.size ty z t i)),
      PIE X pins σ tg R (.ref s1.heap.objs.size) { s1 with heap := s1.heap.push { cls := .type ty, data := .fields #[.str z t, .int 0 0] } } := fun ty T => by
    refine ⟨_, _, _, _, H1, rfl, I1.kept (t' := s1.toks) fun b o e => Heap.get?_push_of_some _ e, T, ⟨_, Heap.get?_push_size _ rfl, rfl, rfl⟩, fun b hb => ?_, q⟩
    have e : b = s1.heap.objs.size := by simpa using hb
    subst e
    exact I1.fpOk (Nat.le_refl _) (I1.hok.fresh (Nat.le_refl _))
  cases ha : z.cps.all (· < 128)
  · exact wpAny_pyIter_wide ha (fin _ (turn_str _ z t _ (by decide) (fun A' hA => Walks.strWide hA _ z t) fun A i s Q E st h => wpAny_pyIter_striter_wide st h))
  · exact wpAny_pyIter_ascii ha (fin _ (turn_str _ z t _ (by decide) (fun A' hA => Walks.strAscii hA _ z t) fun A i s Q E st h => wpAny_pyIter_striter_ascii st h))
section
variable {K : PySem.W.Frag} {k : Nat} {g : TG} {tt : TT} {te : TE} {σc : St} {fin : List V → Hp → Prop} {H : Hp}
theorem turns_of (J : It) (n : Nat) (Pv : Nat → List V → Hp → Prop) (h0 : Pv 0 [] H) (hlen : ∀ i acc H, Pv i acc H → acc.length ≤ i) (hn : n < sizeLine) (hgo : ∀ i acc H, i < n → Pv i acc H → J.go i H) (hst : ∀ acc H, Pv n acc H → J.stop n H)
    (hs : ∀ i acc H x H', i < n → Pv i acc H → J.yld i H x H' → g x σc H' fun σ2 H2 => σ2.drop k = σc.drop k ∧ tt σ2 H2 fun b H3 => if b = true then te σ2 H3 fun y H4 => Pv (i + 1) (acc ++ [y]) H4 else Pv (i + 1) acc H3)
    (hd : ∀ acc H, Pv n acc H → fin acc H) : tTurns k J g tt te σc fin H := by
  refine ⟨fun i m acc H => m = n - i ∧ i ≤ n ∧ Pv i acc H, ⟨n, by simp, Nat.zero_le _, h0⟩, ?_⟩
  rintro i m acc H ⟨rfl, hi, p⟩
  have hl := hlen i acc H p
  by_cases hlt : i < n
  · exact .inr ⟨hgo i acc H hlt p, by exact θo [_,_,_,_] (θ0+1) θ1 (θ0+(θ2+1+(θ3+1))) (θ2+(θ3+θ1)) rfl (θa hl (θa hlt hn)), Pv (i + 1), fun acc' H' p' => ⟨n - (i + 1), by exact θo [_,_,_,_] (θ0+1) θ1 (θ0+(θ2+1)+θ3) (θ3+(θ1+θ2)) rfl (θa (θr (θo [_,_] (θ0+1) θ1 (θ0+1) θ1 rfl hlt)) (θq _ _)), rfl, hlt, p'⟩, fun x H' y => hs i acc H x H' hlt p y⟩
  · have e : i = n := by exact Nat.le_antisymm (θo [_,_] θ0 θ1 θ0 θ1 rfl hi) (θo [_,_] θ0 θ1 θ0 θ1 rfl (θw hlt))
    subst e
    exact .inl ⟨hst acc H p, by exact θo [_,_,_] θ0 θ1 (θ0+(θ2+1)) (θ2+θ1) rfl (θa hl hn), hd acc H p⟩
theorem turns_list {a : Addr} {xs : List V} (Pv : Nat → List V → Hp → Prop) (h0 : Pv 0 [] H) (hlen : ∀ i acc H, Pv i acc H → acc.length ≤ i) (hn : xs.length < sizeLine) (hl : ∀ i acc H, Pv i acc H → SqL K H a xs)
    (hs : ∀ i acc H x, xs[i]? = some x → Pv i acc H → g x σc H fun σ2 H2 => σ2.drop k = σc.drop k ∧ tt σ2 H2 fun b H3 => if b = true then te σ2 H3 fun y H4 => Pv (i + 1) (acc ++ [y]) H4 else Pv (i + 1) acc H3)
    (hd : ∀ acc H, Pv xs.length acc H → fin acc H) : tTurns k (Itl K a) g tt te σc fin H := by
  refine turns_of _ xs.length Pv h0 hlen hn (fun i acc H hi p => ⟨xs, xs[i], hl i acc H p, by simp [hi]⟩) (fun acc H p => ⟨xs, hl _ acc H p, Nat.le_refl _⟩) (fun i acc H x H' hi p y => ?_) hd
  obtain ⟨e, y⟩ := y
  subst e
  exact hs i acc _ x (y xs (hl i acc _ p)) p
theorem turns_str {z : Str} (Pv : Nat → List V → Hp → Prop) (h0 : Pv 0 [] H) (hlen : ∀ i acc H, Pv i acc H → acc.length ≤ i) (hn : z.cps.size < sizeLine)
    (hs : ∀ i acc H c, z.cps[i]? = some c → Pv i acc H → g (.str ⟨#[c]⟩) σc H fun σ2 H2 => σ2.drop k = σc.drop k ∧ tt σ2 H2 fun b H3 => if b = true then te σ2 H3 fun y H4 => Pv (i + 1) (acc ++ [y]) H4 else Pv (i + 1) acc H3)
    (hd : ∀ acc H, Pv z.cps.size acc H → fin acc H) : tTurns k (Its z) g tt te σc fin H := by
  refine turns_of _ z.cps.size Pv h0 hlen hn (fun i acc H hi p => hi) (fun acc H p => rfl) (fun i acc H x H' hi p y => ?_) hd
  obtain ⟨e1, c, e2, e3⟩ := y
  subst e1 e3
  exact hs i acc _ c e2 p
end
end L2
namespace L2
open PySem PySem.Spec PyProof.Rows
abbrev Sx (w : List Nat) : Str := ⟨w.toArray⟩
theorem Sx_len (w : List Nat) : (Sx w).length = w.length := by simp [Sx, Str.length]
theorem Sx_cps (w : List Nat) : (Sx w).cps.toList = w := by simp [Sx]
theorem Sx_of (z : Str) : z = Sx z.cps.toList := by cases z; simp [Sx]
theorem Sx_inj {a b : List Nat} (h : Sx a = Sx b) : a = b := by
  have := congrArg (fun z => z.cps.toList) h
  simpa [Sx] using this
theorem Sx_app (a b : List Nat) : Sx a ++ Sx b = Sx (a ++ b) := by
  show (⟨a.toArray ++ b.toArray⟩ : Str) = ⟨(a ++ b).toArray⟩
  simp
section
variable {X : Cx}
def atW (w l : List Nat) (p : Nat) : Bool := (w.drop p).take l.length == l
theorem subAt_Sx (w l : List Nat) (p : Nat) : Builtin.Str.subAt (Sx w) (Sx l) p = atW w l p := by
  unfold Builtin.Str.subAt atW
  rw [Sx_len]
  show ((w.toArray.extract p (p + l.length)) == l.toArray) = _
  rw [Bool.eq_iff_iff, beq_iff_eq, beq_iff_eq]
  constructor
  · intro h
    have := congrArg Array.toList h
    simpa [List.extract_eq_drop_take] using this
  · intro h
    apply Array.ext'
    simpa [List.extract_eq_drop_take] using h
theorem strsAre_of : ∀ {ws : List (List Nat)} {us : List Value}, Vals (ws.map fun w => V.str (Sx w)) us → StrsAre us (ws.map Sx)
  | [], _, .nil => .nil
  | w :: ws, _, .cons r rr => by
    obtain ⟨t, rfl⟩ := r
    exact .cons (Sx w) t (strsAre_of rr)
theorem join_Sx : ∀ ws : List (List Nat), Txt.join (Sx []) (ws.map Sx) = Sx ws.flatten := by
  intro ws
  show Builtin.Str.glued _ _ = _
  rw [StrLaws.glued_eq_join]
  induction ws with
  | nil => rfl
  | cons w r ih =>
    cases r with
    | nil => simp [Str.join]
    | cons y r =>
      show Sx w ++ Sx [] ++ Str.join (Sx []) ((y :: r).map Sx) = _
      rw [ih, Sx_app, Sx_app]
      simp
inductive rJoin (K : PySem.W.Frag) (x : V) (vs : List V) (H : Hp) (Q : VK) : Prop
  | mk (p : Addr) (ws : List (List Nat)) (h1_ : x = .str (Sx [])) (h2_ : vs = [.ref p]) (h3_ : SqL K H p (ws.map fun w => V.str (Sx w))) (h4_ : (ws.map List.length).sum ≤ 16777216) (h5_ : Q (.str (Sx ws.flatten)) H) : rJoin K x vs H Q
theorem mt_join : MtR X "str.join" (rJoin X.K) := by
  intro pins s σ H x vs v us Q I rx rv h
  obtain ⟨p, ws, rfl, rfl, hl, hz, q⟩ := h
  obtain ⟨t, rfl⟩ := rx
  obtain ⟨u, rfl, ru⟩ := rv.one
  cases ru
  obtain ⟨its, r, pl, hz'⟩ := I.list hl
  refine join_list (ys := ws.map Sx) pl.isList (by simpa using strsAre_of r) ?_ fun t' k => ?_
  · rw [List.map_map, Sx_len]
    have e : (Str.length ∘ Sx) = List.length := by funext w; exact Sx_len w
    rw [e]
    simp
    exact hz
  · rw [join_Sx]
    exact ⟨.str (Sx ws.flatten), H, I.tok k, ⟨t', rfl⟩, q⟩
inductive rAddS (x : V) (y : V) (H : Hp) (Q : VK) : Prop
  | mk (a : _) (b : _) (h1_ : x = .str (Sx a)) (h2_ : y = .str (Sx b)) (h3_ : a.length + b.length ≤ sizeLine) (h4_ : Q (.str (Sx (a ++ b))) H) : rAddS x y H Q
theorem op_addS : OpR X (binaryOp .Add) rAddS := by
  intro pins s σ H x y v u Q I rx ry h
  obtain ⟨a, b, rfl, rfl, hz, q⟩ := h
  refine op_add_str pins s σ H _ _ v u Q I rx ry ⟨Sx a, Sx b, rfl, rfl, by rw [Sx_len, Sx_len]; exact hz, ?_⟩
  rw [Sx_app]
  exact q
inductive rLenS (xs : List V) (H : Hp) (Q : VK) : Prop
  | mk (w : _) (h1_ : xs = [.str (Sx w)]) (h2_ : w.length ≤ sizeLine) (h3_ : Q (.int w.length) H) : rLenS xs H Q
theorem call_lenS : CallR X (.builtin "len") rLenS := by
  intro pins s σ H xs us Q I r h
  obtain ⟨w, rfl, hz, q⟩ := h
  refine call_len_str pins s σ H _ us Q I r ⟨Sx w, rfl, by rw [Sx_len]; exact hz, ?_⟩
  rw [Sx_len]
  exact q
def rEqNil (K : PySem.W.Frag) (neg : Bool) : R2 := fun x y H Q => ∃ p q xs, x = .ref p ∧ y = .ref q ∧ SqL K H p xs ∧ SqL K H q [] ∧ Q (.bl (if neg then !xs.isEmpty else xs.isEmpty)) H
theorem op_eqNil (hu : X.A.units < cLine) : OpR X (compareOp .Eq) (rEqNil X.K false) := by
  intro pins s σ H x y v u Q I rx ry h
  obtain ⟨p, q, xs, rfl, rfl, h1, h2, k⟩ := h
  cases rx
  cases ry
  obtain ⟨its, r1, p1, _⟩ := I.list h1
  obtain ⟨its2, r2, p2, _⟩ := I.list h2
  cases r2
  cases r1 with
  | nil =>
    refine SeqAt.eq_listAt (e := fun _ => true) p1.isList p2.isList rfl hu (fun j h1 _ => absurd h1 (by simp)) ⟨.bl true, H, I, rfl, k⟩
  | cons r rr =>
    exact SeqAt.eq_list_lengthsAt p1.isList p2.isList (by simp) hu ⟨.bl false, H, I, rfl, k⟩
end
end L2
namespace L2
open PySem PySem.Spec PyProof.Rows
section
variable {X : Cx}
inductive rCatR (K : PySem.W.Frag) (x : V) (y : V) (H : Hp) (Q : VK) : Prop
  | mk (l : _) (b : _) (xs : _) (zs : _) (h1_ : x = .ref l) (h2_ : y = .ref b) (h3_ : SqL K H l xs) (h4_ : SqL K H b zs) (h5_ : xs.length + zs.length ≤ sizeLine) (h6_ : ∀ p, H p = none → Q (.ref p) (upd H p (.lst (xs ++ zs)))) : rCatR K x y H Q
theorem op_catR : OpR X (binaryOp .Add) (rCatR X.K) := by
  intro pins s σ H x y v u Q I rx ry h
  obtain ⟨l, b, xs, zs, rfl, rfl, hH, hB, hz, q⟩ := h
  cases rx
  cases ry
  obtain ⟨its, r1, p1, _⟩ := I.list hH
  obtain ⟨its2, r2, p2, _⟩ := I.list hB
  obtain ⟨⟨cls, dd, data, sl⟩, ho, hc, n, hd⟩ := id p1.isList
  obtain ⟨⟨cls2, dd2, data2, sl2⟩, ho2, hc2, n2, hd2⟩ := id p2.isList
  simp only at hc hd hc2 hd2
  subst hc hd hc2 hd2
  have fin : EP X pins σ Q (.ref s.heap.objs.size) { s with heap := s.heap.push { cls := .type "list", data := .seq (its ++ its2).toArray } } :=
    ⟨.ref _, _, I.lnew (t' := s.toks) (r1.append r2) (by rw [List.length_append]; omega), rfl, q _ I.fresh⟩
  have ea : its.toArray ++ its2.toArray = (its ++ its2).toArray := by simp
  rw [← ea] at fin
  refine concat_meets ⟨_, ho, rfl⟩ ⟨_, ho2, rfl⟩ noFill_list_add seq_list_add PySem.F.slot_list_add PySem.F.entry_list_add (PySem.F.args_list_add_2 _ _) (list_addW l b its.toArray its2.toArray n n2 dd dd2 sl sl2 (by rw [List.size_toArray, List.size_toArray, ← r1.length, ← r2.length]; exact hz)) ⟨ho, ho2, ?_⟩
  exact fin
theorem TyOf.kit {pins : List (Addr × Obj)} {σ : St} {H : Hp} {s : Shared} {x : V} {u t : Value} (I : Inv X pins σ H s) (rx : RelV x u) (ty : TyOf X.K H x t) :
    ∃ F : Heap → Prop, PySem.W.KitX X.K u t F ∧ F s.heap ∧ u ≠ .builtin "__main__.__loader__#opaque" := by
  cases ty with
  | non => cases (show u = Value.none from rx); exact ⟨_, PySem.W.kitx_none, True.intro, fun z => nomatch z⟩
  | bl y => cases (show u = Value.bool y from rx); exact ⟨_, PySem.W.kitx_bool, True.intro, fun z => nomatch z⟩
  | int i => obtain ⟨t, q⟩ := (show ∃ t, u = Value.int i t from rx); cases q; exact ⟨_, PySem.W.kitx_int, True.intro, fun z => nomatch z⟩
  | str y => obtain ⟨t, q⟩ := (show ∃ t, u = Value.str y t from rx); cases q; exact ⟨_, PySem.W.kitx_str, True.intro, fun z => nomatch z⟩
  | flt y => obtain ⟨t, q⟩ := (show ∃ t, u = Value.float y t from rx); cases q; exact ⟨_, PySem.W.kitx_float, True.intro, fun z => nomatch z⟩
  | @lst a xs ea =>
    cases (show u = Value.ref a from rx)
    obtain ⟨_, _, n, _, h1⟩ := (show ObjOk X.prog X.w H s.heap a (.lst xs) from I.hok a _ ea)
    exact ⟨_, PySem.W.kitx_list, ⟨_, h1, rfl⟩, fun z => nomatch z⟩
  | @frz a ob xs ea =>
    cases (show u = Value.ref a from rx)
    obtain ⟨_, _, _, n, _, h1⟩ := (show ObjOk X.prog X.w H s.heap a (.frz ob (.lst xs)) from I.hok a _ ea)
    exact ⟨_, PySem.W.kitx_list, ⟨_, h1, rfl⟩, fun z => nomatch z⟩
  | @tup a xs ea =>
    cases (show u = Value.ref a from rx)
    obtain ⟨_, _, _, p⟩ := (show ObjOk X.prog X.w H s.heap a (.tup xs) from I.hok a _ ea)
    obtain ⟨o, h1, h2, _⟩ := p
    exact ⟨_, PySem.W.kitx_tuple, ⟨o, h1, h2⟩, fun z => nomatch z⟩
  | @dK a kvs ea =>
    cases (show u = Value.ref a from rx)
    obtain ⟨_, _, vs, _, p⟩ := (show ObjOk X.prog X.w H s.heap a (.dK kvs) from I.hok a _ ea)
    obtain ⟨o, es, ep, h1, h2, _⟩ := p
    exact ⟨_, PySem.W.kitx_dict, ⟨o, h1, h2.1⟩, fun z => nomatch z⟩
  | @dT a kvs ea =>
    cases (show u = Value.ref a from rx)
    obtain ⟨_, _, xs, _, o, es, ep, h1, h2, _⟩ := (show ObjOk X.prog X.w H s.heap a (.dT kvs) from I.hok a _ ea)
    exact ⟨_, PySem.W.kitx_dict, ⟨o, h1, h2.1⟩, fun z => nomatch z⟩
  | @ins a C dx fs ea cl ha hn htk hm =>
    cases (show u = Value.ref a from rx)
    obtain ⟨mA, O, _⟩ := ins_get I.hok ea
    obtain ⟨od, J, _⟩ := O.look
    exact ⟨_, PySem.W.kitx_own (cl.get _) cl.hd ha hn htk hm, J, fun z => nomatch z⟩
inductive rIsi (K : PySem.W.Frag) (xs : List V) (H : Hp) (Q : VK) : Prop
  | mk (x : _) (T : _) (t : _) (b : _) (h1_ : xs = [x, .ty T]) (h2_ : TyOf K H x t) (h3_ : PySem.W.kitOne K t (.type T) = some b) (h4_ : Q (.bl b) H) : rIsi K xs H Q
theorem call_isi : CallR X (.builtin "isinstance") (rIsi X.K) := by
  intro pins s σ H xs us Q I r h
  obtain ⟨x, T, t, b, rfl, ty, e, q⟩ := h
  obtain ⟨u, u2, rfl, r1, r2⟩ := r.two
  cases r2
  obtain ⟨F, Z, p, hx⟩ := ty.kit I r1
  exact PySem.W.kia_one Z I.kIn p e hx fun tk => ⟨.bl b, H, I.tok tk, rfl, q⟩
end
section
variable {prog : Program} {w : World} {A : Around} {R : Result → Shared → Prop} {I : Addr} {fp wr : List Addr} {n : Nat} {P : Nat → Value → Prop} {St : Nat → Heap → Prop} {kw : List (Str × Value)}
end
section
variable {X : Cx}
end
end L2
namespace L2
open PySem PySem.Spec PyProof.Rows
def ltV : V → V → Bool
  | .int a, .int b => decide (a < b)
  | .str a, .str b => decide (a.cps.toList < b.cps.toList)
  | _, _ => false
def kindV : V → V → Bool
  | .int _, .int _ => true
  | .str _, .str _ => true
  | _, _ => false
def kindsV : List V → List V → Bool
  | x :: xs, y :: ys => kindV x y && kindsV xs ys
  | _, _ => true
def lexV : List V → List V → Bool
  | [], [] => false
  | [], _ :: _ => true
  | _ :: _, [] => false
  | x :: xs, y :: ys => if x = y then lexV xs ys else ltV x y
theorem lexV_cons (x y : V) (xs ys : List V) : lexV (x :: xs) (y :: ys) = if x = y then lexV xs ys else ltV x y := rfl
theorem kind_eq (A : Around) (s : Shared) {x y : V} {u v : Value} (rx : RelV x u) (ry : RelV y v) (h : kindV x y = true) : ∃ e, SeqAt.EqAt A s u v e ∧ (e = true ↔ x = y) := by
  cases x <;> cases y <;> first | (cases (show false = true from h); done) | skip
  · rename_i a b
    obtain ⟨t, rfl⟩ := rx
    obtain ⟨t', rfl⟩ := ry
    exact ⟨(a == b), SeqAt.EqAt.int_int a t b t', by simp⟩
  · rename_i a b
    obtain ⟨t, rfl⟩ := rx
    obtain ⟨t', rfl⟩ := ry
    exact ⟨(a == b), SeqAt.EqAt.str_str a t b t', by simp⟩
theorem kind_lt (A : Around) (s : Shared) {x y : V} {u v : Value} (rx : RelV x u) (ry : RelV y v) (h : kindV x y = true) (prog : Program) (w : World) (E : Value → Shared → Prop) (Q : Value → Shared → Prop) (q : Q (.bool (ltV x y)) s) :
    wpAny (model prog w) A (richCompare .Lt u v) Q E s := by
  cases x <;> cases y <;> first | (cases (show false = true from h); done) | skip
  · obtain ⟨t, rfl⟩ := rx
    obtain ⟨t', rfl⟩ := ry
    exact (PyProof.Rows.lt_int q : wpAny (model prog w) A (compareOp .Lt _ _) Q E s)
  · rename_i a b
    obtain ⟨t, rfl⟩ := rx
    obtain ⟨t', rfl⟩ := ry
    exact richCompare_gives (op := .Lt) (typeIs_str s a t) (typeIs_str s b t') PySem.F.slot_str_lt PySem.F.entry_str_lt (PySem.F.args_str_lt_2 _ _) (gives_str_lt a b t t') (fun x => nomatch x) q
section
open PySem.SeqAt
open PySem.AutoSeq1 (wpAny_loadPart')
open PySem.MeetsSeq PySem.MeetsSeq2 PySem.MeetsSeq3
theorem tuple_lt_flat (l b : Addr) (items items2 : Array Value) (n n2 : Nat) (dd dd2 : Option Addr) (sl sl2 : Array (Option Value)) (ns ms : List V) (hi : Vals ns items.toList) (hj : Vals ms items2.toList) (hk : kindsV ns ms = true) :
    Meets (Builtin.«tuple.__lt__» ⟨[.ref l, .ref b], []⟩)
      (fun _ R s => s.heap.get? l = some { cls := .type "tuple", dict := dd, data := .seq items n, slots := sl } ∧ s.heap.get? b = some { cls := .type "tuple", dict := dd2, data := .seq items2 n2, slots := sl2 } ∧
        R (.ok (.ret (.bool (lexV ns ms)))) s) :=
  .of_wp fun prog w A R s h => by
    obtain ⟨hp, g, d, tk, os⟩ := s; obtain ⟨hl, hb, h⟩ := h
    have f2 := AutoSeq1.sub_tuple_tuple
    have z1 : items.size = ns.length := by rw [hi.length]; simp
    have z2 : items2.size = ms.length := by rw [hj.length]; simp
    wp_walk using wpAny_loadPart' hl, wpAny_loadPart' hb, wpAny_forIn_list _ (fun rest b s' => b.1 = none ∧ s' = ⟨hp, g, d, tk, os⟩ ∧ ∃ (vs ws : List Value) (ns' ms' : List V), rest = vs.zip ws ∧
      Vals ns' vs ∧ Vals ms' ws ∧ kindsV ns' ms' = true ∧ ns'.length + items2.size = ms'.length + items.size ∧ R (.ok (.ret (.bool (lexV ns' ms')))) ⟨hp, g, d, tk, os⟩) _
    case turn =>
      rintro ⟨y, x⟩ rest b s' ⟨hb', rfl, vs, ws, ns', ms', hz, hvi, hwi, hkk, hlen, hR⟩
      cases hvi with
      | nil => rw [List.zip_nil_left] at hz; cases hz
      | cons ra hvi' =>
        cases hwi with
        | nil => rw [List.zip_nil_right] at hz; cases hz
        | cons rc hwi' =>
          rw [List.zip_cons_cons] at hz
          injection hz with hyx hrest
          injection hyx with hy hx
          subst hy hx
          rw [lexV_cons] at hR
          have hkk' := Bool.and_eq_true_iff.mp hkk
          simp only [List.length_cons] at hlen
          obtain ⟨e, he, hiff⟩ := kind_eq A.in1 ⟨hp, g, d, tk, os⟩ ra rc hkk'.1
          refine wpAny_bind (he prog w _ _ ?_)
          cases e with
          | true =>
            rw [if_pos (hiff.mp rfl)] at hR
            wp_walk
            exact ⟨rfl, rfl, _, _, _, _, hrest, hvi', hwi', hkk'.2, by exact Nat.le_antisymm (θo [_,_,_,_] (θ0+θ1) (θ2+θ3) (θ0+1+θ1) (θ2+1+θ3) rfl (θe hlen)) (θo [_,_,_,_] (θ0+θ1) (θ2+θ3) (θ0+1+θ1) (θ2+1+θ3) rfl (θs hlen)), hR⟩
          | false =>
            rw [if_neg (fun q => absurd (hiff.mpr q) Bool.false_ne_true)] at hR
            have hri := kind_lt A.in1 ⟨hp, g, d, tk, os⟩ ra rc hkk'.1 prog w
            wp_walk using hri
            exact ⟨_, rfl, by simpa using hR⟩
    case fin =>
      rintro ⟨b1, b2⟩ s' ⟨hb', rfl, vs, ws, ns', ms', hz, hvi, hwi, hkk, hlen, hR⟩
      simp only at hb'
      subst hb'
      have hv : lexV ns' ms' = decide (items.size < items2.size) := by
        cases hvi with
        | nil =>
          cases hwi with
          | nil =>
            simp only [List.length_nil] at hlen
            exact (decide_eq_false (by exact Nat.not_lt_of_le (θo [_,_] θ0 θ1 (0+θ0) (0+θ1) rfl (θe hlen)))).symm
          | cons _ hw =>
            simp only [List.length_nil, List.length_cons] at hlen
            exact (decide_eq_true (by exact θo [_,_,_] (θ0+1) θ1 (θ2+1+θ0) (0+θ1) rfl (θs hlen))).symm
        | cons _ hv =>
          cases hwi with
          | nil =>
            simp only [List.length_nil, List.length_cons] at hlen
            exact (decide_eq_false (by exact Nat.not_lt_of_le (θo [_,_,_] θ0 θ1 (θ2+1+θ0) (0+θ1) rfl (θe hlen)))).symm
          | cons _ hw =>
            rw [List.zip_cons_cons] at hz
            cases hz
      rw [hv] at hR
      wp_walk
      exact ⟨_, rfl, by simpa [Builtin.Tuple.tupleCompareSizes] using hR⟩
    case h =>
      exact ⟨rfl, rfl, items.toList, items2.toList, ns, ms, rfl, hi, hj, hk, by exact Nat.le_antisymm (θo [_,_,_,_] (θ0+θ1) (θ2+θ3) (θ0+θ1) (θ3+θ2) rfl (θa (θs z1) (θe z2))) (θo [_,_,_,_] (θ0+θ1) (θ2+θ3) (θ0+θ1) (θ3+θ2) rfl (θa (θs z2) (θe z1))), h⟩
end
section
variable {X : Cx}
inductive rLtF (K : PySem.W.Frag) (x : V) (y : V) (H : Hp) (Q : VK) : Prop
  | mk (a : _) (b : _) (xs : _) (ys : _) (h1_ : x = .ref a) (h2_ : y = .ref b) (h3_ : SqT K H a xs) (h4_ : SqT K H b ys) (h5_ : kindsV xs ys = true) (h6_ : Q (.bl (lexV xs ys)) H) : rLtF K x y H Q
theorem op_ltF (hu : X.A.units < cLine) : OpR X (compareOp .Lt) (rLtF X.K) := by
  intro pins s σ H x y v u Q I rx ry h
  obtain ⟨a, b, xs, ys, rfl, rfl, ha, hb, hk, q⟩ := h
  cases rx
  cases ry
  obtain ⟨its, r1, p1, _⟩ := I.tuple ha
  obtain ⟨its2, r2, p2, _⟩ := I.tuple hb
  obtain ⟨⟨cls, dd, data, sl⟩, ho, hc, n, hd⟩ := id p1
  obtain ⟨⟨cls2, dd2, data2, sl2⟩, ho2, hc2, n2, hd2⟩ := id p2
  simp only at hc hd hc2 hd2
  subst hc hd hc2 hd2
  have fin : EP X pins σ Q (.bool (lexV xs ys)) s := ⟨.bl (lexV xs ys), H, I, rfl, q⟩
  exact richCompare_meets_room (op := .Lt) ⟨_, ho, rfl⟩ ⟨_, ho2, rfl⟩ PySem.F.slot_tuple_lt PySem.F.entry_tuple_lt (PySem.F.args_tuple_lt_2 _ _) (tuple_lt_flat a b its.toArray its2.toArray n n2 dd dd2 sl sl2 xs ys r1 r2 hk)
    ⟨ho, ho2, show Value.bool (lexV xs ys) ≠ Value.notImplemented ∧ _ from ⟨(fun x => nomatch x), fin⟩⟩ hu
end
section
variable {P : Program} {w : World} {K : PySem.W.Frag} {mg : Str → Option Value} {base : Heap}
def Dfn (K : PySem.W.Frag) (mg : Str → Option Value) (x : Str) (st : Stmt) (ps : List Str) : Prop := ∃ (f : Addr) (fd : FuncData), mg x = some (.ref f) ∧ Binds K fd ps [] ∧ Fun K x x st f fd
def Ok (P : Program) (w : World) (K : PySem.W.Frag) (mg : Str → Option Value) (base : Heap) (x : Str) (ps : List Str) (k : Nat) (sp : Sp) : Prop :=
  ∃ (f : Addr) (fd : FuncData), mg x = some (.ref f) ∧ PySem.W.keepIn K (.ref f) = true ∧ Binds K fd ps [] ∧ FnOk P w K mg base CX0 k f fd ps sp
theorem Dfn.ok {x : Str} {st : Stmt} {N ps : List Str} {k : Nat} {sp : Sp} (D : Dfn K mg x st ps) (S : FnScope N ps (defScope st)) (len : ∀ vs H Q E, sp vs H Q E → vs.length = ps.length)
    (hbody : ∀ (f : Addr) (cdv : Value) (A : Around) (outer : List Env) (s : Shared) (H : Hp) (vs : List V) (Q : VK) (E : XK), Room k (A.deeper (envOfC x (defScope st) s.heap.objs.size f cdv)) → sp vs H Q E →
      ∃ t, PSs (cxOf CX0 P w K mg base N x (defScope st) f cdv A outer s H E).nox (defBody st) t ∧ t { nx := fun _ H' => Q .non H', rt := Q } (start N vs) H) : Ok P w K mg base x ps (k + 1) sp := by
  obtain ⟨f, fd, hm, hb, F⟩ := D
  exact ⟨f, fd, hm, F.kp, hb, F.ok S len (hbody f)⟩
theorem Ok.mono {x : Str} {ps : List Str} {j k : Nat} {sp : Sp} (O : Ok P w K mg base x ps j sp) (h : j ≤ k) : Ok P w K mg base x ps k sp := by
  obtain ⟨f, fd, hm, hk, hb, F⟩ := O
  exact ⟨f, fd, hm, hk, hb, F.mono h⟩
end
theorem pe_fn {X : Cx} {x : Str} {ps : List Str} {k : Nat} {sp : Sp} {e : Expr} {es : List Expr} {t : TA} {p pos : Pos} (O : Ok X.prog X.w X.K X.mg X.base x ps k sp) (hr : Room k X.A) (hg : Gl X x) (ha : PA X (e :: es) t)
    (hdb : (x == ("__debug__" : Str)) = false := by decide) (he : starEach (e :: es) X.env = (false, eval e X.env) :: starEach es X.env := by rfl) (hpl : (backTo pos (starEach es X.env)).any (·.1) = false := by rfl) :
    PE X (.Call (.Name x p) (e :: es) [] pos) (tCall sp [] E0 t) := by
  obtain ⟨f, fd, hm, hk, hb, F⟩ := O
  exact pe_call F hr hg hm hk hb .nil pass0 ha hdb he hpl
structure Blt (mg : Str → Option Value) : Prop where
  len : mg "len" = none
  rng : mg "range" = none
  enm : mg "enumerate" = none
  mx : mg "max" = none
  it : mg "int" = none
  isi : mg "isinstance" = none
  lst : mg "list" = none
  tup : mg "tuple" = none
  str : mg "str" = none
  bol : mg "bool" = none
theorem same_new {H : Hp} {p : Addr} (h : H p = none) (o : HO) : Same H (upd H p o) := fun b u q => by rw [upd_ne (ne_of_none q h)]; exact q
theorem Same.own {H0 H : Hp} {l : Addr} (s : Same H0 H) (h : H0 l = none) (o : HO) : Same H0 (upd H l o) := fun b u q => by rw [upd_ne (ne_of_none q h)]; exact s b u q
theorem noTest {σ : St} {H : Hp} {F G : Hp → Prop} (h : F H) : tNoTest σ H fun b H3 => if b = true then F H3 else G H3 := by
  show if true = true then F H else G H
  rw [if_pos rfl]
  exact h
def allStr : List Expr → Option (List Str)
  | [] => some []
  | .Constant (.str x) _ _ :: r => (allStr r).map (x :: ·)
  | _ => none
theorem pa_strs {X : Cx} : ∀ {es : List Expr} {zs : List Str}, allStr es = some zs → PA X es (fun _ H Q => Q (zs.map V.str) H)
  | [], zs, h => by
    cases h
    exact fun pos pins s σ H Q I q => pa_nil pos pins s σ H Q I q
  | e :: r, zs, h => by
    unfold allStr at h
    split at h
    · rename_i h'; cases h'
    · rename_i x k p r' h'
      cases h'
      cases e' : allStr r with
      | none => rw [e'] at h; cases h
      | some zr =>
        rw [e'] at h
        cases h
        exact fun pos pins s σ H Q I q => pa_cons pe_str (pa_strs e') rfl pos pins s σ H Q I q
    · cases h
def retE : List Stmt → Expr
  | [.Return (some e) _] => e
  | _ => .Constant .none 0 ⟨0, 0, 0, 0⟩
def argE : Expr → Nat → Expr
  | .Call _ as _ _, i => as.getD i (.Constant .none 0 ⟨0, 0, 0, 0⟩)
  | _, _ => .Constant .none 0 ⟨0, 0, 0, 0⟩
def asgE : List Stmt → Nat → Expr
  | b, i => match b.getD i (.Pass ⟨0, 0, 0, 0⟩) with
    | .Assign _ e _ => e
    | _ => .Constant .none 0 ⟨0, 0, 0, 0⟩
def compSc : Expr → Scope
  | .ListComp _ _ sc _ => sc
  | _ => { kind := .function, names := [], isGenerator := false, isCoroutine := false }
end L2
namespace L2
open PySem PySem.Spec PyProof.Rows
theorem HOk.at {P : Program} {w : World} {H : Hp} {h : Heap} (x : HOk P w H h) {a : Addr} {o : HO} (e : H a = some o) : ∃ ob, h.get? a = some ob := by
  have q := x a o e
  clear e
  cases o with
  | lst xs => obtain ⟨_, _, _, _, e⟩ := q; exact ⟨_, e⟩
  | tup xs => obtain ⟨_, _, _, o, e, _⟩ := q; exact ⟨_, e⟩
  | dK kvs => obtain ⟨_, _, _, _, o, _, _, e, _⟩ := q; exact ⟨_, e⟩
  | dT kvs => obtain ⟨_, _, _, _, o, _, _, e, _⟩ := q; exact ⟨_, e⟩
  | set S n => obtain ⟨o, _, _, _, e, _⟩ := q; exact ⟨_, e⟩
  | ins C dx fs => obtain ⟨_, _, _, e, _⟩ := q; exact ⟨_, e⟩
  | own y => obtain ⟨_, e⟩ := q; exact ⟨_, e⟩
  | xd fs => obtain ⟨_, ⟨_, _, _, e, _⟩, _⟩ := q; exact ⟨_, e⟩
  | rng lo hi => obtain ⟨_, _, _, e⟩ := q; exact ⟨_, e⟩
  | frz ob u => obtain ⟨e, _⟩ := q; exact ⟨_, e⟩
  | tbl ps => exact ⟨_, (show h.get? a = some _ from q)⟩
  | met f y => exact ⟨_, (show h.get? a = some _ from q)⟩
  | ext φ => obtain ⟨_, ⟨_, e⟩, _⟩ := q; exact ⟨_, e⟩
structure Off (X : Cx) (pins : List (Addr × Obj)) (H : Hp) (b : Addr) : Prop where
  old : X.s₀.heap.get? b = none
  free : H b = none
  loc : b ≠ X.env.locals
  cell : ∀ y c, X.env.cells.lookup y = some c → c ≠ b
  pin : ∀ p ∈ X.pn ++ pins, p.1 ≠ b
  frs : b ∉ frs X.stack
section
variable {X : Cx} {pins : List (Addr × Obj)} {σ : St} {H H' : Hp} {s s' : Shared} {h' : Heap}
theorem Inv.offs (I : Inv X pins σ H s) {b : Addr} (e : s.heap.get? b = none) (hx : X.ex = []) (hf : H' b = none) : Off X pins H' b where
  old := by
    cases q : X.s₀.heap.get? b with
    | none => rfl
    | some o =>
      obtain ⟨_, z⟩ := I.base.there b o q (by rw [hx]; simp)
      rw [e] at z; cases z
  free := hf
  loc := fun z => by
    obtain ⟨m, ⟨o, _, _, ho, _⟩, _⟩ := I.loc
    rw [← z, e] at ho; cases ho
  cell := fun y c hc z => by
    obtain ⟨v, o, ho, _⟩ := I.cell y c hc
    rw [z, e] at ho; cases ho
  pin := fun p hp z => by
    have q := (I.pin p hp).1
    rw [z, e] at q; cases q
  frs := fun hb => by
    obtain ⟨_, o, ho, _⟩ := I.stack.mem hb
    rw [e] at ho; cases ho
end
def Tr (h : Heap) (x C T : Addr) : Prop :=
  ∃ oe vs oT ts a0, h.get? x = some oe ∧ (oe.cls = .ref C ∧ vs[0]? = some a0) ∧ oe.data = .fields vs ∧ vs[1]? = some (.ref T) ∧ T ≠ x ∧ h.get? T = some oT ∧ oT.data = .fields ts ∧ ts[3]? = some .none
def CXe (P : Program) (w : World) : CXT := fun outer H s E e s' => ∃ x C T H', e = .ref x ∧ s'.os = s.os ∧ AllBare s'.gens ∧ Un (frs outer) [] H H' s.heap s'.heap ∧ HOk P w H' s'.heap ∧
  Tr s'.heap x C T ∧ s.heap.get? x = none ∧ s.heap.get? T = none ∧ H' x = none ∧ H' T = none ∧ E (.ref C) none H'
section
variable {K : PySem.W.Frag} {h : Heap} {C : Addr} {bmB : List Value} {newId : String}
end
end L2
namespace L2
open PySem PySem.Spec PyProof.Rows
section
variable {M : Model} {A : Around} {E : Value → Shared → Prop} {h : Heap} {g : Array GenState} {d : Drawn} {t : Nat} {os : OsState} {K : PySem.W.Frag} {C D x : Addr} {oe : Obj} {bmB bmD : List Value} {newId newD : String}
end
section
variable {prog : Program} {w : World} {A : Around} {E : Value → Shared → Prop} {h : Heap} {g : Array GenState} {d : Drawn} {t : Nat} {os : OsState} {K : PySem.W.Frag} {C x : Addr} {oe : Obj}
end
end L2
namespace L2
open PySem PySem.Spec PyProof.Rows
theorem pss_imp {X : Cx} {st : List Stmt} {t t' : TS} (h : PSs X st t) (k : ∀ D σ H, t' D σ H → t D σ H) : PSs X st t' := fun pins s σ H D I q => h pins s σ H D I (k D σ H q)
def XP (X : Cx) (pins : List (Addr × Obj)) (σ : St) (E : XK) (e : Value) (s' : Shared) : Prop :=
  ∃ x C T H', e = .ref x ∧ Inv X pins σ H' s' ∧ Tr s'.heap x C T ∧ Off X pins H' x ∧ Off X pins H' T ∧ E (.ref C) none H'
section
variable {X : Cx} {pins : List (Addr × Obj)} {σ : St} {H : Hp} {s s' : Shared}
theorem XP.of {E : XK} {e : Value} (I : Inv X pins σ H s) (hex : X.ex = []) (h : CXe X.prog X.w X.stack H s E e s') : XP X pins σ E e s' := by
  obtain ⟨x, C, T, H', rfl, os, bare, un, hok, tr, nx, nT, fx, fT, q⟩ := h
  exact ⟨x, C, T, H', rfl, I.call' os un hok bare (fun b z => absurd z (by simp)), tr, I.offs nx hex fx, I.offs nT hex fT, q⟩
variable {k : Nat} {f : Addr} {fd : FuncData} {ps : List Str} {sp : Sp} {x : Str} {p pos : Pos} {e : Expr} {es : List Expr} {t : TA}
end
section
variable {X : Cx} {pins : List (Addr × Obj)} {σ : St} {H : Hp} {s : Shared} {x : Addr} {oe : Obj}
end
section
variable {X : Cx} {pins : List (Addr × Obj)} {σ : St} {H : Hp} {s : Shared} {x C T Dc : Addr} {cx : Str} {cp hp pos : Pos} {b₀ : Stmt} {suite : List Stmt} {E : Value → Shared → Prop} {bmB bmD : List Value} {newId newD : String}
end
section
variable {X : Cx} {x C : Addr} {oe : Obj}
end
end L2
namespace L2
open PySem PySem.Spec PyProof.Rows
theorem bools_of : ∀ {bs : List Bool} {its : List Value}, Vals (bs.map V.bl) its → LSm.BoolsAre its bs
  | [], _, .nil => .nil
  | b :: bs, _, .cons r t => by
    cases r
    exact .cons b (bools_of t)
inductive rAll (K : PySem.W.Frag) (xs : List V) (H : Hp) (Q : VK) : Prop
  | mk (p : Addr) (bs : List Bool) (h1_ : xs = [.ref p]) (h2_ : SqL K H p (bs.map V.bl)) (h3_ : Q (.bl (bs.all id)) H) : rAll K xs H Q
inductive rAny (K : PySem.W.Frag) (xs : List V) (H : Hp) (Q : VK) : Prop
  | mk (p : Addr) (bs : List Bool) (h1_ : xs = [.ref p]) (h2_ : SqL K H p (bs.map V.bl)) (h3_ : Q (.bl (bs.any id)) H) : rAny K xs H Q
theorem pushed_kept {h h' : Heap} {o : Obj} (hk : ∀ b x, b ∉ [h.objs.size] → (h.push o).get? b = some x → h'.get? b = some x) : ∀ b x, h.get? b = some x → h'.get? b = some x := fun b x e =>
  hk b x (fun z => Nat.lt_irrefl _ (by have := Heap.lt_size e; rw [List.mem_singleton.mp z] at this; exact this)) (Heap.get?_push_of_some _ e)
theorem call_all {X : Cx} (hc : X.calm = true) : CallR X (.builtin "all") (rAll X.K) := by
  intro pins s σ H xs us Q I r q
  obtain ⟨p, bs, rfl, hl, q⟩ := q
  obtain ⟨u, rfl, ru⟩ := vals1 r
  cases ru
  obtain ⟨its, rv, pl, hz⟩ := I.list hl
  have hb := bools_of rv
  have hil := pl.isList
  have hlt : p < s.heap.objs.size := let ⟨_, e, _⟩ := hil; Heap.lt_size e
  refine call_all_walk (wpAny_pyIter_list hil ⟨s.heap.objs.size, [s.heap.objs.size, p], [s.heap.objs.size], its.toArray.size, _, _, fun i => (bs[i]?).getD true, rfl,
    Walks.list (A := X.A.in1) (I.ok.hd hc) _ p (Nat.ne_of_lt hlt) its.toArray, ⟨⟨_, Heap.get?_push_size _ rfl, rfl, rfl⟩, hil.push _⟩, fun i v s' Q' E' hP hQ => ?_, fun h' tk hk => ?_⟩)
  · obtain ⟨b, e, rfl⟩ := hb.get i v (by simpa using hP)
    simp only [e, Option.getD_some] at hQ
    exact wpAny_truthy_bool hQ
  · have e : ((List.range its.toArray.size).all fun i => (bs[i]?).getD true) = bs.all id := by
      rw [List.size_toArray, hb.length]
      exact LSm.range_all bs
    rw [e]
    exact ⟨.bl _, H, I.kept (t' := tk) (pushed_kept hk), rfl, q⟩
theorem call_any {X : Cx} (hc : X.calm = true) : CallR X (.builtin "any") (rAny X.K) := by
  intro pins s σ H xs us Q I r q
  obtain ⟨p, bs, rfl, hl, q⟩ := q
  obtain ⟨u, rfl, ru⟩ := vals1 r
  cases ru
  obtain ⟨its, rv, pl, hz⟩ := I.list hl
  have hb := bools_of rv
  have hil := pl.isList
  have hlt : p < s.heap.objs.size := let ⟨_, e, _⟩ := hil; Heap.lt_size e
  refine call_any_walk (wpAny_pyIter_list hil ⟨s.heap.objs.size, [s.heap.objs.size, p], [s.heap.objs.size], its.toArray.size, _, _, fun i => (bs[i]?).getD false, rfl,
    Walks.list (A := X.A.in1) (I.ok.hd hc) _ p (Nat.ne_of_lt hlt) its.toArray, ⟨⟨_, Heap.get?_push_size _ rfl, rfl, rfl⟩, hil.push _⟩, fun i v s' Q' E' hP hQ => ?_, fun h' tk hk => ?_⟩)
  · obtain ⟨b, e, rfl⟩ := hb.get i v (by simpa using hP)
    simp only [e, Option.getD_some] at hQ
    exact wpAny_truthy_bool hQ
  · have e : ((List.range its.toArray.size).any fun i => (bs[i]?).getD false) = bs.any id := by
      rw [List.size_toArray, hb.length]
      exact LSm.range_any bs
    rw [e]
    exact ⟨.bl _, H, I.kept (t' := tk) (pushed_kept hk), rfl, q⟩
end L2
namespace L2
open PySem PySem.Spec PyProof.Rows
section
variable {X : Cx}
theorem for_str {z : Str} {g : TG} {tb : TS} {D : Ends} {σ : St} {H : Hp} (Pv : Nat → St → Hp → Prop) (h0 : Pv 0 σ H)
    (hs : ∀ i c σ H, z.cps[i]? = some c → Pv i σ H → g (.str ⟨#[c]⟩) σ H fun σ2 H2 => tb { D with nx := Pv (i + 1), ct := Pv (i + 1), bk := D.nx } σ2 H2) (hd : ∀ σ H, Pv z.cps.size σ H → D.nx σ H) :
    ∃ W : Nat → Nat → St → Hp → Prop, (∃ m, W 0 m σ H) ∧ ∀ i m σ H, W i m σ H →
      ((Its z).stop i H ∧ D.nx σ H) ∨ ((Its z).go i H ∧ ∃ N : St → Hp → Prop, (∀ σ' H', N σ' H' → ∃ m', m' < m ∧ W (i + 1) m' σ' H') ∧ ∀ x H', (Its z).yld i H x H' → g x σ H' fun σ2 H2 => tb { D with nx := N, ct := N, bk := D.nx } σ2 H2) := by
  refine ⟨fun i m σ H => m = z.cps.size - i ∧ i ≤ z.cps.size ∧ Pv i σ H, ⟨z.cps.size, by simp, Nat.zero_le _, h0⟩, ?_⟩
  rintro i m σ H ⟨rfl, hi, p⟩
  by_cases hlt : i < z.cps.size
  · refine .inr ⟨hlt, Pv (i + 1), fun σ' H' p' => ⟨z.cps.size - (i + 1), by lia, rfl, hlt, p'⟩, fun x H' y => ?_⟩
    obtain ⟨e1, c, e2, e3⟩ := y
    subst e1 e3
    exact hs i c σ _ e2 p
  · have e : i = z.cps.size := by lia
    subst e
    exact .inl ⟨rfl, hd σ H p⟩
end
end L2
namespace L2
open PySem PySem.Spec PyProof.Rows
structure Sgn (P : Program) (w : World) (cs : List Nat) (m : Nat) (es : Array (Int × Value)) (t : SetTable) : Prop where
  el : ElemsOf (PySem.strKind P w) es.toList
  ft : t.fits es.size = true
  np : es.size = 0 ∨ t.plain = false
  le : es.size ≤ m
  one : ∀ e ∈ es.toList, ∃ c u, e.2 = .str ⟨#[c]⟩ u
  has : ∀ c ∈ cs, ∃ e ∈ es.toList, ∃ u, e.2 = .str ⟨#[c]⟩ u
def SetAt (P : Program) (w : World) (a : Addr) (cs : List Nat) (m : Nat) (h : Heap) : Prop := ∃ es ep t, h.get? a = some { cls := .type "set", dict := none, data := .set es ep t } ∧ Sgn P w cs m es t
theorem SetAt.same {P : Program} {w : World} {a : Addr} {cs : List Nat} {m : Nat} {h h' : Heap} (x : SetAt P w a cs m h) (k : ∀ o, h.get? a = some o → h'.get? a = some o) : SetAt P w a cs m h' :=
  let ⟨es, ep, t, e, r⟩ := x; ⟨es, ep, t, k _ e, r⟩
theorem lay_plain {t : SetTable} (es : Array (Int × Value)) (h : Int) (x : Value) (e : t.plain = false) : (layNew t es h x).2.1.plain = false := by
  unfold layNew
  split
  · rename_i sl wd _
    dsimp only
    unfold SetTable.orStandIn
    split
    · exact e
    · rfl
  · rfl
theorem relay_plain {t : SetTable} (es : Array (Int × Value)) (n : Nat) (e : t.plain = false) : (relayAll t es n).2.1.plain = false := by
  unfold relayAll
  split
  · rename_i t' od hr
    dsimp only
    split
    · unfold SetTable.relaid SetTable.laid at hr
      simp only [Option.bind_eq_bind, Option.pure_def, Option.bind_eq_some_iff, Option.some.injEq, Prod.mk.injEq] at hr
      obtain ⟨_, _, rfl, _⟩ := hr
      exact e
    · rfl
  · rfl
theorem Sgn.perm {P : Program} {w : World} {cs : List Nat} {m : Nat} {es es' : Array (Int × Value)} {t t' : SetTable} (x : Sgn P w cs m es t) (p : List.Perm es'.toList es.toList) (f : t'.fits es'.size = true) (n : t'.plain = false) : Sgn P w cs m es' t' :=
  ⟨x.el.perm p, f, .inr n, by rw [← Array.length_toList, p.length_eq, Array.length_toList]; exact x.le, fun e he => x.one e (p.mem_iff.mp he), fun c hc => let ⟨e, he, u⟩ := x.has c hc; ⟨e, p.mem_iff.mpr he, u⟩⟩
section
variable {P : Program} {w : World} {A : Around} {E : Value → Shared → Prop} {s : Shared}
theorem add_str {a : Addr} {cs : List Nat} {m c : Nat} {u : Tok} {Q : Bool → Shared → Prop} (hS : SetAt P w a cs m s.heap) (hm : m + 1 < scanBound)
    (h : ∀ h', Heap.SameBut a s.heap h' → SetAt P w a (c :: cs) (m + 1) h' → ∀ b, Q b { s with heap := h' }) :
    wpAny (model P w) A (setAddHashed a (.str ⟨#[c]⟩ u) ((PySem.strKind P w).hash ⟨#[c]⟩)) Q E s := by
  obtain ⟨es, ep, t, ho, g⟩ := hS
  have hb : es.size < scanBound := Nat.lt_of_le_of_lt g.le (Nat.lt_of_succ_lt hm)
  unfold setAddHashed setAddHashedIn
  refine wpAny_holding (wpAny_bind (wpAny_setState_of ho rfl g.ft ?_)); dsimp only
  rw [byScan_of (knd := PySem.strKind P w) (x := .str ⟨#[c]⟩ u) rfl hb g.el]; simp only [↓reduceIte]
  unfold setAddByScan
  refine wpAny_bind (wpAny_bind (wpAny_rule (wpAny_bind (wpAny_setScan_of (strKind_is P w ⟨#[c]⟩ u) ho rfl g.ft g.el ?_))))
  cases hr : List.findIdx? (fun e => (PySem.strKind P w).is ⟨#[c]⟩ e.2) es.toList with
  | some j =>
    obtain ⟨hj, hp, _⟩ := List.findIdx?_eq_some_iff_getElem.mp hr
    obtain ⟨c', u', e'⟩ := g.one _ (List.getElem_mem hj)
    have hc : (⟨#[c]⟩ : Str) = ⟨#[c']⟩ := (PySem.strKind P w).inj _ _ _ hp (by rw [e']; exact strKind_is ..)
    rw [← hc] at e'
    dsimp only
    refine wpAny_pure (wpAny_pure ?_)
    have es0 : s = { s with heap := s.heap } := by cases s; rfl
    rw [es0]
    refine h s.heap (Heap.SameBut.refl a s.heap) ⟨es, ep, t, ho, g.el, g.ft, g.np, Nat.le_succ_of_le g.le, g.one, fun d hd => ?_⟩ _
    rcases List.mem_cons.mp hd with z | z
    · subst z; exact ⟨_, List.getElem_mem hj, u', e'⟩
    · exact g.has d z
  | none =>
    dsimp only
    have pm := layNew_perm t es ((PySem.strKind P w).hash ⟨#[c]⟩) (.str ⟨#[c]⟩ u)
    have ff := layNew_fits t es ((PySem.strKind P w).hash ⟨#[c]⟩) (.str ⟨#[c]⟩ u)
    have pl := lay_plain (t := t) es ((PySem.strKind P w).hash ⟨#[c]⟩) (.str ⟨#[c]⟩ u)
    generalize layNew t es ((PySem.strKind P w).hash ⟨#[c]⟩) (.str ⟨#[c]⟩ u) = L at pm ff pl ⊢
    obtain ⟨es1, t1, wd, gave⟩ := L
    dsimp only at pm ff pl ⊢
    rw [Array.toList_push] at pm
    have way : ∀ (b : Bool) {s₁ : Shared} {Q' : Unit → Shared → Prop}, Q' () s₁ → wpAny (model P w) A (match b with | true => rule "set.scan.the-table-gave-way" | false => pure ()) Q' E s₁ :=
      fun b s₁ Q' q => by cases b <;> first | exact wpAny_pure q | exact wpAny_rule q
    have sz : es1.size = es.size + 1 := by rw [← Array.length_toList, pm.length_eq, List.length_append, Array.length_toList]; rfl
    refine wpAny_bind (way _ ?_)
    have mk : ∀ t2 : SetTable, t2.fits es1.size = true → t2.plain = false → Sgn P w (c :: cs) (m + 1) es1 t2 := fun t2 f2 p2 =>
      ⟨(g.el.push (strKind_is ..) rfl).perm pm, f2, .inr p2, by rw [sz]; exact Nat.succ_le_succ g.le, fun e he => by
        rcases List.mem_append.mp (pm.mem_iff.mp he) with z | z
        · exact g.one e z
        · rw [List.mem_singleton.mp z]; exact ⟨c, u, rfl⟩, fun d hd => by
        rcases List.mem_cons.mp hd with z | z
        · subst z; exact ⟨_, pm.mem_iff.mpr (List.mem_append_right _ (List.mem_singleton.mpr rfl)), u, rfl⟩
        · obtain ⟨e, he, q⟩ := g.has d z
          exact ⟨e, pm.mem_iff.mpr (List.mem_append_left _ he), q⟩⟩
    have b1 : es1.size < scanBound := by rw [sz]; exact Nat.lt_of_le_of_lt (Nat.succ_le_succ g.le) hm
    have tail : ∀ t2 : SetTable, t2.fits es1.size = true → t2.plain = false → wpAny (model P w) A (do
        storeSet a es1 t2
        if (!wd && t2.tooFull) = true then do
            (match (relayAll t2 es1 (SetTable.grown es1.size)).2.2 with | true => rule "set.scan.the-table-gave-way" | false => pure ())
            storeSet a (relayAll t2 es1 (SetTable.grown es1.size)).1 (relayAll t2 es1 (SetTable.grown es1.size)).2.1
            pure (some true)
          else pure (some true)) (fun o s' => ∃ h', Heap.SameBut a s.heap h' ∧ SetAt P w a (c :: cs) (m + 1) h' ∧ o = some true ∧ s' = { s with heap := h' }) E s := fun t2 f2 p2 => by
      have g2 := mk t2 f2 p2
      refine wpAny_bind (wpAny_storeSet_of ho rfl ?_ (fits_of_scanBound b1))
      have o1 := Heap.get?_update_self (Obj.putSet es1 t2) ho (by rw [putSet_of es1 t2 rfl]; rfl)
      rw [putSet_of es1 t2 rfl] at o1
      have sb := Heap.SameBut.update s.heap a (Obj.putSet es1 t2)
      split
      · have rp := relayAll_perm t2 es1 (SetTable.grown es1.size)
        have rf := relayAll_fits t2 es1 (SetTable.grown es1.size)
        have rn := relay_plain es1 (SetTable.grown es1.size) p2
        generalize relayAll t2 es1 (SetTable.grown es1.size) = Rl at rp rf rn ⊢
        obtain ⟨es2, t3, gv⟩ := Rl
        dsimp only at rp rf rn ⊢
        have z2 : es2.size = es1.size := by rw [← Array.length_toList, rp.length_eq, Array.length_toList]
        refine wpAny_bind (way _ (wpAny_bind (wpAny_storeSet_of o1 rfl ?_ (fits_of_scanBound (by rw [z2]; exact b1)))))
        have o2 := Heap.get?_update_self (Obj.putSet es2 t3) o1 (by rw [putSet_of es2 t3 rfl]; rfl)
        rw [putSet_of es2 t3 rfl] at o2
        exact wpAny_pure ⟨_, sb.trans (Heap.SameBut.update _ a _), ⟨es2, _, t3, o2, g2.perm rp rf rn⟩, rfl, rfl⟩
      · exact wpAny_pure ⟨_, sb, ⟨es1, _, t2, o1, g2⟩, rfl, rfl⟩
    cases hp : t1.plain with
    | true =>
      simp only [↓reduceIte]
      refine wpAny_bind ?_
      rw [hashByValue_scannable 8 (x := .str ⟨#[c]⟩ u) rfl]
      refine wpAny_pure ?_
      refine wpAny_mono (tail { t1 with plain := false } (SetTable.fits_plain_off ff) rfl) (fun o s' ⟨h', k1, k2, e1, e2⟩ => ?_) fun _ _ z => z
      subst e1; subst e2
      exact wpAny_pure (h h' k1 k2 _)
    | false =>
      simp only [Bool.false_eq_true, ↓reduceIte]
      refine wpAny_bind (wpAny_pure ?_)
      refine wpAny_mono (tail t1 ff hp) (fun o s' ⟨h', k1, k2, e1, e2⟩ => ?_) fun _ _ z => z
      subst e1; subst e2
      exact wpAny_pure (h h' k1 k2 _)
end
end L2
namespace L2
open PySem PySem.Spec PyProof.Rows
theorem sl_next : Slot "set_iterator" "__next__" "set_iterator.__next__" := .of (owner := "set_iterator") (n := "__next__") (by rw [typeLookup_type, builtinLookup_eq_fast]; kernel_rfl) (by decide +kernel) (by decide +kernel) (by decide +kernel) (by first | exact .inl (by decide +kernel) | exact .inr (by decide +kernel)) (by rw [isSubtype_type]; kernel_rfl)
theorem en_next : entryFor table "set_iterator.__next__" = some Builtin.«set_iterator.__next__» := entryFor_of_tree (by kernel_rfl)
theorem ar_next (a : Value) : argsOk "set_iterator.__next__" ⟨[a], []⟩ := by unfold argsOk; kernel_rfl
theorem en_iter : entryFor table "set.__iter__" = some Builtin.«frozenset.__iter__» := entryFor_alias (id' := "frozenset.__iter__") (by kernel_rfl) rfl (by decide +kernel) (by kernel_rfl)
theorem fits_no {t : SetTable} {n : Nat} (hf : t.fits n = true) : (t.place.size != n || decide (t.fill > t.mask)) = false := by
  simp only [SetTable.fits, Bool.and_eq_true, beq_iff_eq, decide_eq_true_eq] at hf
  simp [hf.1, hf.2]
def ItA (h : Heap) (it a : Addr) (i n ep : Nat) : Prop := h.get? it = some { cls := .type "set_iterator", data := .fields #[.int 0 0, .int i 0, .ref a, .int n 0, .int ep 0] }
def ItB (h : Heap) (it a tp : Addr) (i n ep : Nat) : Prop := h.get? it = some { cls := .type "set_iterator", data := .fields #[.ref tp, .int i 0, .ref a, .int n 0, .int ep 0] }
section
variable {P : Program} {w : World} {A : Around} {E : Value → Shared → Prop} {s : Shared}
theorem setNext_text {a : Addr} {es : Array (Int × Value)} {ep k i : Nat} {t : SetTable} {Q : Option (Value × Nat) → Shared → Prop} (hw : w.params.followText "set-order" = true)
    (ho : s.heap.get? a = some { cls := .type "set", dict := none, data := .set es ep t }) (hf : t.fits es.size = true) (h : Q (((pickOrder (w.params.setOrder a ep) es)[i]?).map fun e => (e.2, k)) s) : wpAny (model P w) A (setNext a k i ep) Q E s := by
  unfold setNext
  refine wpAny_bind (wpAny_setState_of ho rfl hf ?_); dsimp only
  unfold setsByText
  refine wpAny_bind (wpAny_bind (wpAny_askSetting (wpAny_pure ?_)))
  rw [show ((model P w).w.params.followText "set-order") = true from hw]
  simp only [↓reduceIte, bne_self_eq_false, Bool.false_eq_true]
  unfold setWalk
  refine wpAny_bind (wpAny_bind (wpAny_setState_of ho rfl hf ?_)); dsimp only
  unfold setsByText
  refine wpAny_bind (wpAny_bind (wpAny_askSetting (wpAny_pure ?_)))
  rw [show ((model P w).w.params.followText "set-order") = true from hw]
  simp only [↓reduceIte]
  refine wpAny_bind (wpAny_askSetting (wpAny_pure (wpAny_pure h)))
theorem nextA {it a : Addr} {es : Array (Int × Value)} {ep i : Nat} {t : SetTable} {e : Int × Value} {Q : Option Value → Shared → Prop} (hw : w.params.followText "set-order" = true) (hi : ItA s.heap it a i es.size ep)
    (ho : s.heap.get? a = some { cls := .type "set", dict := none, data := .set es ep t }) (hf : t.fits es.size = true) (he : (pickOrder (w.params.setOrder a ep) es)[i]? = some e)
    (hQ : ∀ h', ItA h' it a (i + 1) es.size ep → Heap.SameBut it s.heap h' → Q (some e.2) { s with heap := h' }) : wpAny (model P w) A (pyNext (.ref it)) Q E s := by
  have hT : s.TypeIs (.ref it) "set_iterator" := ⟨_, hi, rfl⟩
  have hi' := hi
  unfold ItA at hi'
  unfold pyNext
  refine wpAny_bind (wpAny_attempt (wpAny_callSpecial?_slot (name := Str.ofString "__next__") hT sl_next (wpAny_call_entry sl_next hT en_next ?_ (ar_next _))))
  unfold Builtin.«set_iterator.__next__»
  wp_walk
  rw [fits_no hf]
  simp only [Bool.false_eq_true, ↓reduceIte]
  refine wpAny_pure (wpAny_pure ?_)
  have hsz : (((es.size : Nat) : Int) != ((es.size : Nat) : Int)) = false := by simp
  simp only [hsz, Bool.false_eq_true, ↓reduceIte]
  refine wpAny_bind (setNext_text hw ho hf ?_)
  rw [show ((i : Nat) : Int).toNat = i from Int.toNat_natCast i, show ((ep : Nat) : Int).toNat = ep from Int.toNat_natCast ep, he]
  exact wpAny_bind (wpAny_setField_rec hi' (by simp) fun h1 g1 sb1 => wpAny_bind (wpAny_setField_rec g1 (by simp) fun h2 g2 sb2 => wpAny_pure ⟨_, rfl, wpAny_pure (hQ h2 g2 (sb1.trans sb2))⟩))
theorem endS {it : Addr} {vs : Array Value} {Q : Option Value → Shared → Prop} (hh : A.handled = none) (k2 : 2 < vs.size) (hi : s.heap.get? it = some { cls := .type "set_iterator", data := .fields vs })
    (hQ : ∀ h', Heap.ExtBut it s.heap h' → Q none { s with heap := h' }) : wpAny (model P w) A.in1 (do
          setField (Value.ref it) 2 Value.none
          let x ← newExc (Value.type "StopIteration") []
          raiseNew x) (fun fin s' => ∃ v, fin = Fin.done (Flow.ret v) ∧ wpAny (model P w) A (pure (some v)) Q E s') (fun e s' => wpAny (model P w) A (do
          let b ← isInstance e (Value.type "StopIteration")
          if b = true then pure none else throw e) Q E s') s := by
  refine wpAny_bind (wpAny_setField_rec hi k2 fun h1 g1 sb => wpAny_bind ?_)
  simp only [newExc, newTuple]
  refine wpAny_bind (wpAny_newObj_type ?_ (by size_fits))
  refine wpAny_bind (m := firstArgMember _ _) (wpAny_of_eq (a := Value.none) (by first | rfl | (simp only [firstArgMember]; rfl)) ?_)
  refine wpAny_newObj_type ?_ (by size_fits)
  simp only [raiseNew]
  refine wpAny_bind (wpAny_handled ?_)
  rw [show A.in1.handled = none from hh]
  refine wpAny_bind (wpAny_pure (wpAny_throw ?_))
  refine wpAny_bind (wpAny_isInstance (T := "StopIteration") (b := true) ⟨_, Heap.get?_push_size _ rfl, rfl⟩ isSubtype_stop ?_)
  exact wpAny_pure (hQ _ ((sb.extBut.push _).push _))
theorem nextA_end {it a : Addr} {es : Array (Int × Value)} {ep i : Nat} {t : SetTable} {Q : Option Value → Shared → Prop} (hh : A.handled = none) (hw : w.params.followText "set-order" = true) (hi : ItA s.heap it a i es.size ep)
    (ho : s.heap.get? a = some { cls := .type "set", dict := none, data := .set es ep t }) (hf : t.fits es.size = true) (he : (pickOrder (w.params.setOrder a ep) es)[i]? = none)
    (hQ : ∀ h', Heap.ExtBut it s.heap h' → Q none { s with heap := h' }) : wpAny (model P w) A (pyNext (.ref it)) Q E s := by
  have hT : s.TypeIs (.ref it) "set_iterator" := ⟨_, hi, rfl⟩
  have hi' := hi
  unfold ItA at hi'
  unfold pyNext
  refine wpAny_bind (wpAny_attempt (wpAny_callSpecial?_slot (name := Str.ofString "__next__") hT sl_next (wpAny_call_entry sl_next hT en_next ?_ (ar_next _))))
  unfold Builtin.«set_iterator.__next__»
  wp_walk
  rw [fits_no hf]
  simp only [Bool.false_eq_true, ↓reduceIte]
  refine wpAny_pure (wpAny_pure ?_)
  have hsz : (((es.size : Nat) : Int) != ((es.size : Nat) : Int)) = false := by simp
  simp only [hsz, Bool.false_eq_true, ↓reduceIte]
  refine wpAny_bind (setNext_text hw ho hf ?_)
  rw [show ((i : Nat) : Int).toNat = i from Int.toNat_natCast i, show ((ep : Nat) : Int).toNat = ep from Int.toNat_natCast ep, he]
  exact endS hh (by simp) hi' hQ
theorem nextB {it a tp : Addr} {es : Array (Int × Value)} {ep i pl : Nat} {t : SetTable} {ps : List Nat} {e : Int × Value} {Q : Option Value → Shared → Prop} (hi : ItB s.heap it a tp i es.size ep)
    (ho : s.heap.get? a = some { cls := .type "set", dict := none, data := .set es ep t }) (hf : t.fits es.size = true) (ht : s.heap.get? tp = some { cls := .type "tuple", data := .seq (ps.map fun (k : Nat) => rawInt k).toArray }) (hp : ps[i]? = some pl) (he : es[pl]? = some e)
    (hQ : ∀ h', ItB h' it a tp (i + 1) es.size ep → Heap.SameBut it s.heap h' → Q (some e.2) { s with heap := h' }) : wpAny (model P w) A (pyNext (.ref it)) Q E s := by
  have hT : s.TypeIs (.ref it) "set_iterator" := ⟨_, hi, rfl⟩
  have hi' := hi
  unfold ItB at hi'
  unfold pyNext
  refine wpAny_bind (wpAny_attempt (wpAny_callSpecial?_slot (name := Str.ofString "__next__") hT sl_next (wpAny_call_entry sl_next hT en_next ?_ (ar_next _))))
  unfold Builtin.«set_iterator.__next__»
  wp_walk
  rw [fits_no hf]
  simp only [Bool.false_eq_true, ↓reduceIte]
  refine wpAny_pure (wpAny_pure ?_)
  have hsz : (((es.size : Nat) : Int) != ((es.size : Nat) : Int)) = false := by simp
  simp only [hsz, Bool.false_eq_true, ↓reduceIte]
  refine wpAny_bind (m := seqItems? (Value.ref tp)) ?_
  simp only [seqItems?]
  refine wpAny_bind (wpAny_load ht (wpAny_pure ?_))
  dsimp only
  rw [show ((i : Nat) : Int).toNat = i from Int.toNat_natCast i, show (ps.map fun (k : Nat) => rawInt k).toArray[i]? = some (.int (pl : Int) 0) by rw [List.getElem?_toArray, List.getElem?_map, hp]; rfl]
  dsimp only
  unfold setNextDrawn
  refine wpAny_bind (wpAny_bind (wpAny_setState_of ho rfl hf ?_)); dsimp only
  rw [show ((ep : Nat) : Int).toNat = ep from Int.toNat_natCast ep, show ((pl : Nat) : Int).toNat = pl from Int.toNat_natCast pl, he]
  simp only [bne_self_eq_false, Bool.false_eq_true, ↓reduceIte]
  refine wpAny_pure (wpAny_bind (wpAny_setField_rec hi' (by simp) fun h2 g2 sb2 => wpAny_pure ⟨_, rfl, wpAny_pure (hQ h2 g2 sb2)⟩))
theorem nextB_end {it a tp : Addr} {es : Array (Int × Value)} {ep i : Nat} {t : SetTable} {ps : List Nat} {Q : Option Value → Shared → Prop} (hh : A.handled = none) (hi : ItB s.heap it a tp i es.size ep)
    (ho : s.heap.get? a = some { cls := .type "set", dict := none, data := .set es ep t }) (hf : t.fits es.size = true) (ht : s.heap.get? tp = some { cls := .type "tuple", data := .seq (ps.map fun (k : Nat) => rawInt k).toArray }) (hp : ps[i]? = none)
    (hQ : ∀ h', Heap.ExtBut it s.heap h' → Q none { s with heap := h' }) : wpAny (model P w) A (pyNext (.ref it)) Q E s := by
  have hT : s.TypeIs (.ref it) "set_iterator" := ⟨_, hi, rfl⟩
  have hi' := hi
  unfold ItB at hi'
  unfold pyNext
  refine wpAny_bind (wpAny_attempt (wpAny_callSpecial?_slot (name := Str.ofString "__next__") hT sl_next (wpAny_call_entry sl_next hT en_next ?_ (ar_next _))))
  unfold Builtin.«set_iterator.__next__»
  wp_walk
  rw [fits_no hf]
  simp only [Bool.false_eq_true, ↓reduceIte]
  refine wpAny_pure (wpAny_pure ?_)
  have hsz : (((es.size : Nat) : Int) != ((es.size : Nat) : Int)) = false := by simp
  simp only [hsz, Bool.false_eq_true, ↓reduceIte]
  refine wpAny_bind (m := seqItems? (Value.ref tp)) ?_
  simp only [seqItems?]
  refine wpAny_bind (wpAny_load ht (wpAny_pure ?_))
  dsimp only
  rw [show ((i : Nat) : Int).toNat = i from Int.toNat_natCast i, show (ps.map fun (k : Nat) => rawInt k).toArray[i]? = none by rw [List.getElem?_toArray, List.getElem?_map, hp]; rfl]
  refine wpAny_bind (wpAny_setField_rec hi' (by simp) fun h1 g1 sb1 => ?_)
  exact endS (s := { s with heap := h1 }) hh (by simp) g1 fun h' x => hQ h' (sb1.extBut.trans x)
end
end L2
namespace L2
open PySem PySem.Spec PyProof.Rows
theorem sl_itself : Slot "set_iterator" "__iter__" "set_iterator.__iter__" := .of (owner := "set_iterator") (n := "__iter__") (by rw [typeLookup_type, builtinLookup_eq_fast]; kernel_rfl) (by decide +kernel) (by decide +kernel) (by decide +kernel) (by first | exact .inl (by decide +kernel) | exact .inr (by decide +kernel)) (by rw [isSubtype_type]; kernel_rfl)
theorem en_itself : entryFor table "set_iterator.__iter__" = some Builtin.«dict_keyiterator.__iter__» := entryFor_alias (id' := "dict_keyiterator.__iter__") (by kernel_rfl) rfl (by decide +kernel) (by kernel_rfl)
theorem ar_itself (a : Value) : argsOk "set_iterator.__iter__" ⟨[a], []⟩ := by unfold argsOk; kernel_rfl
theorem pick_go {α : Type} (next : Nat → Nat) : ∀ (n k : Nat) (left : List α) (out : Array α), left.length = n → (pickOrder.go next n k left out).size = out.size + n ∧ ∀ e ∈ (pickOrder.go next n k left out).toList, e ∈ out.toList ∨ e ∈ left
  | 0, k, left, out, h => ⟨rfl, fun e he => .inl he⟩
  | n + 1, k, left, out, h => by
    have hp : 0 < left.length := by rw [h]; exact Nat.succ_pos n
    have hl := Nat.mod_lt (next k) hp
    have e1 : left[next k % left.length]? = some left[next k % left.length] := List.getElem?_eq_getElem hl
    unfold pickOrder.go
    rw [e1]
    dsimp only
    obtain ⟨i1, i2⟩ := pick_go next n (k + 1) (left.eraseIdx (next k % left.length)) (out.push left[next k % left.length]) (by rw [List.length_eraseIdx_of_lt hl, h]; rfl)
    refine ⟨by rw [i1, Array.size_push]; omega, fun e he => ?_⟩
    rcases i2 e he with z | z
    · rw [Array.toList_push] at z
      rcases List.mem_append.mp z with z | z
      · exact .inl z
      · rw [List.mem_singleton.mp z]; exact .inr (List.getElem_mem hl)
    · exact .inr (List.mem_of_mem_eraseIdx z)
theorem pick_at {α : Type} (next : Nat → Nat) (xs : Array α) : (pickOrder next xs).size = xs.size ∧ ∀ e ∈ (pickOrder next xs).toList, e ∈ xs.toList := by
  obtain ⟨h1, h2⟩ := pick_go next xs.size 0 xs.toList #[] (by simp)
  refine ⟨by unfold pickOrder; rw [h1]; simp, fun e he => ?_⟩
  rcases h2 e he with z | z
  · simp at z
  · exact z
section
variable {P : Program} {w : World} {A : Around} {E : Value → Shared → Prop} {s : Shared}
theorem choose_any {M : Model} {src : Source} {n : Nat} {Q : Nat → Shared → Prop} (hn : n ≠ 0) (h : ∀ i d', i < n → Q i { s with drawn := d' }) : wpAny M A (choose src n) Q E s := fun Γ p hΓ => by
  unfold choose
  rw [Sem.wp_choose]
  exact ⟨hn, h _ _ (Nat.mod_lt _ (Nat.pos_of_ne_zero hn))⟩
theorem draw_any {α : Type} : ∀ (n : Nat) (xs : List α) {s : Shared} {Q : List α → Shared → Prop}, xs.length = n → (∀ ys d', ys.length = n → (∀ y ∈ ys, y ∈ xs) → Q ys { s with drawn := d' }) → wpAny (model P w) A (drawOrder n xs) Q E s
  | 0, xs, s, Q, e, h => by
    unfold drawOrder
    exact wpAny_pure (h [] s.drawn rfl fun _ z => (nomatch z))
  | n + 1, [], s, Q, e, h => by cases e
  | n + 1, x :: xs, s, Q, e, h => by
    unfold drawOrder
    refine wpAny_bind (choose_any (by simp) fun i d1 hi => ?_)
    rw [List.getElem?_eq_getElem hi]
    dsimp only
    refine wpAny_bind (draw_any n ((x :: xs).eraseIdx i) (by rw [List.length_eraseIdx_of_lt hi, e]; rfl) fun ys d2 h1 h2 => ?_)
    refine wpAny_pure (h _ d2 (by rw [List.length_cons, h1]) fun y hy => ?_)
    rcases List.mem_cons.mp hy with z | z
    · rw [z]; exact List.getElem_mem hi
    · exact List.mem_of_mem_eraseIdx (h2 y z)
theorem iter_self {it : Addr} {o : Obj} {Q : Value → Shared → Prop} (hi : s.heap.get? it = some o) (hc : o.cls = .type "set_iterator") (h : Q (.ref it) s) : wpAny (model P w) A (pyIter (.ref it)) Q E s := by
  have hT : s.TypeIs (.ref it) "set_iterator" := ⟨_, hi, hc⟩
  refine wpAny_pyIter_slot hT sl_itself (wpAny_call_entry sl_itself hT en_itself ?_ (ar_itself _))
  show wpAny _ _ (ret (.ref it)) _ _ s
  exact wpAny_pure ⟨_, rfl, "set_iterator", _, hT, sl_next.lookup, h⟩
end
section
variable {P : Program} {w : World} {A : Around}
abbrev setAs (es : Array (Int × Value)) (ep : Nat) (t : SetTable) : Obj := { cls := .type "set", dict := none, data := .set es ep t }
theorem walkA (hh : A.handled = none) {it a : Addr} (ne : it ≠ a) {es : Array (Int × Value)} {ep : Nat} {t : SetTable} (hw : w.params.followText "set-order" = true) (hf : t.fits es.size = true) :
    WalksS P w A it [it, a] [it] (fun x y => y = x) es.size (fun _ v => ∃ e ∈ es.toList, v = e.2) (fun i s => ItA s.heap it a i es.size ep ∧ s.heap.get? a = some (setAs es ep t)) where
  sub := fun b hb => by rw [List.mem_singleton.mp hb]; simp
  grefl := fun _ => rfl
  gtrans := fun _ _ _ h1 h2 => h2.trans h1
  frame := fun i s h' _ st _ hk => ⟨hk it (by simp) _ st.1, hk a (by simp) _ st.2⟩
  item := fun i s Q E hi st hQ => by
    obtain ⟨p1, p2⟩ := pick_at (w.params.setOrder a ep) es
    have hi' : i < (pickOrder (w.params.setOrder a ep) es).size := by rw [p1]; exact hi
    refine nextA (e := (pickOrder (w.params.setOrder a ep) es)[i]) hw st.1 st.2 hf (Array.getElem?_eq_getElem hi') fun h' g sb => ?_
    exact hQ _ _ ⟨_, p2 _ (by simp), rfl⟩ ⟨g, by show h'.get? a = _; rw [sb.2 a (Ne.symm ne)]; exact st.2⟩ ⟨fun b o hb e => by show h'.get? b = _; rw [sb.2 b (fun z => hb (by rw [z]; simp))]; exact e, rfl, rfl, rfl, Nat.le_refl _⟩
  done := fun s Q E st hQ => nextA_end hh hw st.1 st.2 hf (Array.getElem?_eq_none (by rw [(pick_at (w.params.setOrder a ep) es).1]; exact Nat.le_refl _)) fun h' x => hQ _ ⟨fun b o hb e => x b o (fun z => hb (by rw [z]; simp)) e, rfl, rfl, rfl, Nat.le_refl _⟩
  self := fun i s Q E st hQ => iter_self st.1 rfl hQ
theorem walkB (hh : A.handled = none) {it a tp : Addr} (ne : it ≠ a) (nt : it ≠ tp) {es : Array (Int × Value)} {ep : Nat} {t : SetTable} {ps : List Nat} (hl : ps.length = es.size) (hp : ∀ k ∈ ps, k < es.size) (hf : t.fits es.size = true) :
    WalksS P w A it [it, a, tp] [it] (fun x y => y = x) es.size (fun _ v => ∃ e ∈ es.toList, v = e.2) (fun i s => ItB s.heap it a tp i es.size ep ∧ s.heap.get? a = some (setAs es ep t) ∧ s.heap.get? tp = some { cls := .type "tuple", data := .seq (ps.map fun (k : Nat) => rawInt k).toArray }) where
  sub := fun b hb => by rw [List.mem_singleton.mp hb]; simp
  grefl := fun _ => rfl
  gtrans := fun _ _ _ h1 h2 => h2.trans h1
  frame := fun i s h' _ st _ hk => ⟨hk it (by simp) _ st.1, hk a (by simp) _ st.2.1, hk tp (by simp) _ st.2.2⟩
  item := fun i s Q E hi st hQ => by
    have hi' : i < ps.length := by rw [hl]; exact hi
    have hk := hp _ (List.getElem_mem hi')
    refine nextB (e := es[ps[i]]) st.1 st.2.1 hf st.2.2 (List.getElem?_eq_getElem hi') (Array.getElem?_eq_getElem hk) fun h' g sb => ?_
    exact hQ _ _ ⟨_, by simp, rfl⟩ ⟨g, by show h'.get? a = _; rw [sb.2 a (Ne.symm ne)]; exact st.2.1, by show h'.get? tp = _; rw [sb.2 tp (Ne.symm nt)]; exact st.2.2⟩ ⟨fun b o hb e => by show h'.get? b = _; rw [sb.2 b (fun z => hb (by rw [z]; simp))]; exact e, rfl, rfl, rfl, Nat.le_refl _⟩
  done := fun s Q E st hQ => nextB_end hh st.1 st.2.1 hf st.2.2 (List.getElem?_eq_none (by rw [hl]; exact Nat.le_refl _)) fun h' x => hQ _ ⟨fun b o hb e => x b o (fun z => hb (by rw [z]; simp)) e, rfl, rfl, rfl, Nat.le_refl _⟩
  self := fun i s Q E st hQ => iter_self st.1 rfl hQ
end
end L2
namespace L2
open PySem PySem.Spec PyProof.Rows
section
variable {P : Program} {w : World} {A : Around} {R : Result → Shared → Prop} {I : Addr} {fp wr : List Addr} {G : Array GenState → Array GenState → Prop} {St : Nat → Shared → Prop}
theorem set_loop_str {x : Str} (W : WalksS P w A.in1 I fp wr G x.cps.size (SignAt x) St) (a : Addr) (ha : a ∉ fp) (hb : x.cps.size + 1 < scanBound) (d : Nat) :
    ∀ (i : Nat) (s : Shared), x.cps.size - i = d → i ≤ x.cps.size → St i s → SetAt P w a (x.cps.toList.take i).reverse i s.heap → (∀ s', Moved (a :: wr) G s s' → SetAt P w a x.cps.toList.reverse x.cps.size s'.heap → R (.ok (.ret .none)) s') →
      codeAny (model P w) A (.builtin "set.update.loop" ⟨[.ref a, .ref I], []⟩) R s := by
  have hw : a ∉ wr := fun z => ha (W.sub _ z)
  have up : ∀ b ∈ wr, b ∈ a :: wr := fun b z => List.mem_cons_of_mem _ z
  induction d with
  | zero =>
    intro i s e hi st hS hR
    obtain rfl : i = x.cps.size := Nat.le_antisymm hi (Nat.le_of_sub_eq_zero e)
    refine codeAny_builtin PyProof.Rows.F.entry_set_update_loop ?_
    rw [Around.under_plainId PyProof.Rows.F.plain_set_update_loop _]
    show wpAny _ A.in1 (pyNext (.ref I) >>= _) _ _ s
    refine wpAny_bind (W.done s _ _ st fun s' mv => ?_)
    have hS' := hS.same fun o e => mv.heap a _ hw e
    rw [List.take_of_length_le (by simp)] at hS'
    exact wpAny_pure (hR s' (mv.mono up) hS')
  | succ d ih =>
    intro i s e hi st hS hR
    have lt : i < x.cps.size := by omega
    refine codeAny_builtin PyProof.Rows.F.entry_set_update_loop ?_
    rw [Around.under_plainId PyProof.Rows.F.plain_set_update_loop _]
    show wpAny _ A.in1 (pyNext (.ref I) >>= _) _ _ s
    refine wpAny_bind (W.item i s _ _ lt st fun v s' hT st' mv => ?_)
    obtain ⟨c, t, hc, rfl⟩ := hT
    have hS' := hS.same fun o e => mv.heap a _ hw e
    show wpAny _ A.in1 (holding [Value.str ⟨#[c]⟩ t] (setAdd a (.str ⟨#[c]⟩ t)) >>= _) _ _ s'
    refine wpAny_bind (wpAny_holding ?_)
    unfold setAdd
    refine wpAny_holding (wpAny_bind ((PySem.strKind P w).pyHash (k := ⟨#[c]⟩) (strKind_is _ _ _ _) ?_))
    refine add_str (s := { s' with toks := s'.toks + 1 }) hS' (by omega) fun h' sb hS2 b => ?_
    have et : (x.cps.toList.take (i + 1)).reverse = c :: (x.cps.toList.take i).reverse := by
      rw [List.take_add_one, Array.getElem?_toList, hc]
      simp
    refine wpAny_pure ⟨plainId_quiet PyProof.Rows.F.plain_set_update_loop _, ih (i + 1) _ (by omega) lt (W.frame _ s' _ _ st' (Nat.le_succ _) fun b hb o e => ?_) (by rw [et]; exact hS2) fun s'' mv2 hS3 => ?_⟩
    · rw [sb.2 b (fun z : b = a => ha (by rw [← z]; exact hb))]; exact e
    · refine hR s'' (Moved.trans W.gtrans ((mv.mono up).then_heap (Nat.le_succ _) fun b o hb e => ?_) mv2) hS3
      rw [sb.2 b (fun z : b = a => hb (by rw [z]; exact List.mem_cons_self))]; exact e
end
theorem sub_str_set : isSubtype (.type "str") (.type "set") = pure false := by rw [isSubtype_type]; kernel_rfl
theorem sub_str_frz : isSubtype (.type "str") (.type "frozenset") = pure false := by rw [isSubtype_type]; kernel_rfl
abbrev setO (led : Bool) : Obj := { cls := .type "set", dict := none, data := .set #[] 0 (.fresh 0 0 led) }
section
variable {P : Program} {w : World} {A : Around} {E : Value → Shared → Prop} {s : Shared}
set_option maxRecDepth 100000 in
set_option maxHeartbeats 3200000 in
theorem call_set_str {x : Str} {t : Tok} {Q : Value → Shared → Prop} (hh : A.handled = none) (hb : x.cps.size + 1 < scanBound)
    (h : ∀ (h' : Heap) (tk : Nat), SetAt P w s.heap.objs.size x.cps.toList.reverse x.cps.size h' → (∀ b o, s.heap.get? b = some o → h'.get? b = some o) → Q (.ref s.heap.objs.size) { s with heap := h', toks := tk }) :
    wpAny (model P w) A (call (.type "set") [.str x t]) Q E s := by
  obtain ⟨c, tl, mr⟩ := PySem.F.called_set.mro
  have md := PySem.F.called_set.made; have sb := PySem.F.called_set.sub
  refine wpAny_call (codeAny_of_tree ?_); show wpAny _ _ (callAny (.type "set") _) _ _ _
  refine wpAny_pure ⟨Code.quiet_builtin _ (by decide +kernel), codeAny_builtin PySem.F.entry_type_call ?_⟩
  rw [Around.under_plain (weight_type_call_type "set" [.str x t] []) rfl]
  have n1 := PySem.F.called_set.notType; have n2 := PySem.F.called_set.canCreate; have n3 := PySem.F.typeCall_set_1 (.str x t)
  repeat (any_goals (first | assumption | wp_step))
  refine codeAny_mono (code_set_new_1 (.str x t) (E := E) (Q₁ := fun ob s₁ => ∃ led : Bool, ob = .ref s.heap.objs.size ∧ s₁ = { s with heap := s.heap.push (setO led) }) fun led => ⟨led, rfl, rfl⟩) fun r s₁ hr => ?_
  cases r with
  | error e => exact hr
  | ok fl =>
    cases fl with
    | ret ob =>
      obtain ⟨led, rfl, rfl⟩ := hr
      have hS : (s.heap.push (setO led)).get? s.heap.objs.size = some (setO led) := Heap.get?_push_size _ rfl
      have hT : Shared.TypeIs { s with heap := s.heap.push (setO led) } (.ref s.heap.objs.size) "set" := ⟨_, hS, rfl⟩
      have li := PySem.F.called_set.init.lookup; have bi := PySem.F.called_set.init.bind (.ref s.heap.objs.size)
      repeat (any_goals (first | assumption | wp_step))
      refine codeAny_mono (codeAny_call_builtin (R := wants (fun r s₂ => r = .none ∧ ∃ h' tk, s₂ = { s with heap := h', toks := tk } ∧ SetAt P w s.heap.objs.size x.cps.toList.reverse x.cps.size h' ∧ (∀ b o, s.heap.get? b = some o → h'.get? b = some o)) E) PySem.F.called_set.init.plain PySem.F.entry_set_init (check_set_init_1 hT ?_)) fun r₂ s₂ hr₂ => ?_
      · have q1 := sub_str_set; have q2 := sub_str_frz
        have q3 : (Value.type "str" == Value.type "dict") = false := by decide
        unfold Builtin.«set.__init__» noKeywords Builtin.Frozenset.updateFrom
        generalize hPI : pyIter = PI
        wp_walk
        subst hPI
        refine wpAny_pyIter_str fun o St W st0 => wpAny_bind (wpAny_runValue ?_)
        have h3 : A.in1.in1.in1.handled = none := by simp [hh]
        have z1 : (s.heap.push (setO led)).objs.size = s.heap.objs.size + 1 := Heap.size_push ..
        have get2 : ((s.heap.push (setO led)).push o).get? s.heap.objs.size = some (setO led) := Heap.get?_push_of_some _ hS
        refine set_loop_str ((W _ h3).toS) s.heap.objs.size (fun z => ?_) hb (x.cps.size - 0) 0 _ rfl (Nat.zero_le _) st0
          ⟨#[], 0, _, get2, fun _ z => (nomatch z), rfl, .inl rfl, Nat.le_refl _, fun _ z => (nomatch z), fun _ z => by simp at z⟩ fun s' mv hS' => ?_
        · exact absurd ((List.mem_singleton.mp z).trans z1) (Nat.ne_of_lt (Nat.lt_succ_self _))
        · obtain ⟨h', g', d', tk', os'⟩ := s'
          obtain rfl : g' = s.gens := mv.gens
          obtain rfl : d' = s.drawn := mv.drawn
          obtain rfl : os' = s.os := mv.os
          show wpAny _ _ _ _ _ _
          refine wpAny_pure ?_
          show wpAny _ _ (ret Value.none) _ _ _
          refine wpAny_pure ⟨rfl, h', tk', rfl, hS', fun b ob e => ?_⟩
          have hlt := Heap.lt_size e
          refine mv.heap b ob (fun z => ?_) (Heap.get?_push_of_some _ (Heap.get?_push_of_some _ e))
          rcases List.mem_cons.mp z with z | z
          · exact absurd hlt (z ▸ Nat.lt_irrefl _)
          · rw [List.mem_singleton.mp z, z1] at hlt
            exact absurd hlt (Nat.not_lt.mpr (Nat.le_succ _))
      · cases r₂ with
        | error e => exact hr₂
        | ok f2 =>
          cases f2 with
          | ret r =>
            obtain ⟨rfl, h', tk, rfl, g1, g2⟩ := hr₂
            repeat (any_goals (first | assumption | wp_step))
            exact h _ _ g1 g2
          | _ => exact hr₂.elim
    | _ => exact hr.elim
end
end L2
namespace L2
open PySem PySem.Spec PyProof.Rows
theorem sub_set_set : isSubtype (.type "set") (.type "set") = pure true := by rw [isSubtype_type]; kernel_rfl
section
variable {P : Program} {w : World} {A : Around} {E : Value → Shared → Prop} {s : Shared}
theorem drawn_is {a : Addr} {es : Array (Int × Value)} {ep : Nat} {t : SetTable} {Q : Bool → Shared → Prop} (ho : s.heap.get? a = some (setAs es ep t)) (hf : t.fits es.size = true) (np : t.plain = false) (h2 : 1 < es.size)
    (h : Q (!w.params.followText "set-order") s) : wpAny (model P w) A (setDrawn a) Q E s := by
  unfold setDrawn
  refine wpAny_bind (wpAny_setState_of ho rfl hf ?_); dsimp only
  unfold setsByText
  refine wpAny_bind (wpAny_bind (wpAny_askSetting (wpAny_pure (wpAny_pure ?_))))
  show Q (!w.params.followText "set-order" && (!t.plain && decide (es.size > 1))) s
  rw [np, decide_eq_true h2, Bool.not_false, Bool.and_true, Bool.and_true]
  exact h
theorem epoch_is {a : Addr} {es : Array (Int × Value)} {ep : Nat} {t : SetTable} {Q : Nat → Shared → Prop} (ho : s.heap.get? a = some (setAs es ep t)) (hf : t.fits es.size = true) (h : Q ep s) : wpAny (model P w) A (setEpoch a) Q E s := by
  unfold setEpoch
  exact wpAny_bind (wpAny_setState_of ho rfl hf (wpAny_pure h))
theorem iter_set {a : Addr} {es : Array (Int × Value)} {ep : Nat} {t : SetTable} {Q : Value → Shared → Prop} (ho : s.heap.get? a = some (setAs es ep t)) (hf : t.fits es.size = true) (np : t.plain = false) (h2 : 1 < es.size) (h60 : es.size ≤ 1000)
    (h : ∀ (it : Addr) (fp : List Addr) (St : Nat → Shared → Prop) (h' : Heap) (d' : Drawn), (∀ A' : Around, A'.handled = none → WalksS P w A' it fp [it] (fun x y => y = x) es.size (fun _ v => ∃ e ∈ es.toList, v = e.2) St) → St 0 { s with heap := h', drawn := d' } →
      (∀ b o, s.heap.get? b = some o → h'.get? b = some o) → (∀ b ∈ fp, b = a ∨ s.heap.objs.size ≤ b) → s.heap.objs.size ≤ it → Q (.ref it) { s with heap := h', drawn := d' }) : wpAny (model P w) A (pyIter (.ref a)) Q E s := by
  have hT : s.TypeIs (.ref a) "set" := ⟨_, ho, rfl⟩
  have hlt := Heap.lt_size ho
  refine wpAny_pyIter_slot hT PySem.F.slot_set_iter (wpAny_call_entry PySem.F.slot_set_iter hT en_iter ?_ (PySem.F.args_set_iter_1 _))
  unfold Builtin.«frozenset.__iter__»
  have hsub := sub_set_set
  wp_walk
  rw [fits_no hf]
  simp only [Bool.false_eq_true, ↓reduceIte]
  refine wpAny_pure (wpAny_pure (wpAny_pure (wpAny_bind (drawn_is ho hf np h2 ?_))))
  cases hw : w.params.followText "set-order" with
  | true =>
    simp only [Bool.not_true, Bool.false_eq_true, ↓reduceIte]
    refine wpAny_bind (wpAny_pure (wpAny_bind (epoch_is ho hf (wpAny_bind (wpAny_newObj_type (wpAny_pure ⟨_, rfl, "set_iterator", _, ⟨_, Heap.get?_push_size _ rfl, rfl⟩, sl_next.lookup, ?_⟩))))))
    refine h s.heap.objs.size [s.heap.objs.size, a] _ _ s.drawn (fun A' hA => walkA (ep := ep) hA (Nat.ne_of_gt hlt) hw hf) ⟨Heap.get?_push_size _ rfl, Heap.get?_push_of_some _ ho⟩ (fun b o e => Heap.get?_push_of_some _ e) (fun b hb => ?_) (Nat.le_refl _)
    rcases List.mem_cons.mp hb with z | z
    · exact .inr (Nat.le_of_eq z.symm)
    · exact .inl (List.mem_singleton.mp z)
  | false =>
    simp only [Bool.not_false, ↓reduceIte]
    refine wpAny_bind (draw_any es.size (List.range es.size) (by simp) fun ys d' l1 l2 => wpAny_bind (wpAny_newTuple ?_ (by rw [List.length_map, l1, sizeLine_eq]; omega)))
    have o1 : (s.heap.push { cls := .type "tuple", data := .seq (ys.map fun (k : Nat) => rawInt k).toArray }).get? a = some (setAs es ep t) := Heap.get?_push_of_some _ ho
    refine wpAny_bind (epoch_is (s := { s with heap := s.heap.push { cls := .type "tuple", data := .seq (ys.map fun (k : Nat) => rawInt k).toArray }, drawn := d' }) o1 hf (wpAny_bind (wpAny_newObj_type (wpAny_pure ⟨_, rfl, "set_iterator", _, ⟨_, Heap.get?_push_size _ rfl, rfl⟩, sl_next.lookup, ?_⟩))))
    have z1 : (s.heap.push { cls := .type "tuple", data := .seq (ys.map fun (k : Nat) => rawInt k).toArray }).objs.size = s.heap.objs.size + 1 := Heap.size_push ..
    refine h _ [_, a, s.heap.objs.size] _ _ d' (fun A' hA => walkB (ep := ep) (tp := s.heap.objs.size) hA ?_ ?_ l1 (fun k hk => List.mem_range.mp (l2 k hk)) hf) ⟨Heap.get?_push_size _ rfl, Heap.get?_push_of_some _ o1, Heap.get?_push_of_some _ (Heap.get?_push_size _ rfl)⟩ (fun b o e => Heap.get?_push_of_some _ (Heap.get?_push_of_some _ e)) (fun b hb => ?_) ?_
    · intro z; rw [z1] at z; rw [← z] at hlt; exact absurd hlt (Nat.not_lt.mpr (Nat.le_succ _))
    · intro z; rw [z1] at z; exact absurd z (Nat.succ_ne_self _)
    · rcases List.mem_cons.mp hb with z | z
      · right; rw [z, z1]; exact Nat.le_succ _
      rcases List.mem_cons.mp z with z | z
      · exact .inl z
      · exact .inr (Nat.le_of_eq (List.mem_singleton.mp z).symm)
    · show s.heap.objs.size ≤ (s.heap.push _).objs.size
      rw [z1]; exact Nat.le_succ _
abbrev emptyL : Obj := { cls := .type "list", data := .seq ([] : List Value).toArray }
theorem collect_set {a : Addr} {es : Array (Int × Value)} {ep : Nat} {t : SetTable} {Q : List Value → Shared → Prop} (hh : A.handled = none) (ho : s.heap.get? a = some (setAs es ep t)) (hf : t.fits es.size = true) (np : t.plain = false) (h2 : 1 < es.size) (h60 : es.size ≤ 1000)
    (hQ : ∀ s' acc, (∀ b o, s.heap.get? b = some o → s'.heap.get? b = some o) → s.heap.objs.size < s'.heap.objs.size → s'.gens = s.gens → s'.os = s.os → acc.length = es.size → (∀ v ∈ acc, ∃ e ∈ es.toList, v = e.2) → Q acc s') : wpAny (model P w) A (collect (.ref a)) Q E s := by
  have hlt := Heap.lt_size ho
  have hne : s.heap.objs.size ≠ a := Nat.ne_of_gt hlt
  unfold collect
  refine wpAny_bind (wpAny_runValue (codeAny_builtin PySem.F.entry_proto_collect ?_))
  rw [Around.under_plainId PySem.F.plain_proto_collect _]
  show wpAny _ A.in1 (newList [] >>= fun l => again (.builtin "list.__iadd__" ⟨[l, .ref a], []⟩)) _ _ s
  refine wpAny_bind (wpAny_newObj_type (wpAny_pure ⟨plainId_quiet PySem.F.plain_list_iadd _, codeAny_builtin PySem.F.entry_list_iadd ?_⟩))
  rw [Around.under_plainId PySem.F.plain_list_iadd _]
  have o1 : (s.heap.push emptyL).get? a = some (setAs es ep t) := Heap.get?_push_of_some _ ho
  have hT : Shared.TypeIs { s with heap := s.heap.push emptyL } (.ref a) "set" := ⟨_, o1, rfl⟩
  show wpAny _ A.in1 (Builtin.List.listExtendWith (.ref s.heap.objs.size) (.ref a) (.ref s.heap.objs.size)) _ _ _
  unfold Builtin.List.listExtendWith
  refine wpAny_bind (wpAny_typeOf hT ?_)
  have k1 : Builtin.List.listSameRef (.ref s.heap.objs.size) (.ref a) = false := by simp [Builtin.List.listSameRef, hne]
  have k2 : (Value.type "set" == Value.type "list") = false := by decide
  have k3 : (Value.type "set" == Value.type "tuple") = false := by decide
  simp only [k1, k2, k3, Bool.or_false, Bool.false_eq_true, if_false]
  refine wpAny_bind (iter_set (s := { s with heap := s.heap.push emptyL }) o1 hf np h2 h60 fun it fp St h' d' W st0 kp fr le => ?_)
  have hT2 : Shared.TypeIs { s with heap := h', drawn := d' } (.ref a) "set" := ⟨_, kp _ _ o1, rfl⟩
  refine wpAny_bind (wpAny_holding ?_)
  unfold Builtin.List.listLengthHint
  refine wpAny_bind (wpAny_specialOf hT2 PySem.F.slot_set_len.lookup ?_)
  wp_delta
  refine wpAny_bind (wpAny_isInstance hT2 sub_set_set ?_)
  show wpAny _ A.in1 (typeOf (Value.ref a) >>= _) _ _ _
  refine wpAny_bind (wpAny_typeOf hT2 (wpAny_pure ?_))
  show wpAny _ A.in1 (rule "list.extend.makes-room" >>= fun _ => Builtin.List.listTouch (.ref s.heap.objs.size) >>= fun _ => again (.builtin "list.extend.loop" ⟨[.ref s.heap.objs.size, .ref it, .ref s.heap.objs.size], []⟩)) _ _ _
  refine wpAny_bind (wpAny_rule (wpAny_bind ?_))
  have l0 : h'.get? s.heap.objs.size = some emptyL := kp _ _ (Heap.get?_push_size _ rfl)
  show wpAny _ A.in1 (updateSeq s.heap.objs.size (·.push .none) >>= fun _ => updateSeq s.heap.objs.size (·.pop)) _ _ _
  refine wpAny_bind (wpAny_updateSeq l0 rfl ?_)
  have l1 := Heap.get?_update_self (Obj.mapSeq (·.push Value.none)) l0 rfl
  refine wpAny_updateSeq l1 rfl ?_
  have l2 := Heap.get?_update_self (Obj.mapSeq (·.pop)) l1 rfl
  have oth : ∀ b o, b ≠ s.heap.objs.size → h'.get? b = some o → ((h'.update s.heap.objs.size (Obj.mapSeq (·.push Value.none))).update s.heap.objs.size (Obj.mapSeq (·.pop))).get? b = some o :=
    fun b o hb e => (Heap.get?_update_other _ _ (Ne.symm hb)).trans ((Heap.get?_update_other _ _ (Ne.symm hb)).trans e)
  have z1 : (s.heap.push emptyL).objs.size = s.heap.objs.size + 1 := Heap.size_push ..
  have nf : s.heap.objs.size ∉ fp := fun z => by
    rcases fr _ z with y | y
    · exact hne y
    · have y' : (s.heap.push emptyL).objs.size ≤ s.heap.objs.size := y
      rw [z1] at y'; exact absurd y' (Nat.not_succ_le_self _)
  have W1 := W A.in1 hh
  refine wpAny_pure ⟨plainId_quiet PySem.F.plain_extend_loop _, codeAny_extend_loopS W1 (by rw [sizeLine_eq]; omega) _ nf _ es.size 0 _ _ _ rfl (Nat.zero_le _)
    (W1.frame 0 { s with heap := h', drawn := d' } _ s.toks st0 (Nat.le_refl _) fun b hb o e => oth b o (fun z => nf (z ▸ hb)) e) l2 (ItemsOf.nil _) fun s' acc c' mv l3 ⟨n1, n2⟩ => ?_⟩
  show wpAny _ A (load s.heap.objs.size >>= _) _ _ s'
  refine wpAny_bind (wpAny_load l3 (wpAny_pure (hQ s' acc.toList (fun b o e => ?_) (Heap.lt_size l3) mv.gens mv.os (by simpa using n1) fun v hv => ?_)))
  · have hb := Heap.lt_size e
    have nb : b ≠ s.heap.objs.size := Nat.ne_of_lt hb
    refine mv.heap b o (fun z => ?_) (oth b o nb (kp _ _ (Heap.get?_push_of_some _ e)))
    rcases List.mem_cons.mp z with y | y
    · exact nb y
    · have le' : (s.heap.push emptyL).objs.size ≤ it := le
      rw [z1, ← List.mem_singleton.mp y] at le'
      exact absurd hb (Nat.not_lt.mpr (Nat.le_of_succ_le le'))
  · obtain ⟨j, hj, rfl⟩ := List.getElem_of_mem hv
    exact n2 j _ (by rw [Array.getElem?_toList.symm]; exact List.getElem?_eq_getElem hj)
end
end L2
namespace L2
open PySem PySem.Spec PyProof.Rows
section
variable {P : Program} {w : World} {A : Around} {E : Value → Shared → Prop} {s : Shared}
theorem sorted_set {a : Addr} {es : Array (Int × Value)} {ep : Nat} {t : SetTable} {Q : Value → Shared → Prop} (hh : A.handled = none) (ho : s.heap.get? a = some (setAs es ep t)) (hf : t.fits es.size = true) (np : t.plain = false) (h2 : 1 < es.size) (h64 : es.size < 64)
    (h1 : ∀ e ∈ es.toList, ∃ c u, e.2 = .str ⟨#[c]⟩ u)
    (hQ : ∀ s' l out c (ss : List Str), (∀ b o, s.heap.get? b = some o → s'.heap.get? b = some o) → s'.gens = s.gens → s'.os = s.os → s.heap.objs.size ≤ l → s'.heap.get? l = some { cls := .type "list", data := .seq out c } → StrsAre out.toList ss → ss.length = es.size → (∀ x ∈ ss, ∃ c, x = ⟨#[c]⟩) → Q (.ref l) s') :
    wpAny (model P w) A (call (.builtin "sorted") [.ref a]) Q E s := by
  refine Calls.call_function_entry kind_sorted plain_sorted entry_sorted (args_sorted1 _) ?_
  unfold Builtin.«sorted»
  refine wpAny_bind (m := checkCount "sorted" 1 1 _) (wpAny_pure (wpAny_bind (collect_set (by simpa using hh) ho hf np h2 (by omega) fun s1 vs kp sz g1 o1 ln mem => wpAny_bind (wpAny_newList ?_))))
  have hL : (s1.heap.push (seqObj "list" vs.toArray 0)).get? s1.heap.objs.size = some (seqObj "list" vs.toArray 0) := Heap.get?_push_size _ rfl
  have one : ∀ v ∈ vs, ∃ c u, v = .str ⟨#[c]⟩ u := fun v hv => by
    obtain ⟨e, he, rfl⟩ := mem v hv
    exact h1 e he
  have hS := strsAre_map vs fun v hv => by obtain ⟨c, u, e⟩ := one v hv; exact ⟨_, _, e⟩
  refine wpAny_bind (wpAny_holding (wpAny_call_entry slot_list_sort (s := { s1 with heap := s1.heap.push (seqObj "list" vs.toArray 0) }) ⟨_, hL, rfl⟩ entry_list_sort (list_sort_treeK strKind_oneLt hL hS.keysOf (fun v₁ v₂ rest e => keyKind_strs (by rw [← e]; exact hS)) (by rw [ln]; exact h64) fun st' a1 a2 => ⟨_, rfl, ?_⟩) (args_list_sort _)))
  obtain ⟨ss', q1, q2, _⟩ := sorted_out_str hS a1 a2
  obtain ⟨c, hc⟩ := sortedHeap_at (out := (arrOf st').map (·.2)) hL
  refine wpAny_pure ⟨_, rfl, hQ _ _ _ c ss' (fun b o e => ?_) g1 o1 (Nat.le_of_lt sz) hc q1 (by rw [q2.length_eq, List.length_map, ln]) fun x hx => ?_⟩
  · have e1 := kp b o e
    have lt := Heap.lt_size e1
    show (sortedHeap _ _ _ _).get? b = _
    rw [sortedHeap_old (Nat.ne_of_lt lt) (by rw [Heap.size_push]; exact Nat.lt_succ_of_lt lt)]
    exact Heap.get?_push_of_some _ e1
  · obtain ⟨v, hv, rfl⟩ := List.mem_map.mp (q2.mem_iff.mp hx)
    obtain ⟨c, u, rfl⟩ := one v hv
    exact ⟨c, rfl⟩
end
inductive rSetS (P : Program) (w : World) (xs : List V) (H : Hp) (Q : VK) : Prop
  | mk (x : Str) (h1_ : xs = [.str x]) (h2_ : x.cps.size ≤ 60) (h3_ : ∀ l, H l = none → Q (.ref l) (upd H l (.ext (SetAt P w l x.cps.toList.reverse x.cps.size)))) : rSetS P w xs H Q
inductive rSortS (P : Program) (w : World) (xs : List V) (H : Hp) (Q : VK) : Prop
  | mk (a : Addr) (cs : List Nat) (m c d : Nat) (h1_ : xs = [.ref a]) (h2_ : H a = some (.ext (SetAt P w a cs m))) (h3_ : c ∈ cs) (h4_ : d ∈ cs) (h5_ : c ≠ d) (h6_ : m < 64) (h7_ : ∀ l (ss : List Str), H l = none → ss.length ≤ m → (∀ x ∈ ss, ∃ c, x = ⟨#[c]⟩) → Q (.ref l) (upd H l (.lst (ss.map V.str)))) : rSortS P w xs H Q
theorem Inv.draw {X : Cx} {pins : List (Addr × Obj)} {σ : St} {H : Hp} {s : Shared} (I : Inv X pins σ H s) (d' : Drawn) : Inv X pins σ H { s with drawn := d' } := ⟨I.ok, I.os, I.bare, I.base, I.loc, I.cell, I.free, I.freeC, I.pin, I.hok, I.len⟩
theorem vals_strs : ∀ {ss : List Str} {its : List Value}, StrsAre its ss → Vals (ss.map V.str) its := by
  intro ss its h
  induction h with
  | nil => exact .nil
  | cons x t _ ih => exact .cons ⟨t, rfl⟩ ih
theorem call_setS {X : Cx} (hc : X.calm = true) : CallR X (.type "set") (rSetS X.prog X.w) := by
  intro pins s σ H xs us Q I r ⟨x, e, h60, q⟩
  subst e
  obtain ⟨u, rfl, ru⟩ := vals1 r
  obtain ⟨t, rfl⟩ := ru
  refine call_set_str (I.ok.hd hc) (by unfold scanBound; omega) fun h' tk hS kp => ?_
  have st : ∀ h1 h2 : Heap, SetAt X.prog X.w s.heap.objs.size x.cps.toList.reverse x.cps.size h1 → (∀ o, h1.get? s.heap.objs.size = some o → h2.get? s.heap.objs.size = some o) → SetAt X.prog X.w s.heap.objs.size x.cps.toList.reverse x.cps.size h2 := fun _ _ z k => z.same k
  exact ⟨.ref s.heap.objs.size, _, I.laid (t' := tk) kp (Nat.le_refl _) (show ObjOk X.prog X.w _ h' _ (.ext _) from ⟨hS, let ⟨_, _, _, e, _⟩ := hS; ⟨_, e⟩, st⟩), rfl, q _ (I.hok.fresh (Nat.le_refl _))⟩
theorem call_sortS {X : Cx} (hc : X.calm = true) : CallR X (.builtin "sorted") (rSortS X.prog X.w) := by
  intro pins s σ H xs us Q I r ⟨a, cs, m, c, d, e, ha, hc1, hd1, hcd, hm, q⟩
  subst e
  obtain ⟨u, rfl, ru⟩ := vals1 r
  obtain rfl : u = Value.ref a := ru
  obtain ⟨⟨es, ep, t, ho, g⟩, _⟩ := I.hok a _ ha
  have h2 : 1 < es.size := by
    obtain ⟨e1, m1, u1, q1⟩ := g.has c hc1
    obtain ⟨e2, m2, u2, q2⟩ := g.has d hd1
    rcases Nat.lt_or_ge 1 es.size with z | z
    · exact z
    · exfalso
      obtain ⟨i, hi, rfl⟩ := List.getElem_of_mem m1
      obtain ⟨j, hj, rfl⟩ := List.getElem_of_mem m2
      have li : es.toList.length = es.size := Array.length_toList
      obtain rfl : i = j := by omega
      rw [q1] at q2
      cases q2
      exact hcd rfl
  refine sorted_set (I.ok.hd hc) ho g.ft (g.np.resolve_left (by omega)) h2 (Nat.lt_of_le_of_lt g.le hm) g.one fun s' l out k ss kp g1 o1 le hl hS ln one => ?_
  obtain ⟨h', g', d', tk', os'⟩ := s'
  obtain rfl : g' = s.gens := g1
  obtain rfl : os' = s.os := o1
  refine ⟨.ref l, _, (I.draw d').laid (t' := tk') kp le (show ObjOk X.prog X.w _ h' _ (.lst (ss.map V.str)) from ⟨?_, out.toList, k, vals_strs hS, by simpa using hl⟩), rfl, q l ss (I.hok.fresh le) (by rw [ln]; exact g.le) one⟩
  rw [List.length_map, ln, sizeLine_eq]
  have := g.le
  omega
end L2
namespace Sg
abbrev Wd := List Nat
abbrev Rl := Wd × Wd
def atP (w l : Wd) (p : Nat) : Bool := (w.drop p).take l.length == l
theorem atP_iff {w l : Wd} {p : Nat} : atP w l p = true ↔ (w.drop p).take l.length = l := by simp [atP]
def bef (a b : Wd) : Bool := if a.length = b.length then decide (a < b) else decide (a.length < b.length)
def numsAt (rs : List Rl) (w : Wd) (p : Nat) : List Nat := (List.range rs.length).filter fun i => atP w (rs.getD i ([], [])).1 p
def firstF (rs : List Rl) (w : Wd) : Nat → Nat → Option (Nat × Nat)
  | 0, _ => none
  | k + 1, s => match (numsAt rs w s).head? with
    | some i => some (s, i)
    | none => firstF rs w k (s + 1)
def first (rs : List Rl) (w : Wd) : Option (Nat × Nat) := firstF rs w w.length 0
def Over (al w : Wd) : Prop := ∀ c ∈ w, c ∈ al
def Inc (al : Wd) : Prop := al.Pairwise (· < ·)
structure Good (rs : List Rl) (al : Wd) (n : Nat) : Prop where
  inc : Inc al
  bf : ∀ r ∈ rs, bef r.2 r.1 = true
  sm : ∀ r ∈ rs, Over al r.1 ∧ Over al r.2
  ln : ∀ r ∈ rs, r.1.length ≤ n
theorem bef_nil (a : Wd) : bef a [] = false := by
  unfold bef
  cases a with
  | nil => simp
  | cons c a => simp
theorem Good.ne {rs : List Rl} {al : Wd} {n : Nat} (g : Good rs al n) {r : Rl} (h : r ∈ rs) : r.1 ≠ [] := fun e => by
  have := g.bf r h
  rw [e, bef_nil] at this
  cases this
theorem split_at {w l : Wd} {p : Nat} (h : atP w l p = true) (hp : p + l.length ≤ w.length) : w = w.take p ++ l ++ w.drop (p + l.length) := by
  have h1 := atP_iff.mp h
  have h2 : w.drop p = l ++ w.drop (p + l.length) := by
    have := List.take_append_drop l.length (w.drop p)
    rw [h1, List.drop_drop] at this
    exact this.symm
  rw [List.append_assoc, ← h2, List.take_append_drop]
end Sg
namespace Sg
open PySem L2
abbrev tx (w : Wd) : V := .str (Sx w)
inductive RlAt (H : Hp) (v : V) (r : Rl) : Prop
  | mk (p : _) (h1_ : v = .ref p) (h2_ : H p = some (.tup [tx r.1, tx r.2])) : RlAt H v r
inductive StAt (H : Hp) (v : V) (s : Nat × Nat) : Prop
  | mk (p : _) (h1_ : v = .ref p) (h2_ : H p = some (.tup [.int s.1, .int s.2])) : StAt H v s
inductive RsAt (H : Hp) (a : Addr) (rs : List Rl) : Prop
  | mk (vs : _) (h1_ : H a = some (.lst vs)) (h2_ : Paired (RlAt H) vs rs) : RsAt H a rs
inductive SsAt (H : Hp) (a : Addr) (ss : List (Nat × Nat)) : Prop
  | mk (vs : _) (h1_ : H a = some (.lst vs)) (h2_ : Paired (StAt H) vs ss) : SsAt H a ss
def Tups (H H' : Hp) : Prop := ∀ p xs, H p = some (.tup xs) → H' p = some (.tup xs)
theorem tups_of {H H' : Hp} (s : Same H H') : Tups H H' := fun p xs h => s p _ h
theorem Tups.trans {H H1 H2 : Hp} (a : Tups H H1) (b : Tups H1 H2) : Tups H H2 := fun p xs h => b p xs (a p xs h)
theorem tups_own {H : Hp} {l : Addr} {xs ys : List V} (h : H l = some (.lst xs)) : Tups H (upd H l (.lst ys)) := fun p zs q => by
  rw [upd_ne (fun e => by rw [e, h] at q; cases q)]
  exact q
theorem pairImp {α β : Type} {F G : α → β → Prop} : ∀ {l₁ : List α} {l₂ : List β}, Paired F l₁ l₂ → (∀ a b, F a b → G a b) → Paired G l₁ l₂
  | _, _, .nil, _ => .nil
  | _, _, .cons r t, f => .cons (f _ _ r) (pairImp t f)
theorem RlAt.mono {H H' : Hp} (s : Tups H H') {v : V} {r : Rl} (h : RlAt H v r) : RlAt H' v r := let ⟨p, e, q⟩ := h; ⟨p, e, s p _ q⟩
theorem StAt.mono {H H' : Hp} (s : Tups H H') {v : V} {r : Nat × Nat} (h : StAt H v r) : StAt H' v r := let ⟨p, e, q⟩ := h; ⟨p, e, s p _ q⟩
theorem RsAt.mono {H H' : Hp} (s : Same H H') {a : Addr} {rs : List Rl} (h : RsAt H a rs) : RsAt H' a rs := let ⟨vs, e, q⟩ := h; ⟨vs, s _ _ e, pairImp q fun _ _ z => z.mono (tups_of s)⟩
theorem SsAt.mono {H H' : Hp} (s : Same H H') {a : Addr} {rs : List (Nat × Nat)} (h : SsAt H a rs) : SsAt H' a rs := let ⟨vs, e, q⟩ := h; ⟨vs, s _ _ e, pairImp q fun _ _ z => z.mono (tups_of s)⟩
theorem pairGetL {α β : Type} {F : α → β → Prop} : ∀ {l₁ : List α} {l₂ : List β} {i : Nat} {a : α}, Paired F l₁ l₂ → l₁[i]? = some a → ∃ b, l₂[i]? = some b ∧ F a b
  | _, _, _, _, .nil, e => by simp at e
  | _, _, 0, _, .cons r _, e => by simp at e; subst e; exact ⟨_, rfl, r⟩
  | _, _, i + 1, x, .cons _ t, e => by
    obtain ⟨u, h1, h2⟩ := pairGetL (i := i) (a := x) t (by simpa using e)
    exact ⟨u, by simpa using h1, h2⟩
theorem pairGetR {α β : Type} {F : α → β → Prop} : ∀ {l₁ : List α} {l₂ : List β} {i : Nat} {b : β}, Paired F l₁ l₂ → l₂[i]? = some b → ∃ a, l₁[i]? = some a ∧ F a b
  | _, _, _, _, .nil, e => by simp at e
  | _, _, 0, _, .cons r _, e => by simp at e; subst e; exact ⟨_, rfl, r⟩
  | _, _, i + 1, x, .cons _ t, e => by
    obtain ⟨u, h1, h2⟩ := pairGetR (i := i) (b := x) t (by simpa using e)
    exact ⟨u, by simpa using h1, h2⟩
theorem pairLen {α β : Type} {F : α → β → Prop} {l₁ : List α} {l₂ : List β} (h : Paired F l₁ l₂) : l₁.length = l₂.length := Paired.length h
theorem pairApp {α β : Type} {F : α → β → Prop} : ∀ {a₁ b₁ : List α} {a₂ b₂ : List β}, Paired F a₁ a₂ → Paired F b₁ b₂ → Paired F (a₁ ++ b₁) (a₂ ++ b₂)
  | _, _, _, _, .nil, s => s
  | _, _, _, _, .cons r t, s => .cons r (pairApp t s)
theorem szl {n : Nat} (h : n ≤ 1000) : n ≤ sizeLine := Nat.le_of_lt (small1000 h)
theorem getD_some {α : Type} {xs : List α} {i : Nat} {d : α} (h : i < xs.length) : xs[i]? = some (xs.getD i d) := by
  rw [List.getD_eq_getElem?_getD, List.getElem?_eq_getElem h]
  rfl
theorem RsAt.get {H : Hp} {a : Addr} {rs : List Rl} (h : RsAt H a rs) {i : Nat} (hi : i < rs.length) : ∃ vs p, H a = some (.lst vs) ∧ vs.length = rs.length ∧ vs[i]? = some (.ref p) ∧ H p = some (.tup [tx (rs.getD i ([], [])).1, tx (rs.getD i ([], [])).2]) := by
  obtain ⟨vs, e, q⟩ := h
  obtain ⟨v, h1, p, h2, h3⟩ := pairGetR q (getD_some (d := ([], [])) hi)
  subst h2
  exact ⟨vs, p, e, (pairLen q), h1, h3⟩
def FsAt (H : Hp) (v : V) : Option (Nat × Nat) → Prop
  | none => v = .non
  | some s => StAt H v s
theorem FsAt.mono {H H' : Hp} (s : Tups H H') {v : V} {o : Option (Nat × Nat)} (h : FsAt H v o) : FsAt H' v o := by
  cases o with
  | none => exact h
  | some x => exact StAt.mono s h
inductive spBef (vs : List V) (H : Hp) (Q : VK) (E_ : XK) : Prop
  | mk (a : _) (b : _) (h1_ : vs = [tx a, tx b]) (h2_ : a.length ≤ 1000) (h3_ : b.length ≤ 1000) (h4_ : ∀ H', Same H H' → Q (.bl (bef a b)) H') : spBef vs H Q E_
end Sg
seal L2.PSs L2.PS L2.PE L2.PT L2.PA L2.PK L2.PG L2.PGs L2.PI L2.PF
namespace Sg
open PySem L2
theorem lexV_bef (a b : Wd) : lexV [.int (a.length : Int), tx a] [.int (b.length : Int), tx b] = bef a b := by
  unfold bef
  rw [lexV_cons]
  by_cases h : a.length = b.length
  · rw [if_pos h, h, if_pos rfl, lexV_cons]
    by_cases e : a = b
    · subst e
      rw [if_pos rfl]
      show false = _
      exact (decide_eq_false (List.lt_irrefl _)).symm
    · rw [if_neg (fun z => e (Sx_inj (V.str.inj z)))]
      show decide ((Sx a).cps.toList < (Sx b).cps.toList) = _
      rw [Sx_cps, Sx_cps]
  · rw [if_neg h, if_neg (fun z => h (by have := V.int.inj z; lia))]
    show decide ((a.length : Int) < (b.length : Int)) = _
    rw [Bool.eq_iff_iff, decide_eq_true_iff, decide_eq_true_iff]
    omega
end Sg
namespace Sg
open PySem L2
def top (i : Nat) : Stmt := PySem.Challenge.pw_signmill_k05_forms.main.body.getD i (.Pass ⟨0, 0, 0, 0⟩)
abbrev s_ends_free : Stmt := top 1
abbrev s_longer_by_one : Stmt := top 2
abbrev sForms : Stmt := top 3
abbrev sAt : Stmt := top 5
abbrev sSooner : Stmt := top 6
abbrev sRuled : Stmt := top 7
abbrev sLetters : Stmt := top 8
abbrev sPair : Stmt := top 9
abbrev sAny : Stmt := top 10
abbrev sLaw : Stmt := top 11
end Sg
namespace L2
open PySem PySem.Spec PyProof.Rows
inductive rEnds1 (x : V) (vs : List V) (H : Hp) (Q : VK) : Prop
  | mk (w : List Nat) (l : List Nat) (h1_ : x = .str (Sx w)) (h2_ : vs = [.str (Sx l)]) (h3_ : Q (.bl (decide (l.length ≤ w.length) && atW w l (w.length - l.length))) H) : rEnds1 x vs H Q
theorem mt_ends1 {X : Cx} : MtR X "str.endswith" rEnds1 := by
  intro pins s σ H x vs v us Q I rx rv h
  obtain ⟨w, l, rfl, rfl, q⟩ := h
  obtain ⟨t, rfl⟩ := rx
  obtain ⟨u, rfl, r1⟩ := vals1 rv
  obtain ⟨t1, rfl⟩ := r1
  refine SC.endswith ⟨_, H, I, ?_, q⟩
  show Value.bool _ = Value.bool _
  congr 1
  unfold Txt.endswith
  rw [Nat.zero_add, Sx_len, Sx_len, subAt_Sx]
theorem boot_any : bootBuiltins "any" = some (.builtin "any") := by decide +kernel
theorem boot_set : bootBuiltins "set" = some (.type "set") := by decide +kernel
theorem boot_srt : bootBuiltins "sorted" = some (.builtin "sorted") := by decide +kernel
theorem boot_absZ : bootBuiltins "abs" = some (.builtin "abs") := by decide +kernel
end L2
namespace Sg
open PySem L2
def Oc (l u : Wd) : Prop := ∃ a b, u = a ++ l ++ b
theorem oc_in {u l : Wd} : (!(Builtin.Str.occurrences (Sx u) (Sx l) 0 (Sx u).length 1).isEmpty) = true ↔ Oc l u := by
  constructor
  · intro h
    obtain ⟨i, h1, h2⟩ := (PySem.StrLaws.found_iff _ _).mp h
    rw [Sx_len, Sx_len] at h1
    rw [subAt_Sx] at h2
    exact ⟨u.take i, u.drop (i + l.length), split_at (show atP u l i = true from h2) h1⟩
  · rintro ⟨x, y, e⟩
    refine (PySem.StrLaws.found_iff _ _).mpr ⟨x.length, ?_, ?_⟩
    · rw [Sx_len, Sx_len, e, List.length_append, List.length_append]
      lia
    · rw [subAt_Sx]
      unfold atW
      rw [e, List.append_assoc, List.drop_left' rfl, List.take_left' rfl, beq_iff_eq]
def sufB (l w : Wd) : Bool := decide (l.length ≤ w.length) && atW w l (w.length - l.length)
theorem suf_iff {l w : Wd} : sufB l w = true ↔ ∃ a, w = a ++ l := by
  unfold sufB
  rw [Bool.and_eq_true, decide_eq_true_iff]
  constructor
  · rintro ⟨h1, h2⟩
    refine ⟨w.take (w.length - l.length), ?_⟩
    have h2' : (w.drop (w.length - l.length)).take l.length = l := beq_iff_eq.mp h2
    rw [List.take_of_length_le (by rw [List.length_drop]; lia)] at h2'
    conv => lhs; rw [← List.take_append_drop (w.length - l.length) w, h2']
  · rintro ⟨a, e⟩
    have hl : w.length = a.length + l.length := by rw [e, List.length_append]
    refine ⟨by lia, ?_⟩
    unfold atW
    rw [beq_iff_eq, show w.length - l.length = a.length by lia, e, List.drop_left' rfl, List.take_of_length_le (Nat.le_refl _)]
def endsB (rs : List Rl) (w : Wd) : Bool := rs.any fun r => sufB r.1 w
noncomputable def freB (rs : List Rl) (w : Wd) : Bool := open Classical in decide (∀ r ∈ rs, ¬ Oc r.1 w)
theorem fre_iff {rs : List Rl} {w : Wd} : freB rs w = true ↔ ∀ r ∈ rs, ¬ Oc r.1 w := by unfold freB; simp only [decide_eq_true_eq]
theorem fre_snoc {rs : List Rl} (hne : ∀ r ∈ rs, r.1 ≠ []) {w : Wd} (h : freB rs w = true) (c : Nat) : freB rs (w ++ [c]) = !endsB rs (w ++ [c]) := by
  cases he : endsB rs (w ++ [c]) with
  | true =>
    obtain ⟨r, hr, hs⟩ := List.any_eq_true.mp he
    obtain ⟨a, e⟩ := suf_iff.mp hs
    refine Bool.eq_false_iff.mpr fun z => fre_iff.mp z r hr ⟨a, [], by rw [List.append_nil]; exact e⟩
  | false =>
    refine fre_iff.mpr fun r hr ⟨a, b, e⟩ => ?_
    rcases List.eq_nil_or_concat b with z | ⟨b', d, z⟩
    · subst z
      rw [List.append_nil] at e
      have : endsB rs (w ++ [c]) = true := List.any_eq_true.mpr ⟨r, hr, suf_iff.mpr ⟨a, e⟩⟩
      rw [he] at this; cases this
    · subst z
      rw [List.concat_eq_append, ← List.append_assoc] at e
      have := List.append_inj_left' e rfl
      exact fre_iff.mp h r hr ⟨a, b', this⟩
def lonB (rs : List Rl) (sg : Wd) (ws : List Wd) : List Wd := ws.flatMap fun w => (sg.map fun c => w ++ [c]).filter fun v => !endsB rs v
def wrdB (rs : List Rl) (sg : Wd) : Nat → List Wd
  | 0 => [[]]
  | n + 1 => lonB rs sg (wrdB rs sg n)
theorem wrd_len {rs : List Rl} {sg : Wd} : ∀ (n : Nat), ∀ w ∈ wrdB rs sg n, w.length = n
  | 0, w, h => by rw [List.mem_singleton.mp h]; rfl
  | n + 1, w, h => by
    obtain ⟨v, hv, hw⟩ := List.mem_flatMap.mp h
    obtain ⟨c, _, rfl⟩ := List.mem_map.mp (List.mem_filter.mp hw).1
    rw [List.length_append, wrd_len n v hv]; rfl
theorem lon_len {rs : List Rl} {sg : Wd} (h : sg.length ≤ 3) : ∀ ws : List Wd, (lonB rs sg ws).length ≤ 3 * ws.length
  | [] => Nat.zero_le _
  | w :: ws => by
    have h1 := lon_len (rs := rs) h ws
    have h2 : ((sg.map fun c => w ++ [c]).filter fun v => !endsB rs v).length ≤ 3 := Nat.le_trans (List.length_filter_le ..) (by rw [List.length_map]; exact h)
    show (List.flatMap _ (w :: ws)).length ≤ _
    rw [List.flatMap_cons, List.length_append, List.length_cons]
    have h3 : (List.flatMap (fun w => (sg.map fun c => w ++ [c]).filter fun v => !endsB rs v) ws).length ≤ 3 * ws.length := h1
    lia
theorem wrd_num {rs : List Rl} {sg : Wd} (h : sg.length ≤ 3) : ∀ n, (wrdB rs sg n).length ≤ 3 ^ n
  | 0 => Nat.le_refl _
  | n + 1 => by
    have h1 := lon_len (rs := rs) h (wrdB rs sg n)
    have h2 := wrd_num (rs := rs) h n
    show (lonB rs sg (wrdB rs sg n)).length ≤ 3 ^ n * 3
    lia
def allB (rs : List Rl) (sg : Wd) (n : Nat) : List Wd := (List.range n).flatMap (wrdB rs sg)
theorem all_succ (rs : List Rl) (sg : Wd) (n : Nat) : allB rs sg (n + 1) = allB rs sg n ++ wrdB rs sg n := by
  unfold allB
  rw [List.range_succ, List.flatMap_append]
  simp
inductive spEnds (vs : List V) (H : Hp) (Q : VK) (E_ : XK) : Prop
  | mk (a : Addr) (rs : List Rl) (w : Wd) (h1_ : vs = [.ref a, tx w]) (h2_ : RsAt H a rs) (h3_ : rs.length ≤ 100) (h4_ : ∀ H', Same H H' → Q (.bl (!endsB rs w)) H') : spEnds vs H Q E_
inductive spLonger (vs : List V) (H : Hp) (Q : VK) (E_ : XK) : Prop
  | mk (a b : Addr) (rs : List Rl) (sg : Wd) (ws : List Wd) (h1_ : vs = [.ref a, tx sg, .ref b]) (h2_ : RsAt H a rs) (h3_ : rs.length ≤ 100) (h4_ : sg.length ≤ 3) (h5_ : H b = some (.lst (ws.map tx))) (h6_ : ws.length ≤ 1000) (h7_ : ∀ w ∈ ws, w.length ≤ 100) (h8_ : ∀ l H', Same H H' → H l = none → H' l = some (.lst ((lonB rs sg ws).map tx)) → Q (.ref l) H') : spLonger vs H Q E_
section
variable {P : Program} {w : World} {K : PySem.W.Frag} {mg : Str → Option Value} {base : Heap}
theorem scEnds : FnScope ["rules", "word"] ["rules", "word"] (defScope s_ends_free) := ⟨rfl, rfl, rfl, by decide +kernel, rfl, by decide +kernel, by decide +kernel⟩
def notE : Expr → Expr
  | .UnaryOp _ e _ => e
  | e => e
theorem ccEnds : CompScope (defScope s_ends_free) ["rules", "word"] (compSc (argE (notE (retE (defBody s_ends_free))) 0)) ["rule"] ["word"] [1] := ⟨rfl, by decide +kernel, by decide +kernel, by decide +kernel, by decide +kernel, rfl, by decide +kernel⟩
theorem ok_ends (D : Dfn K mg "ends_free" s_ends_free ["rules", "word"]) (hany : mg "any" = none) : Ok P w K mg base "ends_free" ["rules", "word"] 1 spEnds := by
  refine D.ok scEnds (fun vs H Q E h => ?_) (fun f cdv A outer s H vs Q E hr h => ?_)
  · obtain ⟨a, rs, w, rfl, _⟩ := h
    rfl
  obtain ⟨a, rs, w, rfl, hS, hl, q⟩ := h
  refine ⟨_, pss_one (ps_ret (pe_not (pe_callB (call_any rfl) rfl hany boot_any (pa_cons (pe_comp (g := gName 0) (tt := tNoTest) (te := tBM K "str" rEnds1 (tVar 1) (tCons (tOp (rIxT K) (tVar 0) (tC (.int 0))) tNil)) rfl ccEnds (pi_list (pv 0)) (by intro cl C ex s H; exact ⟨pg_name (i := 0) ccEnds.nd rfl (.inl rfl), pf_nil, pe_bm PySem.F.plainAttrs_str PySem.F.slot_str_endswith PySem.F.type_str_endswith mt_ends1 (pv 1) (pa_cons (pe_ix ix_tup (pv 0) pe_int (fun _ _ => rfl)) pa_nil)⟩)) pa_nil)))), ?_⟩
  try dsimp only [cxOf, Cx.nox]
  obtain ⟨vs, hvs, hp⟩ := id hS
  have lv := pairLen hp
  refine ⟨_, rfl, a, rfl, ⟨_, SqL.of hvs⟩, ?_⟩
  refine turns_list (K := K) (a := a) (xs := vs) (fun i acc H' => H' = H ∧ i ≤ rs.length ∧ acc = ((rs.take i).map fun r => V.bl (sufB r.1 w)))
    ⟨rfl, Nat.zero_le _, rfl⟩ (fun i acc H' ⟨_, hi, e⟩ => by rw [e, List.length_map, List.length_take]; exact Nat.min_le_left _ _) (small1000 (by lia)) (fun i acc H' ⟨e, _⟩ => by rw [e]; exact SqL.of hvs) (fun i acc H' x hx ⟨e, hi, hacc⟩ => ?_) (fun acc H' ⟨e, hi, hacc⟩ r hr' => ?_)
  · subst e
    obtain ⟨r, hr2, p, rfl, hpt⟩ := pairGetL hp hx
    have hil := (List.getElem?_eq_some_iff.mp hr2).1
    refine ⟨rfl, noTest ?_⟩
    refine ⟨_, rfl, rfl, _, rfl, p, _, 0, _, rfl, rfl, SqT.of hpt, rfl, w, r.1, rfl, rfl, rfl, hil, ?_⟩
    rw [List.take_add_one, hr2, hacc, List.map_append]
    rfl
  · subst e
    rw [lv, List.take_of_length_le (Nat.le_refl _)] at hacc
    have e1 : acc = (rs.map fun r => sufB r.1 w).map V.bl := by rw [hacc, List.map_map]; rfl
    refine ⟨r, rs.map fun r => sufB r.1 w, rfl, SqL.of (by rw [upd_same, e1]), ?_⟩
    refine ⟨_, rfl, ?_⟩
    have e2 : (rs.map fun r => sufB r.1 w).any id = endsB rs w := by rw [List.any_map]; rfl
    rw [e2]
    exact q _ (same_new hr' _)
theorem scLon : FnScope ["rules", "signs", "words", "longer", "word"] ["rules", "signs", "words"] (defScope s_longer_by_one) := ⟨rfl, rfl, rfl, by decide +kernel, rfl, by decide +kernel, by decide +kernel⟩
def forB : List Stmt → Nat → Expr
  | b, i => match b.getD i (.Pass ⟨0, 0, 0, 0⟩) with
    | .For _ _ (.Expr e _ :: _) _ _ => e
    | _ => .Name "" ⟨0, 0, 0, 0⟩
theorem ccLon : CompScope (defScope s_longer_by_one) ["rules", "signs", "words", "longer", "word"] (compSc (argE (forB (defBody s_longer_by_one) 1) 0)) ["sign"] ["rules", "word"] [0, 4] := ⟨rfl, by decide +kernel, by decide +kernel, by decide +kernel, by decide +kernel, rfl, by decide +kernel⟩
inductive LnW (a b l : Addr) (rs : List Rl) (sg : Wd) (ws : List Wd) (H : Hp) (i : Nat) (σ : St) (H' : Hp) : Prop
  | mk (h1_ : Same H H') (h2_ : i ≤ ws.length) (x4 : Option V) (h3_ : σ = [some (.ref a), some (tx sg), some (.ref b), some (.ref l), x4]) (h4_ : H' l = some (.lst ((lonB rs sg (ws.take i)).map tx))) : LnW a b l rs sg ws H i σ H'
theorem ok_longer (D : Dfn K mg "longer_by_one" s_longer_by_one ["rules", "signs", "words"]) (OE : Ok P w K mg base "ends_free" ["rules", "word"] 1 spEnds) : Ok P w K mg base "longer_by_one" ["rules", "signs", "words"] 2 spLonger := by
  refine D.ok scLon (fun vs H Q E h => ?_) (fun f cdv A outer s H vs Q E hr h => ?_)
  · obtain ⟨a, b, rs, sg, ws, rfl, _⟩ := h
    rfl
  obtain ⟨a, b, rs, sg, ws, rfl, hS, hl, hg, hB, hw, hwl, q⟩ := h
  refine ⟨_, pss_cons (ps_set (i := 3) scLon.nd rfl (Or.inl rfl) (pe_lst pa_nil))
    (pss_cons (ps_for PassesOwn.never rfl (pi_list (pv 2)) (pg_name (i := 4) scLon.nd rfl (Or.inr rfl))
      (pss_one (ps_expr (pe_bm PySem.F.plainAttrs_list PySem.F.slot_list_extend PySem.F.type_list_extend mt_extend (pv 3) (pa_cons (pe_comp (g := gName 0) (tt := tB (tCall spEnds [] E0 (tCons (tVar 1) (tCons (tOp rAddS (tVar 2) (tVar 0)) tNil)))) (te := tOp rAddS (tVar 2) (tVar 0)) rfl ccLon (pi_str (pv 1))
        (by intro cl C ex s H; exact ⟨pg_name (i := 0) ccLon.nd rfl (.inl rfl), pf_one (pt_val (pe_fn OE hr rfl (pa_cons (pv 1) (pa_cons (pe_op op_addS (pv 2) (pv 0)) pa_nil)))), pe_op op_addS (pv 2) (pv 0)⟩)) pa_nil)))))
    (pss_one (ps_ret (pv 3)))), ?_⟩
  try dsimp only [cxOf, Cx.nox]
  refine ⟨(by show 0 ≤ sizeLine; decide), fun l hl => ?_⟩
  have s1 : Same H (upd H l (.lst [])) := same_new hl _
  refine ⟨_, rfl, b, rfl, ⟨_, SqL.of (s1 _ _ hB)⟩, ?_⟩
  refine for_list (K := K) (a := b) (xs := ws.map tx) (LnW a b l rs sg ws H) ⟨s1, Nat.zero_le _, _, rfl, upd_same⟩ (fun i σ H' _ (.mk s' _ _ _ _) => SqL.of (s' _ _ hB)) ?_ ?_
  · rintro i v σ H1 hv ⟨s2, hi, x4, rfl, hL⟩
    rw [List.getElem?_map] at hv
    cases hc : ws[i]? with
    | none => rw [hc] at hv; cases hv
    | some wd =>
      rw [hc] at hv
      cases hv
      have hil : i < ws.length := (List.getElem?_eq_some_iff.mp hc).1
      have hwd : wd.length ≤ 100 := hwl _ (List.mem_of_getElem? hc)
      refine ⟨_, rfl, .inl ⟨rfl, _, SqL.of hL⟩, _, rfl, Sx sg, rfl, ?_⟩
      have zs : (Sx sg).cps.size = sg.length := by simp [Sx]
      refine turns_str (z := Sx sg) (fun j acc H' => Same H1 H' ∧ j ≤ sg.length ∧ acc = (((sg.take j).map fun c => wd ++ [c]).filter fun v => !endsB rs v).map tx)
        ⟨fun _ _ e => e, Nat.zero_le _, rfl⟩ (fun j acc H' ⟨_, hj, e⟩ => ?_) (small1000 (by rw [zs]; lia)) (fun j acc H' c hcs ⟨s3, hj, hacc⟩ => ?_) (fun acc H' ⟨s3, hj, hacc⟩ p hp => ?_)
      · rw [e, List.length_map]
        refine Nat.le_trans (List.length_filter_le ..) ?_
        rw [List.length_map, List.length_take]
        exact Nat.min_le_left _ _
      · have hcs' : sg[j]? = some c := by
          have : (Sx sg).cps.toList[j]? = some c := by rw [Array.getElem?_toList]; exact hcs
          rwa [Sx_cps] at this
        have hjl := (List.getElem?_eq_some_iff.mp hcs').1
        refine ⟨rfl, ?_⟩
        refine ⟨_, rfl, _, rfl, _, rfl, wd, [c], rfl, rfl, by rw [List.length_singleton, sizeLine_eq]; lia, a, rs, wd ++ [c], rfl, (hS.mono s2).mono s3, by lia, fun H3 s4 => ?_⟩
        refine ⟨_, rfl, ?_⟩
        have step : ((sg.take (j + 1)).map fun c => wd ++ [c]).filter (fun v => !endsB rs v) = ((sg.take j).map fun c => wd ++ [c]).filter (fun v => !endsB rs v) ++ (if (!endsB rs (wd ++ [c])) = true then [wd ++ [c]] else []) := by
          rw [List.take_add_one, hcs', List.map_append, List.filter_append]
          congr 1
          show List.filter (fun v => !endsB rs v) [wd ++ [c]] = _
          rw [List.filter_cons, List.filter_nil]
        refine ite2 (fun ct => ?_) (fun ct => ?_)
        · refine ⟨_, rfl, _, rfl, wd, [c], rfl, rfl, by rw [List.length_singleton, sizeLine_eq]; lia, s3.trans s4, hjl, ?_⟩
          rw [step, if_pos ct, List.map_append, hacc]
          rfl
        · refine ⟨s3.trans s4, hjl, ?_⟩
          rw [step, if_neg ct, List.append_nil, hacc]
      · rw [zs, List.take_of_length_le (Nat.le_refl _)] at hacc
        have s5 := same_new hp (.lst acc)
        have hl5 := s5 _ _ (s3 _ _ hL)
        have n1 := lon_len (rs := rs) hg (ws.take i)
        have n2 : (ws.take i).length ≤ ws.length := by rw [List.length_take]; exact Nat.min_le_right _ _
        have n3 : acc.length ≤ 3 := by
          rw [hacc, List.length_map]
          refine Nat.le_trans (List.length_filter_le ..) ?_
          rw [List.length_map]; exact hg
        refine ⟨l, p, _, _, rfl, rfl, hl5, upd_same, by rw [List.length_map, sizeLine_eq]; lia, (s2.trans (s3.trans s5)).own hl _, hil, _, rfl, ?_⟩
        rw [upd_same, hacc, ← List.map_append, List.take_add_one, hc]
        unfold lonB
        rw [List.flatMap_append]
        simp
  · rintro σ H1 ⟨s2, hi, x4, rfl, hL⟩
    rw [List.length_map, List.take_of_length_le (Nat.le_refl _)] at hL
    exact ⟨_, rfl, q l H1 s2 hl hL⟩
end
end Sg
namespace Sg
open PySem L2
inductive spLetters (vs : List V) (H : Hp) (Q : VK) (E_ : XK) : Prop
  | mk (z : _) (x : _) (y : _) (h1_ : vs = [.str z, tx [x, y]]) (h2_ : z.cps.size ≤ 100) (h3_ : ∀ H', Same H H' → Q (tx (z.cps.toList.map fun c => if c = 98 then y else x)) H') : spLetters vs H Q E_
inductive spRuled (K : PySem.W.Frag) (vs : List V) (H : Hp) (Q : VK) (E_ : XK) : Prop
  | mk (a : Addr) (ns : List Int) (x y : Nat) (h1_ : vs = [.ref a, tx [x, y]]) (h2_ : x < y) (h3_ : SqL K H a (ns.map V.int)) (h4_ : ns.length ≤ 100) (h5_ : ∀ r rs H', Same H H' → RsAt H' r rs → Good rs [x, y] 11 → 2 * rs.length ≤ ns.length → Q (.ref r) H') : spRuled K vs H Q E_
theorem flat_one {α β : Type} (f : α → β) : ∀ xs : List α, (xs.map fun c => [f c]).flatten = xs.map f
  | [] => rfl
  | x :: r => by rw [List.map_cons, List.flatten_cons, flat_one f r]; rfl
theorem sum_one {α : Type} (f : α → Nat) (xs : List α) : ((xs.map fun c => [f c]).map List.length).sum = xs.length := by
  induction xs with
  | nil => rfl
  | cons x r ih => simp only [List.map_cons, List.sum_cons, ih, List.length_cons, List.length_nil]; exact Nat.le_antisymm (θz [_] (0+1+θ0) (θ0+1) rfl) (θz [_] (θ0+1) (0+1+θ0) rfl)
theorem over_map' {α : Type} {x y : Nat} (p : α → Prop) [DecidablePred p] (xs : List α) : Over [x, y] (xs.map fun c => if p c then y else x) := fun c hc => by
  obtain ⟨z, _, e⟩ := List.mem_map.mp hc
  rw [← e]
  split <;> simp
section
variable {P : Program} {w : World} {K : PySem.W.Frag} {mg : Str → Option Value} {base : Heap}
theorem scLetters : FnScope ["_law_word", "_law_two"] ["_law_word", "_law_two"] (defScope sLetters) := ⟨rfl, rfl, rfl, by decide +kernel, rfl, by decide +kernel, by decide +kernel⟩
theorem ccLetters : CompScope (defScope sLetters) ["_law_word", "_law_two"] (compSc (argE (retE (defBody sLetters)) 0)) ["_law_sign"] ["_law_two"] [1] := ⟨rfl, by decide +kernel, by decide +kernel, by decide +kernel, by decide +kernel, rfl, by decide +kernel⟩
theorem str_b (c : Nat) : decide (V.str ⟨#[c]⟩ = V.str "b") = decide (c = 98) := by
  have e : ("b" : Str) = ⟨#[98]⟩ := by decide +kernel
  rw [e, Bool.eq_iff_iff, decide_eq_true_iff, decide_eq_true_iff]
  constructor
  · intro h
    have := congrArg (fun z : Str => z.cps.toList) (V.str.inj h)
    simpa using this
  · intro h
    rw [h]
theorem str_nil : V.str "" = V.str (Sx []) := by decide +kernel
theorem ok_letters (D : Dfn K mg "_law_in_letters" sLetters ["_law_word", "_law_two"]) (B : Blt mg) : Ok P w K mg base "_law_in_letters" ["_law_word", "_law_two"] 1 spLetters := by
  refine D.ok scLetters (fun vs H Q E h => ?_) (fun f cdv A outer s H vs Q E hr h => ?_)
  · obtain ⟨z, x, y, rfl, _⟩ := h
    rfl
  obtain ⟨z, x, y, rfl, hz, q⟩ := h
  refine ⟨_, pss_one (ps_ret (pe_bm PySem.F.plainAttrs_str PySem.F.slot_str_join PySem.F.type_str_join mt_join pe_str (pa_cons (pe_comp rfl ccLetters (pi_str (pv 0)) (by intro cl C ex s H; exact ⟨pg_name (i := 0) ccLetters.nd rfl (.inl rfl), pf_nil, pe_ix ix_str (pv 1) (pe_callTy call_int1 rfl B.it PyProof.Rows.boot_int (pa_cons (pe_cmpR op_eq (pv 0) pe_str (nomark _)) pa_nil)) (fun _ _ => rfl)⟩)) pa_nil))), ?_⟩
  try dsimp only [cxOf, Cx.nox]
  refine ⟨rfl, _, rfl, z, rfl, ?_⟩
  refine turns_str (z := z) (fun i acc H' => H' = H ∧ i ≤ z.cps.size ∧ acc = ((z.cps.toList.take i).map fun c => tx [if c = 98 then y else x]))
    ⟨rfl, Nat.zero_le _, rfl⟩ (fun i acc H' ⟨_, hi, e⟩ => ?_) (small1000 (by exact Nat.le_trans hz (by decide))) (fun i acc H' c hc ⟨e, hi, hacc⟩ => ?_) (fun acc H' ⟨e, hi, hacc⟩ p hp => ?_)
  · rw [e, List.length_map, List.length_take]
    exact (θi _ _)
  · subst e
    have hc' : z.cps.toList[i]? = some c := by rw [Array.getElem?_toList]; exact hc
    have hil : i < z.cps.size := by
      have := (List.getElem?_eq_some_iff.mp hc').1
      simpa using this
    refine ⟨rfl, noTest ?_⟩
    refine ⟨_, rfl, _, rfl, rfl, .inr ⟨_, rfl, Sx [x, y], _, (if c = 98 then y else x), rfl, rfl, (by show 2 ≤ sizeLine; decide), ?_, rfl, hil, ?_⟩⟩
    · show atI [x, y] (if decide (V.str ⟨#[c]⟩ = V.str "b") = true then 1 else 0) = _
      rw [str_b]
      by_cases h : c = 98
      · rw [if_pos (decide_eq_true h), if_pos h]; rfl
      · rw [if_neg (by simpa using h), if_neg h]; rfl
    · rw [List.take_add_one, hc', hacc]
      simp
  · subst e
    have hsz : z.cps.toList.length = z.cps.size := by simp
    have hacc' : acc = ((z.cps.toList.map fun c => [if c = 98 then y else x]).map fun w => V.str (Sx w)) := by
      rw [hacc, List.map_map, List.take_of_length_le (by rw [hsz]; exact Nat.le_refl _)]
      rfl
    refine ⟨p, (z.cps.toList.map fun c => [if c = 98 then y else x]), str_nil, rfl, SqL.of (by rw [upd_same, hacc']), ?_, ?_⟩
    · rw [sum_one, hsz]
      exact Nat.le_trans hz (by decide)
    · rw [flat_one]
      exact q _ (same_new hp _)
theorem letters_eq : ("abcdefghijklmnopqrstuvwxyz" : Str).cps.toList = (List.range 26).map (97 + ·) := by decide +kernel
theorem letter_at {i : Int} (h0 : 0 ≤ i) (h : i < 26) : atI ("abcdefghijklmnopqrstuvwxyz" : Str).cps.toList i = some (97 + i.toNat) := by
  obtain ⟨k, rfl⟩ : ∃ k : Nat, i = (k : Int) := ⟨i.toNat, by lia⟩
  rw [letters_eq, Int.toNat_natCast]
  refine atI_nat ?_
  rw [List.getElem?_map, List.getElem?_range (by lia)]
  rfl
theorem scPair : FnScope ["_law_script", "_law_letters", "_law_cell", "_law_first", "_law_second"] ["_law_script"] (defScope sPair) := ⟨rfl, rfl, rfl, by decide +kernel, rfl, by decide +kernel, by decide +kernel⟩
end
end Sg
namespace Sg
open PySem L2
theorem wrd_stop {rs : List Rl} {sg : Wd} {j : Nat} (h : wrdB rs sg j = []) : ∀ k, wrdB rs sg (j + k) = []
  | 0 => h
  | k + 1 => by
    show lonB rs sg (wrdB rs sg (j + k)) = []
    rw [wrd_stop h k]
    rfl
theorem all_stop {rs : List Rl} {sg : Wd} {j : Nat} (h : wrdB rs sg j = []) : ∀ k, allB rs sg (j + k + 1) = allB rs sg (j + 1)
  | 0 => rfl
  | k + 1 => by
    rw [show j + (k + 1) + 1 = (j + k + 1) + 1 by lia, all_succ, all_stop h k]
    have := wrd_stop h (k + 1)
    rw [show j + (k + 1) = j + k + 1 by lia] at this
    rw [this, List.append_nil]
def frmL (rs : List Rl) (sg : Wd) (most : Int) : List Wd := if most < 0 then [] else allB rs sg (min most.toNat 4 + 1)
theorem all_len {rs : List Rl} {sg : Wd} (h : sg.length ≤ 3) : ∀ n, n ≤ 6 → (allB rs sg n).length ≤ n * 729
  | 0, _ => Nat.zero_le _
  | n + 1, hn => by
    rw [all_succ, List.length_append]
    have h1 := all_len (rs := rs) h n (by lia)
    have h2 := wrd_num (rs := rs) h n
    have h3 : 3 ^ n ≤ 3 ^ 6 := Nat.pow_le_pow_right (by decide) (by lia)
    have e : (3 : Nat) ^ 6 = 729 := by decide
    lia
theorem wrd_few {rs : List Rl} {sg : Wd} (h : sg.length ≤ 3) {n : Nat} (hn : n ≤ 4) : (wrdB rs sg n).length ≤ 81 := by
  have h2 := wrd_num (rs := rs) h n
  have h3 : 3 ^ n ≤ 3 ^ 4 := Nat.pow_le_pow_right (by decide) hn
  have e : (3 : Nat) ^ 4 = 81 := by decide
  lia
inductive spForms (vs : List V) (H : Hp) (Q : VK) (E_ : XK) : Prop
  | mk (a : Addr) (rs : List Rl) (sg : Wd) (most : Int) (h1_ : vs = [.ref a, tx sg, .int most]) (h2_ : RsAt H a rs) (h3_ : rs.length ≤ 100) (h4_ : sg.length ≤ 3) (h5_ : most ≤ 4 ∨ wrdB rs sg 4 = []) (h6_ : ∀ l H', Same H H' → H' l = some (.lst ((frmL rs sg most).map tx)) → Q (.ref l) H') : spForms vs H Q E_
inductive FrW (a ll : Addr) (rs : List Rl) (sg : Wd) (most : Int) (H : Hp) (m : Nat) (σ : St) (H' : Hp) : Prop
  | mk (j : Nat) (wl : Addr) (h0_ : m = 5 - j) (h1_ : σ = [some (.ref a), some (tx sg), some (.int most), some (.ref wl), some (.ref ll), some (.int (j : Int))]) (h2_ : Same H H') (h3_ : H' wl = some (.lst ((wrdB rs sg j).map tx))) (h4_ : H' ll = some (.lst ((allB rs sg (j + 1)).map tx))) (h5_ : j ≤ 4) (h6_ : (j : Int) ≤ most) (h7_ : wl ≠ ll) : FrW a ll rs sg most H m σ H'
section
variable {P : Program} {w : World} {K : PySem.W.Frag} {mg : Str → Option Value} {base : Heap}
theorem scFrm : FnScope ["rules", "signs", "most", "words", "listed", "length"] ["rules", "signs", "most"] (defScope sForms) := ⟨rfl, rfl, rfl, by decide +kernel, rfl, by decide +kernel, by decide +kernel⟩
theorem ok_forms (D : Dfn K mg "forms" sForms ["rules", "signs", "most"]) (OL : Ok P w K mg base "longer_by_one" ["rules", "signs", "words"] 2 spLonger) : Ok P w K mg base "forms" ["rules", "signs", "most"] 3 spForms := by
  refine D.ok scFrm (fun vs H Q E h => ?_) (fun f cdv A outer s H vs Q E hr h => ?_)
  · obtain ⟨a, rs, sg, most, rfl, _⟩ := h
    rfl
  obtain ⟨a, rs, sg, most, rfl, hS, hl, hg, hm, q⟩ := h
  refine ⟨_, pss_cons (ps_if (pt_cmpR op_lt (pv 2) pe_int (nomark _)) (pss_one (ps_ret (pe_lst pa_nil))) pss_nil)
    (pss_cons (ps_set (i := 3) scFrm.nd rfl (Or.inl rfl) (pe_lst (pa_cons pe_str pa_nil)))
    (pss_cons (ps_set (i := 4) scFrm.nd rfl (Or.inl rfl) (pe_lst (pa_cons pe_str pa_nil)))
    (pss_cons (ps_set (i := 5) scFrm.nd rfl (Or.inl rfl) pe_int)
    (pss_cons (ps_while PassesOwn.never (PW.pt (pw_and (pt_truth (pv 3) (fun _ => rfl)) (pw_and1 (pt_cmpR op_lt (pv 5) (pv 2) (nomark _)))))
      (pss_cons (ps_set (i := 3) scFrm.nd rfl (Or.inl rfl) (pe_fn OL hr rfl (pa_cons (pv 0) (pa_cons (pv 1) (pa_cons (pv 3) pa_nil)))))
      (pss_cons (ps_expr (pe_bm PySem.F.plainAttrs_list PySem.F.slot_list_extend PySem.F.type_list_extend mt_extend (pv 4) (pa_cons (pv 3) pa_nil)))
      (pss_one (ps_aug (i := 5) scFrm.nd rfl (Or.inl rfl) pe_int ip_add)))))
    (pss_one (ps_ret (pv 4))))))), ?_⟩
  try dsimp only [cxOf, Cx.nox]
  refine ⟨_, rfl, _, _, rfl, rfl, _, rfl, ?_⟩
  refine ite2 (fun c => ?_) (fun c => ?_)
  · have hc : most < 0 := of_decide_eq_true c
    refine ⟨(by show 0 ≤ sizeLine; decide), fun l hl2 => q l _ (same_new hl2 _) ?_⟩
    rw [upd_same]
    unfold frmL
    rw [if_pos hc]
    rfl
  have hc : 0 ≤ most := by
    have : ¬ most < 0 := fun z => c (decide_eq_true z)
    lia
  refine ⟨(by show 1 ≤ sizeLine; decide), fun wl hwl => ?_⟩
  refine ⟨(by show 1 ≤ sizeLine; decide), fun ll hll => ?_⟩
  have sW : Same H (upd H wl (.lst [V.str ""])) := same_new hwl _
  have sL := same_new hll (.lst [V.str ""])
  have nwl : wl ≠ ll := fun z => by rw [z, upd_same] at hll; cases hll
  have hlf : H ll = none := by
    cases e : H ll with
    | none => rfl
    | some o => rw [sW _ _ e] at hll; cases hll
  refine ⟨FrW a ll rs sg most H, ⟨5, 0, wl, rfl, rfl, sW.trans sL, ?_, ?_, Nat.zero_le _, hc, nwl⟩, ?_⟩
  · rw [upd_ne nwl, upd_same, str_nil]
    rfl
  · rw [upd_same, str_nil, all_succ]
    rfl
  rintro m σ H1 ⟨j, wl1, rfl, rfl, s1, hW, hL, hj, hjm, nw⟩
  refine ⟨_, rfl, _, .inl ⟨_, SqL.of hW, rfl⟩, ?_⟩
  have out : ∀ H2, Same H1 H2 → (wrdB rs sg j = [] ∨ ¬ (j : Int) < most) → Q (.ref ll) H2 := fun H2 s2 ho => by
    refine q ll H2 (s1.trans s2) ?_
    rw [s2 _ _ hL]
    unfold frmL
    rw [if_neg (by lia)]
    rcases ho with z | z
    · obtain ⟨k, hk⟩ : ∃ k, min most.toNat 4 = j + k := ⟨min most.toNat 4 - j, by lia⟩
      rw [hk, all_stop z k]
    · rw [show min most.toNat 4 = j by lia]
  cases hw0 : wrdB rs sg j with
  | nil =>
    refine iteF (iteF ⟨_, rfl, out _ (fun _ _ e => e) (.inl hw0)⟩)
  | cons v vs =>
    refine iteT ?_
    refine ⟨_, rfl, _, rfl, _, _, rfl, rfl, _, rfl, ?_⟩
    refine ite2 (fun ct => ?_) (fun ct => ?_)
    · have hlt : (j : Int) < most := of_decide_eq_true ct
      have hj4 : j + 1 ≤ 4 := by
        rcases hm with z | z
        · lia
        · rcases Nat.lt_or_ge j 4 with y | y
          · exact y
          · obtain rfl : j = 4 := by lia
            rw [z] at hw0; cases hw0
      refine ⟨fun σ' H' => ∃ m', m' < 5 - j ∧ FrW a ll rs sg most H m' σ' H', fun _ _ h => h, ?_⟩
      refine ⟨_, rfl, _, rfl, _, rfl, a, wl1, rs, sg, wrdB rs sg j, rfl, hS.mono s1, hl, hg, hW, Nat.le_trans (wrd_few hg hj) (by decide), fun w hw => by rw [wrd_len j w hw]; lia, fun l2 H2 s2 hl2 hlon => ?_⟩
      have hL2 := s2 _ _ hL
      have nl2 : l2 ≠ ll := fun z => by rw [z] at hl2; rw [hL] at hl2; cases hl2
      have b1 := all_len (rs := rs) hg (j + 1) (by lia)
      have b2 := wrd_few (rs := rs) hg hj4
      have e5 : lonB rs sg (wrdB rs sg j) = wrdB rs sg (j + 1) := rfl
      refine ⟨_, rfl, .inl ⟨rfl, _, SqL.of hL2⟩, _, rfl, ll, l2, _, _, rfl, rfl, hL2, hlon, ?_, ?_⟩
      · rw [List.length_map, List.length_map, e5, sizeLine_eq]
        lia
      refine ⟨_, rfl, _, _, rfl, rfl, ?_⟩
      refine ⟨5 - (j + 1), by lia, j + 1, l2, rfl, rfl, (s1.trans s2).own hlf _, ?_, ?_, hj4, by lia, nl2⟩
      · rw [upd_ne nl2, hlon]
        rfl
      · rw [upd_same, ← List.map_append, e5, ← all_succ]
    · exact ⟨_, rfl, out _ (fun _ _ e => e) (.inr fun z => ct (decide_eq_true z))⟩
end
end Sg
namespace Sg
open PySem L2
def menu : List Str := ["", "a", "b", "aa", "ab", "ba", "bb", "aba", "bab", "aab", "abb", "baa", "bba", "aaa"]
def lett (x y : Nat) (z : Str) : Wd := z.cps.toList.map fun c => if c = 98 then y else x
theorem lett_over (x y : Nat) (z : Str) : Over [x, y] (lett x y z) := over_map' _ _
theorem menu_len : ∀ z ∈ menu, z.cps.size ≤ 3 := by decide +kernel
theorem lett_len {x y : Nat} {z : Str} (h : z ∈ menu) : (lett x y z).length ≤ 3 := by
  have := menu_len z h
  unfold lett
  rw [List.length_map]
  simpa using this
theorem menu_at {x y : Nat} (c : Int) : ∃ u : Wd, atI ((menu.map (lett x y)).map tx) (c % 14) = some (tx u) ∧ Over [x, y] u ∧ u.length ≤ 3 := by
  obtain ⟨k, hk⟩ : ∃ k : Nat, c % 14 = (k : Int) := ⟨(c % 14).toNat, by lia⟩
  have hk14 : k < menu.length := by
    show k < 14
    lia
  rw [hk]
  refine ⟨lett x y menu[k], atI_nat ?_, lett_over _ _ _, lett_len (List.getElem_mem hk14)⟩
  rw [List.map_map, List.getElem?_map, List.getElem?_eq_getElem hk14]
  rfl
theorem over_app {al a b : Wd} (h1 : Over al a) (h2 : Over al b) : Over al (a ++ b) := fun c hc => (List.mem_append.mp hc).elim (h1 c) (h2 c)
theorem bef_tot {a b : Wd} (h : bef a b = false) (hne : a ≠ b) : bef b a = true := by
  unfold bef at h ⊢
  by_cases hl : a.length = b.length
  · rw [if_pos hl] at h
    rw [if_pos hl.symm]
    have h : ¬ a < b := by simpa using h
    have : b ≤ a := List.not_lt.mp h
    rcases List.le_iff_lt_or_eq.mp this with h' | h'
    · exact decide_eq_true h'
    · exact absurd h'.symm hne
  · rw [if_neg hl] at h
    rw [if_neg (fun z => hl z.symm)]
    have h : ¬ a.length < b.length := by simpa using h
    exact decide_eq_true (by lia)
theorem Good.snoc {rs : List Rl} {al : Wd} {n : Nat} (g : Good rs al n) {l r : Wd} (hb : bef r l = true) (hl : Over al l) (hr : Over al r) (hn : l.length ≤ n) : Good (rs ++ [(l, r)]) al n := by
  refine ⟨g.inc, fun x hx => ?_, fun x hx => ?_, fun x hx => ?_⟩
  all_goals rcases List.mem_append.mp hx with hx | hx
  · exact g.bf x hx
  · have : x = (l, r) := by simpa using hx
    rw [this]; exact hb
  · exact g.sm x hx
  · have : x = (l, r) := by simpa using hx
    rw [this]; exact ⟨hl, hr⟩
  · exact g.ln x hx
  · have : x = (l, r) := by simpa using hx
    rw [this]; exact hn
theorem RsAt.snoc {H : Hp} {l : Addr} {sv : List V} {ss : List Rl} {v : V} {s : Rl} (h : H l = some (.lst sv)) (hp : Paired (RlAt H) sv ss) (hv : RlAt H v s) : RsAt (upd H l (.lst (sv ++ [v]))) l (ss ++ [s]) :=
  ⟨_, upd_same, pairImp (pairApp hp (.cons hv .nil)) fun _ _ z => z.mono (tups_own h)⟩
end Sg
namespace Sg
open PySem L2
section
variable {P : Program} {w : World} {K : PySem.W.Frag} {mg : Str → Option Value} {base : Heap}
theorem scSooner : FnScope ["_law_one", "_law_other"] ["_law_one", "_law_other"] (defScope sSooner) := ⟨rfl, rfl, rfl, by decide +kernel, rfl, by decide +kernel, by decide +kernel⟩
theorem ok_sooner (D : Dfn K mg "_law_sooner" sSooner ["_law_one", "_law_other"]) (B : Blt mg) : Ok P w K mg base "_law_sooner" ["_law_one", "_law_other"] 1 spBef := by
  refine D.ok scSooner (fun vs H Q E h => ?_) (fun f cdv A outer s H vs Q E hr h => ?_)
  · obtain ⟨a, b, rfl, _⟩ := h
    rfl
  obtain ⟨a, b, rfl, ha, hb, q⟩ := h
  refine ⟨_, pss_one (ps_ret (pe_cmpR (op_ltF hr.units0) (pe_tup (pa_cons (pe_callB call_lenS rfl B.len PySem.boot_len (pa_cons (pv 0) pa_nil)) (pa_cons (pv 0) pa_nil)))
    (pe_tup (pa_cons (pe_callB call_lenS rfl B.len PySem.boot_len (pa_cons (pv 1) pa_nil)) (pa_cons (pv 1) pa_nil))) (nomark _))), ?_⟩
  try dsimp only [cxOf, Cx.nox]
  refine ⟨_, rfl, a, rfl, szl ha, _, rfl, (by show 2 ≤ sizeLine; decide), fun p hp => ?_⟩
  refine ⟨_, rfl, b, rfl, szl hb, _, rfl, (by show 2 ≤ sizeLine; decide), fun p2 hp2 => ?_⟩
  have hpp : p ≠ p2 := ne_of_none upd_same hp2
  refine ⟨p, p2, _, _, rfl, rfl, SqT.of (by rw [upd_ne hpp]; exact upd_same), SqT.of upd_same, rfl, ?_⟩
  rw [lexV_bef]
  exact q _ ((same_new hp _).trans (same_new hp2 _))
end
end Sg
namespace Sg
open PySem L2
section
variable {P : Program} {w : World} {K : PySem.W.Frag} {mg : Str → Option Value} {base : Heap}
theorem scRuled : FnScope ["_law_cells", "_law_two", "_law_words", "_law_rules", "_law_k", "_law_one", "_law_other"] ["_law_cells", "_law_two"] (defScope sRuled) := ⟨rfl, rfl, rfl, by decide +kernel, rfl, by decide +kernel, by decide +kernel⟩
theorem ccRuled : CompScope (defScope sRuled) ["_law_cells", "_law_two", "_law_words", "_law_rules", "_law_k", "_law_one", "_law_other"] (compSc (asgE (defBody sRuled) 1)) ["_law_word"] ["_law_two"] [1] := ⟨rfl, by decide +kernel, by decide +kernel, by decide +kernel, by decide +kernel, rfl, by decide +kernel⟩
inductive RuW (K : PySem.W.Frag) (H0 : Hp) (a lw l : Addr) (x y : Nat) (i : Nat) (σ : St) (H : Hp) : Prop
  | mk (rs : _) (u : _) (v : _) (z : _) (h1_ : σ = [some (.ref a), some (tx [x, y]), some (.ref lw), some (.ref l), u, v, z]) (h2_ : Same H0 H) (h3_ : H lw = some (.lst ((menu.map (lett x y)).map tx))) (h4_ : RsAt H l rs) (h5_ : Good rs [x, y] 11) (h6_ : rs.length ≤ i) : RuW K H0 a lw l x y i σ H
theorem ruled_tail {H0 H : Hp} {a lw l : Addr} {x y i : Nat} {u : Option V} {one o2 : Wd} {rs : List Rl} {D : Ends} (hD : ∀ σ H, RuW K H0 a lw l x y (i + 1) σ H → D.nx σ H) (ov1 : Over [x, y] one) (ov2 : Over [x, y] o2) (ol1 : one.length ≤ 11) (ol2 : o2.length ≤ 11)
    (s3 : Same H0 H) (hl0 : H0 l = none) (hlw : H lw = some (.lst ((menu.map (lett x y)).map tx))) (nlw : lw ≠ l) (hR : RsAt H l rs) (hG : Good rs [x, y] 11) (hrl : rs.length ≤ i) (hi : i ≤ 100) :
    tIfS (tB (tCall spBef [] E0 (tCons (tVar 5) (tCons (tVar 6) tNil)))) (tDrop (tBM K "list" rAppend (tVar 3) (tCons (tTup (tCons (tVar 6) (tCons (tVar 5) tNil))) tNil)))
      (tIfS (tTest (tOp rNe (tVar 5) (tVar 6))) (tDrop (tBM K "list" rAppend (tVar 3) (tCons (tTup (tCons (tVar 5) (tCons (tVar 6) tNil))) tNil))) tNext) D
      [some (.ref a), some (tx [x, y]), some (.ref lw), some (.ref l), u, some (tx one), some (tx o2)] H := by
  refine ⟨_, rfl, _, rfl, one, o2, rfl, by lia, by lia, fun H3 t3 => ⟨_, rfl, ?_⟩⟩
  have hR3 := hR.mono t3
  have s4 := s3.trans t3
  have hlw3 := t3 _ _ hlw
  obtain ⟨rv, hrv, hrp⟩ := hR3
  have hrvl : rv.length = rs.length := pairLen hrp
  have fin : ∀ (p : Addr) (c d : Wd), H3 p = none → bef d c = true → Over [x, y] c → Over [x, y] d → c.length ≤ 11 → ∀ σ : St, σ = [some (.ref a), some (tx [x, y]), some (.ref lw), some (.ref l), u, some (tx one), some (tx o2)] →
      D.nx σ (upd (upd H3 p (.tup [tx c, tx d])) l (.lst (rv ++ [.ref p]))) := fun p c d hp hb hc hd hcl σ hσ => by
    have nlp : l ≠ p := ne_of_none hrv hp
    have hrv' : (upd H3 p (.tup [tx c, tx d])) l = some (.lst rv) := by rw [upd_ne nlp]; exact hrv
    have np : lw ≠ p := ne_of_none hlw3 hp
    refine hD _ _ ⟨rs ++ [(c, d)], _, _, _, hσ, (s4.trans (same_new hp _)).own hl0 _, by rw [upd_ne nlw, upd_ne np]; exact hlw3, ⟨_, upd_same, pairApp (pairImp hrp fun _ _ z => (z.mono (tups_of (same_new hp _))).mono (tups_own hrv')) (.cons ⟨p, rfl, ?_⟩ .nil)⟩, hG.snoc hb hc hd hcl, ?_⟩
    · exact tups_own hrv' _ _ upd_same
    · rw [List.length_append, List.length_singleton]
      lia
  cases hb : bef one o2 with
  | true =>
    refine iteT ?_
    refine ⟨_, rfl, .inl ⟨rfl, _, SqL.of hrv⟩, _, rfl, _, rfl, (by show 2 ≤ sizeLine; decide), fun p hp => ?_⟩
    have nlp : l ≠ p := ne_of_none hrv hp
    exact ⟨l, _, _, rfl, rfl, (by rw [upd_ne nlp]; exact hrv), small1000 (by lia), fin p o2 one hp hb ov2 ov1 ol2 _ rfl⟩
  | false =>
    refine iteF ?_
    refine ⟨_, rfl, _, rfl, rfl, _, rfl, ?_⟩
    by_cases he : one = o2
    · refine iteNS (by rw [he]) ?_
      exact hD _ _ ⟨rs, _, _, _, rfl, s4, hlw3, ⟨rv, hrv, hrp⟩, hG, by lia⟩
    · rw [decide_eq_false (fun z => he (Sx_inj (V.str.inj z)))]
      refine iteT ?_
      refine ⟨_, rfl, .inl ⟨rfl, _, SqL.of hrv⟩, _, rfl, _, rfl, (by show 2 ≤ sizeLine; decide), fun p hp => ?_⟩
      have nlp : l ≠ p := ne_of_none hrv hp
      exact ⟨l, _, _, rfl, rfl, (by rw [upd_ne nlp]; exact hrv), small1000 (by lia), fin p one o2 hp (bef_tot hb he) ov1 ov2 ol1 _ rfl⟩
theorem ok_ruled (D : Dfn K mg "_law_ruled" sRuled ["_law_cells", "_law_two"]) (B : Blt mg) (OL : Ok P w K mg base "_law_in_letters" ["_law_word", "_law_two"] 1 spLetters) (OS : Ok P w K mg base "_law_sooner" ["_law_one", "_law_other"] 1 spBef) :
    Ok P w K mg base "_law_ruled" ["_law_cells", "_law_two"] 2 (spRuled K) := by
  refine D.ok scRuled (fun vs H Q E h => ?_) (fun f cdv A outer s H vs Q E hr h => ?_)
  · obtain ⟨a, ns, x, y, rfl, _⟩ := h
    rfl
  obtain ⟨a, ns, x, y, rfl, hxy, hS, hn, q⟩ := h
  refine ⟨_, pss_cons (ps_set (i := 2) scRuled.nd rfl (Or.inl rfl) (pe_lst (pa_strs (zs := menu) (by rfl))))
    (pss_cons (ps_comp (i := 2) rfl ccRuled (pi_list (pv 2)) (by intro cl C ex s H; exact ⟨pg_name (i := 0) ccRuled.nd rfl (.inl rfl), pf_nil, pe_fn OL hr rfl (pa_cons (pv 0) (pa_cons (pv 1) pa_nil))⟩) scRuled.nd rfl rfl)
    (pss_cons (ps_set (i := 3) scRuled.nd rfl (Or.inl rfl) (pe_lst pa_nil))
    (pss_cons (ps_for PassesOwn.never rfl (pi_range1 rfl B.rng (pa_cons (pe_op op_fdiv (pe_callB call_len_seq rfl B.len PySem.boot_len (pa_cons (pv 0) pa_nil)) pe_int) pa_nil)) (pg_name (i := 4) scRuled.nd rfl (Or.inl rfl))
      (pss_cons (ps_set (i := 5) scRuled.nd rfl (Or.inl rfl) (pe_ix ix_list (pv 2) (pe_op op_mod (pe_ix ix_list (pv 0) (pe_op op_mul pe_int (pv 4)) (fun _ _ => rfl)) pe_int) (fun _ _ => rfl)))
      (pss_cons (ps_set (i := 6) scRuled.nd rfl (Or.inl rfl) (pe_ix ix_list (pv 2) (pe_op op_mod (pe_ix ix_list (pv 0) (pe_op op_add (pe_op op_mul pe_int (pv 4)) pe_int) (fun _ _ => rfl)) pe_int) (fun _ _ => rfl)))
      (pss_cons (ps_if (pt_cmpR op_eq (pe_op op_mod (pe_ix ix_list (pv 0) (pe_op op_mul pe_int (pv 4)) (fun _ _ => rfl)) pe_int) pe_int (nomark _))
        (pss_one (ps_set (i := 5) scRuled.nd rfl (Or.inl rfl) (pe_op op_addS (pe_op op_addS (pe_op op_addS (pv 5) (pv 6)) (pv 5)) (pv 1)))) pss_nil)
      (pss_one (ps_if (pt_val (pe_fn OS hr rfl (pa_cons (pv 5) (pa_cons (pv 6) pa_nil))))
        (pss_one (ps_expr (pe_bm PySem.F.plainAttrs_list PySem.F.slot_list_append PySem.F.type_list_append mt_append (pv 3) (pa_cons (pe_tup (pa_cons (pv 6) (pa_cons (pv 5) pa_nil))) pa_nil))))
        (pss_one (ps_if (pt_cmpR op_ne (pv 5) (pv 6) (nomark _))
          (pss_one (ps_expr (pe_bm PySem.F.plainAttrs_list PySem.F.slot_list_append PySem.F.type_list_append mt_append (pv 3) (pa_cons (pe_tup (pa_cons (pv 5) (pa_cons (pv 6) pa_nil))) pa_nil)))) pss_nil))))))))
    (pss_one (ps_ret (pv 3)))))), ?_⟩
  try dsimp only [cxOf, Cx.nox]
  refine ⟨(by show 14 ≤ sizeLine; decide), fun p hp => ?_⟩
  have s1 : Same H (upd H p (.lst (menu.map V.str))) := same_new hp _
  refine ⟨_, rfl, p, rfl, ⟨_, SqL.of upd_same⟩, ?_⟩
  refine turns_list (K := K) (xs := menu.map V.str) (fun i acc H' => Same H H' ∧ H' p = some (.lst (menu.map V.str)) ∧ i ≤ menu.length ∧ acc = (((menu.take i).map (lett x y)).map tx))
    ⟨s1, upd_same, Nat.zero_le _, rfl⟩ (fun i acc H' ⟨_, _, hi, e⟩ => ?_) (by show 14 < sizeLine; decide) (fun i acc H' ⟨_, e, _, _⟩ => SqL.of e) (fun i acc H' v hv ⟨s', e, hi, hacc⟩ => ?_) (fun acc H' ⟨s', e, hi, hacc⟩ lw hlw => ?_)
  · rw [e, List.length_map, List.length_map, List.length_take]
    lia
  · rw [List.getElem?_map] at hv
    cases hz : menu[i]? with
    | none => rw [hz] at hv; cases hv
    | some z =>
      rw [hz] at hv
      cases hv
      have hil : i < menu.length := (List.getElem?_eq_some_iff.mp hz).1
      have hzm := menu_len z (List.mem_of_getElem? hz)
      refine ⟨rfl, noTest ?_⟩
      refine ⟨_, rfl, _, rfl, z, x, y, rfl, by lia, fun H2 s2 => ⟨s'.trans s2, s2 _ _ e, hil, ?_⟩⟩
      rw [List.take_add_one, hz, hacc]
      simp [lett]
  have hacc' : acc = ((menu.map (lett x y)).map tx) := by
    rw [hacc]
    rfl
  subst hacc'
  refine ⟨(by show 0 ≤ sizeLine; decide), fun l hl => ?_⟩
  have s2 : Same H (upd (upd H' lw (.lst ((menu.map (lett x y)).map tx))) l (.lst [])) := (s'.trans (same_new hlw _)).trans (same_new hl _)
  have hl0 : H l = none := (s'.trans (same_new hlw _)).free hl
  have nlw : lw ≠ l := ne_of_none upd_same hl
  refine ⟨_, rfl, a, _, rfl, .inl (s2.seq hS), _, _, rfl, rfl, ⟨by decide, by decide⟩, _, rfl, by rw [List.length_map]; lia, by rw [List.length_map]; lia, ?_⟩
  have e2 : (((ns.map V.int).length : Nat) : Int) / 2 = ((ns.length / 2 : Nat) : Int) := by rw [List.length_map]; lia
  rw [e2, Int.toNat_natCast]
  refine for_range (lo := 0) (n := ns.length / 2) (RuW K H a lw l x y) ⟨[], _, _, _, rfl, s2, by rw [upd_ne nlw]; exact upd_same, ⟨[], upd_same, .nil⟩, ⟨by simpa [Inc] using hxy, fun r h => by simp at h, fun r h => by simp at h, fun r h => by simp at h⟩, Nat.le_refl _⟩ ?_ ?_
  · rintro i σ H2 hi ⟨rs, u, v, z, rfl, s3, hlw2, ⟨rv, hrv, hrp⟩, hG, hrl⟩
    have hrvl : rv.length = rs.length := pairLen hrp
    have hi1 : 2 * i < ns.length := by lia
    have hi2 : 2 * i + 1 < ns.length := by lia
    have a1 : atI (ns.map V.int) (2 * (0 + (i : Int))) = some (.int ns[2 * i]) := by
      have e : (2 : Int) * (0 + (i : Int)) = ((2 * i : Nat) : Int) := by lia
      rw [e]
      exact atI_nat (by rw [List.getElem?_map, List.getElem?_eq_getElem hi1]; rfl)
    have a2 : atI (ns.map V.int) (2 * (0 + (i : Int)) + 1) = some (.int ns[2 * i + 1]) := by
      have e : (2 : Int) * (0 + (i : Int)) + 1 = ((2 * i + 1 : Nat) : Int) := by lia
      rw [e]
      exact atI_nat (by rw [List.getElem?_map, List.getElem?_eq_getElem hi2]; rfl)
    obtain ⟨o1, b1, ov1, ol1⟩ := menu_at (x := x) (y := y) ns[2 * i]
    obtain ⟨o2, b2, ov2, ol2⟩ := menu_at (x := x) (y := y) ns[2 * i + 1]
    have hS3 := s3.seq hS
    refine ⟨_, rfl, _, rfl, _, rfl, _, _, rfl, rfl, .inl ⟨by decide, by decide⟩, a, _, _, _, rfl, rfl, hS3, a1, _, _, rfl, rfl, (by show (0 : Int) < 14; decide), lw, _, _, _, rfl, rfl, SqL.of hlw2, b1, ?_⟩
    refine ⟨_, rfl, _, rfl, _, rfl, _, _, rfl, rfl, .inl ⟨by decide, by decide⟩, _, _, rfl, rfl, a, _, _, _, rfl, rfl, hS3, a2, _, _, rfl, rfl, (by show (0 : Int) < 14; decide), lw, _, _, _, rfl, rfl, SqL.of hlw2, b2, ?_⟩
    refine ⟨_, rfl, _, rfl, _, _, rfl, rfl, .inl ⟨by decide, by decide⟩, a, _, _, _, rfl, rfl, hS3, a1, _, _, rfl, rfl, (by show (0 : Int) < 17; decide), rfl, _, rfl, ?_⟩
    refine ite2 (fun _ => ?_) (fun _ => ?_)
    · have l1 : (o1 ++ o2).length ≤ 6 := by rw [List.length_append]; lia
      have l2 : (o1 ++ o2 ++ o1).length ≤ 9 := by rw [List.length_append]; lia
      have l3 : (o1 ++ o2 ++ o1 ++ [x, y]).length ≤ 11 := by rw [List.length_append, List.length_cons, List.length_cons, List.length_nil]; lia
      refine ⟨_, rfl, _, rfl, o1, o2, rfl, rfl, szl (by lia), _, rfl, o1 ++ o2, o1, rfl, rfl, szl (by lia), _, rfl, o1 ++ o2 ++ o1, [x, y], rfl, rfl, szl (by rw [List.length_cons, List.length_cons, List.length_nil]; lia), ?_⟩
      exact ruled_tail (fun _ _ h => h) (over_app (over_app (over_app ov1 ov2) ov1) (fun c hc => hc)) ov2 l3 (by lia) s3 hl0 hlw2 nlw ⟨rv, hrv, hrp⟩ hG hrl (by lia)
    · exact ruled_tail (fun _ _ h => h) ov1 ov2 (by lia) (by lia) s3 hl0 hlw2 nlw ⟨rv, hrv, hrp⟩ hG hrl (by lia)
  · rintro σ H2 ⟨rs, u, v, z, rfl, s3, hlw2, hR, hG, hrl⟩
    refine ⟨_, rfl, ?_⟩
    exact q l rs H2 s3 hR hG (by lia)
end
end Sg
namespace Sg
open PySem L2
inductive spPairR (K : PySem.W.Frag) (vs : List V) (H : Hp) (Q : VK) (E_ : XK) : Prop
  | mk (a : Addr) (ns : List Int) (h1_ : vs = [.ref a]) (h2_ : SqL K H a (ns.map V.int)) (h3_ : ns.length ≤ 100) (h4_ : ∀ x y H', x < y → 97 ≤ x → y ≤ 122 → Same H H' → Q (tx [x, y]) H') : spPairR K vs H Q E_
section
variable {P : Program} {w : World} {K : PySem.W.Frag} {mg : Str → Option Value} {base : Heap}
theorem ok_pairR (D : Dfn K mg "_law_letter_pair" sPair ["_law_script"]) : Ok P w K mg base "_law_letter_pair" ["_law_script"] 1 (spPairR K) := by
  refine D.ok scPair (fun vs H Q E h => ?_) (fun f cdv A outer s H vs Q E hr h => ?_)
  · obtain ⟨a, ns, rfl, _⟩ := h
    rfl
  obtain ⟨a, ns, rfl, hS, hn, q⟩ := h
  refine ⟨_, pss_cons (ps_set (i := 1) scPair.nd rfl (Or.inl rfl) pe_str)
    (pss_cons (ps_set (i := 2) scPair.nd rfl (Or.inl rfl) (pe_ix ix_list (pe_op op_catR (pe_lst (pa_cons pe_int pa_nil)) (pv 0)) (pe_un un_neg pe_int) (fun _ _ => rfl)))
    (pss_cons (ps_set (i := 3) scPair.nd rfl (Or.inl rfl) (pe_op op_mod (pv 2) pe_int))
    (pss_cons (ps_set (i := 4) scPair.nd rfl (Or.inl rfl) (pe_op op_add (pe_op op_add (pv 3) pe_int) (pe_op op_mod (pe_op op_fdiv (pv 2) pe_int) (pe_op op_sub pe_int (pv 3)))))
    (pss_one (ps_ret (pe_op op_addS (pe_ix ix_str (pv 1) (pv 3) (fun _ _ => rfl)) (pe_ix ix_str (pv 1) (pv 4) (fun _ _ => rfl)))))))), ?_⟩
  try dsimp only [cxOf, Cx.nox]
  refine ⟨(by show 1 ≤ sizeLine; decide), fun p hp => ?_⟩
  have s1 : Same H (upd H p (.lst [.int 0])) := same_new hp _
  refine ⟨_, rfl, p, a, _, _, rfl, rfl, SqL.of upd_same, s1.seq hS, ?_, fun p2 hp2 => ?_⟩
  · rw [List.length_map, List.length_singleton, sizeLine_eq]
    exact θo [_] (1+θ0) 16777216 θ0 100 rfl hn
  have s2 := s1.trans (same_new hp2 (.lst ([.int 0] ++ ns.map V.int)))
  have hlast : ∃ c : Int, atI ([V.int 0] ++ ns.map V.int) (-1) = some (V.int c) := by
    rcases List.eq_nil_or_concat ns with rfl | ⟨r, c, rfl⟩
    · exact ⟨0, rfl⟩
    · refine ⟨c, ?_⟩
      rw [List.concat_eq_append, List.map_append, ← List.append_assoc]
      exact atI_last _ _
  obtain ⟨c, hc⟩ := hlast
  refine ⟨_, rfl, p2, _, _, _, rfl, rfl, SqL.of upd_same, hc, ?_⟩
  refine ⟨_, rfl, _, _, rfl, rfl, (by show (0 : Int) < 25; decide), ?_⟩
  have b1 : 0 ≤ c % 25 := by lia
  have b2 : c % 25 < 25 := by lia
  refine ⟨_, rfl, _, _, rfl, rfl, _, rfl, _, _, rfl, rfl, ⟨by decide, by decide⟩, _, rfl, _, _, rfl, rfl, _, _, rfl, rfl, (by show 0 < 25 - c % 25; lia), _, _, rfl, rfl, ?_⟩
  have b3 : 0 ≤ c / 25 % (25 - c % 25) := Int.emod_nonneg _ (by lia)
  have b4 : c / 25 % (25 - c % 25) < 25 - c % 25 := Int.emod_lt_of_pos _ (by lia)
  refine ⟨_, rfl, _, rfl, _, _, _, rfl, rfl, (by show 26 ≤ sizeLine; decide), letter_at b1 (by lia), _, rfl, _, rfl, _, _, _, rfl, rfl, (by show 26 ≤ sizeLine; decide), letter_at (by lia) (by lia), [_], [_], rfl, rfl, (by show 2 ≤ sizeLine; decide), ?_⟩
  exact q _ _ _ (by lia) (by exact θz [_] 97 (97+θ0) rfl) (by lia) s2
end
end Sg
namespace Sg
open PySem L2
end Sg
namespace Sg
open PySem L2
inductive spAt (K : PySem.W.Frag) (vs : List V) (H : Hp) (Q : VK) (E_ : XK) : Prop
  | mk (a : Addr) (ns : List Int) (k : Nat) (h1_ : vs = [.ref a, .int (k : Int)]) (h2_ : SqL K H a (ns.map V.int)) (h3_ : ns.length ≤ 100) (h4_ : Q (.int (ns.getD k 0)) H) : spAt K vs H Q E_
section
variable {P : Program} {w : World} {K : PySem.W.Frag} {mg : Str → Option Value} {base : Heap}
theorem scAt : FnScope ["_law_script", "_law_k"] ["_law_script", "_law_k"] (defScope sAt) := ⟨rfl, rfl, rfl, by decide +kernel, rfl, by decide +kernel, by decide +kernel⟩
theorem ok_at (D : Dfn K mg "_law_at" sAt ["_law_script", "_law_k"]) (B : Blt mg) : Ok P w K mg base "_law_at" ["_law_script", "_law_k"] 1 (spAt K) := by
  refine D.ok scAt (fun vs H Q E h => ?_) (fun f cdv A outer s H vs Q E hr h => ?_)
  · obtain ⟨a, ns, k, rfl, _⟩ := h
    rfl
  obtain ⟨a, ns, k, rfl, hS, hn, q⟩ := h
  refine ⟨_, pss_cons (ps_if (pt_cmpR op_lt (pv 1) (pe_callB call_len_seq rfl B.len PySem.boot_len (pa_cons (pv 0) pa_nil)) (nomark _)) (pss_one (ps_ret (pe_ix ix_list (pv 0) (pv 1) (fun _ _ => rfl)))) pss_nil) (pss_one (ps_ret pe_int)), ?_⟩
  try dsimp only [cxOf, Cx.nox]
  refine ⟨_, rfl, _, rfl, a, _, rfl, .inl hS, _, _, rfl, rfl, _, rfl, ?_⟩
  rw [List.length_map]
  refine ite2 (fun c => ?_) (fun c => ?_)
  · have hk : k < ns.length := by have := of_decide_eq_true c; omega
    refine ⟨_, rfl, _, rfl, a, _, _, _, rfl, rfl, hS, ?_, q⟩
    refine atI_nat ?_
    rw [List.getElem?_map, getD_some (d := 0) hk]
    rfl
  · have hk : ¬ k < ns.length := fun z => c (decide_eq_true (by omega))
    have e : ns.getD k 0 = 0 := by rw [List.getD_eq_getElem?_getD, List.getElem?_eq_none (by exact (θw hk))]; rfl
    rw [e] at q
    exact q
end
end Sg
namespace Sg
open PySem L2
inductive spAny (vs : List V) (H : Hp) (Q : VK) (E_ : XK) : Prop
  | mk (c : _) (h1_ : vs = [.int c]) (h2_ : ∀ r H', Same H H' → Q (.int r) H') : spAny vs H Q E_
section
variable {P : Program} {w : World} {K : PySem.W.Frag} {mg : Str → Option Value} {base : Heap}
theorem scAny : FnScope ["_law_cell", "_law_size"] ["_law_cell"] (defScope sAny) := ⟨rfl, rfl, rfl, by decide +kernel, rfl, by decide +kernel, by decide +kernel⟩
theorem ok_any (D : Dfn K mg "_law_any" sAny ["_law_cell"]) : Ok P w K mg base "_law_any" ["_law_cell"] 1 spAny := by
  refine D.ok scAny (fun vs H Q E h => ?_) (fun f cdv A outer s H vs Q E hr h => ?_)
  · obtain ⟨c, rfl, _⟩ := h
    rfl
  obtain ⟨c, rfl, q⟩ := h
  refine ⟨_, pss_cons (ps_set (i := 1) scAny.nd rfl (Or.inl rfl) (pe_op op_mod (pe_op op_fdiv (pv 0) pe_int) (pe_op op_pow pe_int pe_int)))
    (pss_one (ps_ret (pe_op op_mul (pv 1) (pe_ix ix_list (pe_lst (pa_cons pe_int (pa_cons (pe_un un_neg pe_int) pa_nil))) (pe_op op_mod (pv 0) pe_int) (fun _ _ => rfl))))), ?_⟩
  refine ⟨_, rfl, _, _, rfl, rfl, ⟨by decide, by decide⟩, _, _, rfl, rfl, ⟨by decide, by decide, by decide⟩, _, _, rfl, rfl, (by show (0 : Int) < 10 ^ Int.toNat 59; decide +kernel), ?_⟩
  refine ⟨_, rfl, _, rfl, (by show 2 ≤ sizeLine; decide), fun p hp => ?_⟩
  have h01 : c % 2 = 0 ∨ c % 2 = 1 := by omega
  refine ⟨_, rfl, _, _, rfl, rfl, (by show (0 : Int) < 2; decide), ?_⟩
  rcases h01 with e | e
  · refine ⟨p, _, _, .int 1, rfl, rfl, SqL.of upd_same, by rw [e]; rfl, _, _, rfl, rfl, .inr ⟨by decide, by decide⟩, q _ _ (same_new hp _)⟩
  · refine ⟨p, _, _, .int (-1), rfl, rfl, SqL.of upd_same, by rw [e]; rfl, _, _, rfl, rfl, .inr ⟨by decide, by decide⟩, q _ _ (same_new hp _)⟩
end
end Sg
namespace Sg
open PySem L2
def cutI (ns : List Int) (lo hi : Option Int) : List Int := (ns.drop (HT.sIx ns.length 0 lo)).take (HT.sIx ns.length ns.length hi - HT.sIx ns.length 0 lo)
theorem cutV_map (ns : List Int) (lo hi : Option Int) : cutV (ns.map V.int) lo hi = (cutI ns lo hi).map V.int := by
  unfold cutV cutI
  rw [List.length_map, List.map_take, List.map_drop]
theorem cutI_len2 (ns : List Int) (a b : Nat) : (cutI ns (some (a : Int)) (some (b : Int))).length ≤ b - a := by
  unfold cutI
  rw [List.length_take, HT.sIx_nat, HT.sIx_nat]
  refine Nat.le_trans (Nat.min_le_left _ _) ?_
  rcases Nat.le_total a ns.length with h | h
  · rw [Nat.min_eq_left h]
    exact Nat.sub_le_sub_right (Nat.min_le_left _ _) _
  · rw [Nat.min_eq_right h, Nat.sub_eq_zero_of_le (Nat.min_le_right _ _)]
    exact Nat.zero_le _
inductive spLaw (K : PySem.W.Frag) (vs : List V) (H : Hp) (Q : VK) (E_ : XK) : Prop
  | mk (a : Addr) (ns : List Int) (h1_ : vs = [.ref a]) (h2_ : SqL K H a (ns.map V.int)) (h3_ : ns.length ≤ 63) (h4_ : ∀ H', Q (.bl true) H') : spLaw K vs H Q E_
end Sg
namespace Sg
open PySem L2
theorem boot_isiZ : bootBuiltins "isinstance" = some (.builtin "isinstance") := by decide +kernel
theorem boot_lstZ : bootBuiltins "list" = some (.type "list") := by decide +kernel
theorem boot_strZ : bootBuiltins "str" = some (.type "str") := by decide +kernel
end Sg
namespace Sg
open PySem L2
theorem str_q : V.str "q" = tx [113] := by decide +kernel
theorem good_ne {rs : List Rl} {al : Wd} {n : Nat} (g : Good rs al n) : ∀ r ∈ rs, r.1 ≠ [] := fun r hr e => by
  have := g.bf r hr
  rw [e, bef_nil] at this
  cases this
abbrev rInS : V → V → Hp → VK → Prop := fun x y H Q => ∃ i j, x = .str i ∧ y = .str j ∧ Q (.bl (!(Builtin.Str.occurrences j i 0 j.length 1).isEmpty)) H
def extB (sg : Wd) (ws : List Wd) : List Wd := ws.flatMap fun w => sg.map fun c => w ++ [c]
def rowB (rs : List Rl) (sg : Wd) : Nat → List Wd
  | 0 => [[]]
  | n + 1 => extB sg (wrdB rs sg n)
theorem fre_nil {rs : List Rl} (hne : ∀ r ∈ rs, r.1 ≠ []) : freB rs [] = true := fre_iff.mpr fun r hr ⟨a, b, e⟩ => by
  have : r.1 = [] := by
    have := (List.append_eq_nil_iff.mp e.symm).1
    exact (List.append_eq_nil_iff.mp this).2
  exact hne r hr this
theorem wrd_fre {rs : List Rl} (hne : ∀ r ∈ rs, r.1 ≠ []) {sg : Wd} : ∀ (n : Nat), (rowB rs sg n).filter (freB rs) = wrdB rs sg n ∧ ∀ w ∈ wrdB rs sg n, freB rs w = true
  | 0 => by
    have h := fre_nil hne
    refine ⟨?_, fun w hw => by rw [List.mem_singleton.mp hw]; exact h⟩
    show List.filter _ [[]] = [[]]
    rw [List.filter_cons, h, List.filter_nil]
    rfl
  | n + 1 => by
    obtain ⟨_, h2⟩ := wrd_fre hne (sg := sg) n
    have key : ∀ ws : List Wd, (∀ w ∈ ws, freB rs w = true) → (extB sg ws).filter (freB rs) = lonB rs sg ws := by
      intro ws
      induction ws with
      | nil => intro _; rfl
      | cons w ws ih =>
        intro h
        unfold extB lonB at *
        rw [List.flatMap_cons, List.flatMap_cons, List.filter_append, ih fun v hv => h v (List.mem_cons_of_mem _ hv)]
        congr 1
        refine List.filter_congr fun v hv => ?_
        obtain ⟨c, _, rfl⟩ := List.mem_map.mp hv
        exact fre_snoc hne (h w List.mem_cons_self) c
    have e := key (wrdB rs sg n) h2
    refine ⟨e, fun w hw => ?_⟩
    have hw' : w ∈ (extB sg (wrdB rs sg n)).filter (freB rs) := by rw [e]; exact hw
    exact (List.mem_filter.mp hw').2
theorem ext_len {sg : Wd} (h : sg.length ≤ 3) : ∀ ws : List Wd, (extB sg ws).length ≤ 3 * ws.length
  | [] => Nat.zero_le _
  | w :: ws => by
    have h1 := ext_len h ws
    unfold extB at *
    rw [List.flatMap_cons, List.length_append, List.length_cons, List.length_map]
    lia
theorem row_few {rs : List Rl} {sg : Wd} (h : sg.length ≤ 3) {n : Nat} (hn : n ≤ 5) : (rowB rs sg n).length ≤ 243 := by
  cases n with
  | zero => exact Nat.le_trans (Nat.le_refl 1) (by decide)
  | succ n =>
    have h1 := ext_len h (wrdB rs sg n)
    have h2 := wrd_few (rs := rs) h (n := n) (by lia)
    show (extB sg (wrdB rs sg n)).length ≤ 243
    lia
theorem row_len {rs : List Rl} {sg : Wd} : ∀ (n : Nat), ∀ w ∈ rowB rs sg n, w.length = n
  | 0, w, h => by rw [List.mem_singleton.mp h]; rfl
  | n + 1, w, h => by
    obtain ⟨v, hv, hw⟩ := List.mem_flatMap.mp h
    obtain ⟨c, _, rfl⟩ := List.mem_map.mp hw
    rw [List.length_append, wrd_len n v hv]; rfl
def T5a (K : PySem.W.Frag) (D : Ends) (σ : St) (H : Hp) : Prop := ∃ (a r dl : Addr) (ns : List Int) (rs : List Rl) (sg : Wd) (m : Int) (x1 x3 x7 x8 x9 x10 x11 x12 x13 x14 : Option V),
  σ = [some (.ref a), x1, some (.ref r), x3, some (tx sg), some (.int m), some (.ref dl), x7, x8, x9, x10, x11, x12, x13, x14] ∧ SqL K H a (ns.map V.int) ∧ ns.length ≤ 63 ∧ RsAt H r rs ∧ rs.length ≤ 50 ∧ sg.length ≤ 3 ∧ -1 ≤ m ∧ m ≤ 4 ∧ H dl = some (.lst ((allB rs sg (m + 1).toNat).map tx)) ∧ ∀ H', D.rt (.bl true) H'
def T5d (D : Ends) (σ : St) (H : Hp) : Prop := ∃ (r dl : Addr) (rs : List Rl) (sg : Wd) (mm : Int) (x0 x1 x3 x7 x8 x9 x10 x11 x12 x13 x14 : Option V),
  σ = [x0, x1, some (.ref r), x3, some (tx sg), some (.int mm), some (.ref dl), x7, x8, x9, x10, x11, x12, x13, x14] ∧ RsAt H r rs ∧ rs.length ≤ 50 ∧ sg.length ≤ 3 ∧ (mm ≤ 4 ∨ wrdB rs sg 4 = []) ∧ H dl = some (.lst ((frmL rs sg mm).map tx)) ∧ ∀ H', D.rt (.bl true) H'
theorem frm_len {rs : List Rl} {sg : Wd} (h : sg.length ≤ 3) (mm : Int) : (frmL rs sg mm).length ≤ 4000 := by
  unfold frmL
  split
  · exact Nat.zero_le _
  · have := all_len (rs := rs) h (min mm.toNat 4 + 1) (by lia)
    lia
def T5b (K : PySem.W.Frag) (D : Ends) (σ : St) (H : Hp) : Prop := ∃ (a r : Addr) (ns : List Int) (rs : List Rl) (sg : Wd) (x1 x3 x5 x6 x7 x8 x9 x10 x11 x12 x13 x14 : Option V),
  σ = [some (.ref a), x1, some (.ref r), x3, some (tx sg), x5, x6, x7, x8, x9, x10, x11, x12, x13, x14] ∧ SqL K H a (ns.map V.int) ∧ ns.length ≤ 63 ∧ RsAt H r rs ∧ rs.length ≤ 50 ∧ (∀ r ∈ rs, r.1 ≠ []) ∧ sg.length ≤ 3 ∧ ∀ H', D.rt (.bl true) H'
def T5c (D : Ends) (σ : St) (H : Hp) : Prop := ∃ (fl : Addr) (fv : List V) (wd sg : Wd) (x0 x1 x2 x3 x5 x6 x7 x8 x11 x12 x13 x14 : Option V),
  σ = [x0, x1, x2, x3, some (tx sg), x5, x6, x7, x8, some (.ref fl), some (tx wd), x11, x12, x13, x14] ∧ H fl = some (.lst fv) ∧ fv.length ≤ 1000 ∧ wd.length ≤ 100 ∧ sg.length ≤ 3 ∧
  ∀ y, D.nx [x0, x1, x2, x3, some (tx sg), x5, x6, x7, x8, some (.ref fl), some (tx wd), y, x12, x13, x14] (upd H fl (.lst (fv ++ sg.map fun c => tx (wd ++ [c]))))
theorem upd_self {H : Hp} {a : Addr} {o : HO} (h : H a = some o) : upd H a o = H := by
  funext b
  by_cases e : b = a
  · rw [e, upd_same, h]
  · rw [upd_ne e]
theorem upd_two {H : Hp} {a : Addr} {o o' : HO} : upd (upd H a o) a o' = upd H a o' := by
  funext b
  by_cases e : b = a
  · rw [e, upd_same, upd_same]
  · rw [upd_ne e, upd_ne e, upd_ne e]
theorem one_join : ∀ {ss : List Str}, (∀ z ∈ ss, ∃ c, z = ⟨#[c]⟩) → ((ss.map fun z => z.cps.toList).map List.length).sum = ss.length ∧ (ss.map fun z => z.cps.toList).flatten.length = ss.length
  | [], _ => ⟨rfl, rfl⟩
  | z :: ss, h => by
    obtain ⟨h1, h2⟩ := one_join fun v hv => h v (List.mem_cons_of_mem _ hv)
    obtain ⟨c, rfl⟩ := h z List.mem_cons_self
    refine ⟨?_, ?_⟩
    · rw [List.map_cons, List.map_cons, List.sum_cons, h1]
      exact Nat.add_comm 1 ss.length
    · rw [List.map_cons, List.flatten_cons, List.length_append, h2]
      exact Nat.add_comm 1 ss.length
inductive L5W (a r dl : Addr) (rs : List Rl) (sg : Wd) (m : Int) (H : Hp) (i : Nat) (σ : St) (H' : Hp) : Prop
  | mk (rl : Addr) (x1 x3 x8 x9 x10 x11 x12 x13 x14 : Option V) (h1_ : σ = [some (.ref a), x1, some (.ref r), x3, some (tx sg), some (.int m), some (.ref dl), some (.ref rl), x8, x9, x10, x11, x12, x13, x14]) (h2_ : Same H H') (h3_ : i ≤ 5) (h4_ : H' dl = some (.lst ((allB rs sg (min i (m + 1).toNat)).map tx))) (h5_ : H' rl = some (.lst ((rowB rs sg i).map tx))) (h6_ : rl ≠ dl) : L5W a r dl rs sg m H i σ H'
inductive M5W (a r dl rl fl : Addr) (rs : List Rl) (sg : Wd) (m : Int) (i : Nat) (x1 x3 x12 x13 x14 : Option V) (H : Hp) (p : Nat) (σ : St) (H' : Hp) : Prop
  | mk (x10 x11 : Option V) (h1_ : σ = [some (.ref a), x1, some (.ref r), x3, some (tx sg), some (.int m), some (.ref dl), some (.ref rl), some (.int (i : Int)), some (.ref fl), x10, x11, x12, x13, x14]) (h2_ : Same H H') (h3_ : p ≤ (rowB rs sg i).length) (h4_ : H' dl = some (.lst ((allB rs sg (min i (m + 1).toNat) ++ (if (i : Int) ≤ m then ((rowB rs sg i).take p).filter (freB rs) else [])).map tx))) (h5_ : H' rl = some (.lst ((rowB rs sg i).map tx))) (h6_ : H' fl = some (.lst ((extB sg (((rowB rs sg i).take p).filter (freB rs))).map tx))) : M5W a r dl rl fl rs sg m i x1 x3 x12 x13 x14 H p σ H'
section
variable {P : Program} {w : World} {K : PySem.W.Frag} {mg : Str → Option Value} {base : Heap}
abbrev NL5 : List Str := ["_law_script", "_law_two", "_law_rules", "_law_three", "_law_signs", "_law_most", "_law_due", "_law_row", "_law_length", "_law_further", "_law_word", "_law_sign", "_law_none", "_law_found", "_law_k"]
theorem scLaw : FnScope NL5 ["_law_script"] (defScope sLaw) := ⟨rfl, rfl, rfl, by decide +kernel, rfl, by decide +kernel, by decide +kernel⟩
def cmpL : Expr → Expr
  | .Compare e _ _ _ => e
  | e => e
def ifC : Stmt → Expr
  | .If e _ _ _ => e
  | _ => .Name "" ⟨0, 0, 0, 0⟩
def forSt : Stmt → Nat → Stmt
  | .For _ _ b _ _, i => b.getD i (.Pass ⟨0, 0, 0, 0⟩)
  | s, _ => s
def asgV : Stmt → Expr
  | .Assign _ e _ => e
  | _ => .Name "" ⟨0, 0, 0, 0⟩
theorem cc5a : CompScope (defScope sLaw) NL5 (compSc (cmpL (ifC (forSt (forSt ((defBody sLaw).getD 7 (.Pass ⟨0, 0, 0, 0⟩)) 1) 0)))) ["_law_rule"] ["_law_word"] [10] := ⟨rfl, by decide +kernel, by decide +kernel, by decide +kernel, by decide +kernel, rfl, by decide +kernel⟩
theorem cc5b : CompScope (defScope sLaw) NL5 (compSc (cmpL (asgV ((defBody sLaw).getD 8 (.Pass ⟨0, 0, 0, 0⟩))))) ["_law_word"] [] [] := ⟨rfl, by decide +kernel, by decide +kernel, by decide +kernel, by decide +kernel, rfl, by decide +kernel⟩
theorem ok_law {fl : Addr} {fdl : FuncData} (FL : Fun K "law" "law" sLaw fl fdl) (B : Blt mg) (hset : mg "set" = none) (hsrt : mg "sorted" = none) (habs : mg "abs" = none) (OP : Ok P w K mg base "_law_letter_pair" ["_law_script"] 1 (spPairR K)) (OR : Ok P w K mg base "_law_ruled" ["_law_cells", "_law_two"] 2 (spRuled K))
    (OA : Ok P w K mg base "_law_at" ["_law_script", "_law_k"] 1 (spAt K)) (OY : Ok P w K mg base "_law_any" ["_law_cell"] 1 spAny) (OF : Ok P w K mg base "forms" ["rules", "signs", "most"] 3 spForms) : FnOk P w K mg base CX0 4 fl fdl ["_law_script"] (spLaw K) := by
  refine FL.ok scLaw (fun vs H Q E h => ?_) (fun cdv A outer s H vs Q E hr h => ?_)
  · obtain ⟨a, ns, rfl, _⟩ := h
    rfl
  obtain ⟨a, ns, rfl, hS, hn, q⟩ := h
  have hr1 : Room 1 _ := hr.mono (by decide)
  have hr2 : Room 2 _ := hr.mono (by decide)
  refine ⟨_, pss_cons (ps_set (i := 1) scLaw.nd rfl (Or.inl rfl) (pe_fn OP hr1 rfl (pa_cons (pv 0) pa_nil)))
    (pss_cons (ps_set (i := 2) scLaw.nd rfl (Or.inl rfl) (pe_fn OR hr2 rfl (pa_cons (pe_slice sl_list (pv 0) (po_some pe_int) (po_some pe_int)) (pa_cons (pv 1) pa_nil))))
    (pss_cons (ps_set (i := 3) scLaw.nd rfl (Or.inl rfl) (pe_bm PySem.F.plainAttrs_str PySem.F.slot_str_join PySem.F.type_str_join mt_join pe_str (pa_cons (pe_callB (call_sortS rfl) rfl hsrt boot_srt (pa_cons (pe_callTy (call_setS rfl) rfl hset boot_set (pa_cons (pe_op op_addS (pv 1) pe_str) pa_nil)) pa_nil)) pa_nil)))
    (pss_cons (ps_set (i := 4) scLaw.nd rfl (Or.inl rfl) (pe_ix ix_list (pe_lst (pa_cons (pe_ix ix_str (pv 1) pe_int (fun _ _ => rfl)) (pa_cons (pv 1) (pa_cons (pv 3) pa_nil)))) (pe_op op_mod (pe_fn OA hr1 rfl (pa_cons (pv 0) (pa_cons pe_int pa_nil))) pe_int) (fun _ _ => rfl)))
    (pss_imp (pss_cons (ps_set (i := 5) scLaw.nd rfl (Or.inl rfl) (pe_op op_sub (pe_op op_mod (pe_fn OA hr1 rfl (pa_cons (pv 0) (pa_cons pe_int pa_nil))) pe_int) pe_int))
    (pss_cons (ps_set (i := 6) scLaw.nd rfl (Or.inl rfl) (pe_lst pa_nil))
    (pss_cons (ps_set (i := 7) scLaw.nd rfl (Or.inl rfl) (pe_lst (pa_cons pe_str pa_nil)))
    (pss_cons (ps_for PassesOwn.never rfl (pi_range1 rfl B.rng (pa_cons pe_int pa_nil)) (pg_name (i := 8) scLaw.nd rfl (Or.inl rfl))
      (pss_cons (ps_set (i := 9) scLaw.nd rfl (Or.inl rfl) (pe_lst pa_nil))
      (pss_cons (ps_for PassesOwn.never rfl (pi_list (pv 7)) (pg_name (i := 10) scLaw.nd rfl (Or.inr rfl))
        (pss_one (ps_if (pt_cmpR (op_eqNil hr.units0) (pe_comp (g := gName 0) (tt := tTest (tOp rInS (tOp (rIxT K) (tVar 0) (tC (.int 0))) (tVar 1))) (te := tVar 0) rfl cc5a (pi_list (pv 2)) (by intro cl C ex s H; exact ⟨pg_name (i := 0) cc5a.nd rfl (.inl rfl), pf_one (pt_cmpR op_in_str (pe_ix ix_tup (pv 0) pe_int (fun _ _ => rfl)) (pv 1) rfl), pv 0⟩)) (pe_lst pa_nil) (nomark _))
        (pss_cons (ps_if (pt_cmpR op_le (pv 8) (pv 5) (nomark _)) (pss_one (ps_expr (pe_bm PySem.F.plainAttrs_list PySem.F.slot_list_append PySem.F.type_list_append mt_append (pv 6) (pa_cons (pv 10) pa_nil)))) pss_nil)
        (pss_imp (pss_one (ps_for PassesOwn.never rfl (pi_str (pv 4)) (pg_name (i := 11) scLaw.nd rfl (Or.inl rfl)) (pss_one (ps_expr (pe_bm PySem.F.plainAttrs_list PySem.F.slot_list_append PySem.F.type_list_append mt_append (pv 9) (pa_cons (pe_op op_addS (pv 10) (pv 11)) pa_nil)))))) (fun D σ H' (h : T5c D σ H') => ?tailc))) pss_nil)))
      (pss_one (ps_set (i := 7) scLaw.nd rfl (Or.inl rfl) (pv 9))))))
    (pss_imp (pss_cons (ps_set (i := 12) scLaw.nd rfl (Or.inl rfl) (pe_cmpR (op_eqNil hr.units0) (pe_comp (g := gName 0) (tt := tTest (tOp rEq (tCB rLenS (tCons (tVar 0) tNil)) (tC (.int 4)))) (te := tVar 0) rfl cc5b (pi_list (pv 6)) (by intro cl C ex s H; exact ⟨pg_name (i := 0) cc5b.nd rfl (.inl rfl), pf_one (pt_cmpR op_eq (pe_callB call_lenS rfl B.len PySem.boot_len (pa_cons (pv 0) pa_nil)) pe_int (nomark _)), pv 0⟩)) (pe_lst pa_nil) (nomark _)))
    (pss_cons (ps_if (PW.pt (pw_and (pt_cmpR op_eq (pv 5) pe_int (nomark _)) (pw_and1 (pt_val (pv 12))))) (pss_one (ps_set (i := 5) scLaw.nd rfl (Or.inl rfl) (pe_op op_add pe_int (pe_callB call_abs rfl habs boot_absZ (pa_cons (pe_fn OY hr1 rfl (pa_cons (pe_fn OA hr1 rfl (pa_cons (pv 0) (pa_cons pe_int pa_nil))) pa_nil)) pa_nil))))) pss_nil)
    (pss_imp (pss_cons (ps_set (i := 13) scLaw.nd rfl (Or.inl rfl) (pe_fn OF hr rfl (pa_cons (pe_callTy call_list_of rfl B.lst boot_lstZ (pa_cons (pv 2) pa_nil)) (pa_cons (pv 4) (pa_cons (pv 5) pa_nil)))))
    (pss_cons (ps_if (PW.pt (pw_or (pt_not (pt_val (pe_callB call_isi rfl B.isi boot_isiZ (pa_cons (pv 13) (pa_cons (pe_bltn (v := .ty "list") rfl B.lst boot_lstZ rfl) pa_nil))))) (pw_or1 (pt_cmpR op_ne (pe_callB call_len_seq rfl B.len PySem.boot_len (pa_cons (pv 13) pa_nil)) (pe_callB call_len_seq rfl B.len PySem.boot_len (pa_cons (pv 6) pa_nil)) (nomark _))))) (pss_one (ps_ret pe_bl)) pss_nil)
    (pss_cons (ps_for PassesOwn.never rfl (pi_range1 rfl B.rng (pa_cons (pe_callB call_len_seq rfl B.len PySem.boot_len (pa_cons (pv 6) pa_nil)) pa_nil)) (pg_name (i := 14) scLaw.nd rfl (Or.inl rfl))
      (pss_one (ps_if (PW.pt (pw_or (pt_not (pt_val (pe_callB call_isi rfl B.isi boot_isiZ (pa_cons (pe_ix ix_list (pv 13) (pv 14) (fun _ _ => rfl)) (pa_cons (pe_bltn (v := .ty "str") rfl B.str boot_strZ rfl) pa_nil))))) (pw_or1 (pt_cmpR op_ne (pe_ix ix_list (pv 13) (pv 14) (fun _ _ => rfl)) (pe_ix ix_list (pv 6) (pv 14) (fun _ _ => rfl)) (nomark _))))) (pss_one (ps_ret pe_bl)) pss_nil)))
    (pss_one (ps_ret pe_bl))))) (fun D σ H' (h : T5d D σ H') => ?taild)))) (fun D σ H' (h : T5a K D σ H') => ?taila)))))) (fun D σ H' (h : T5b K D σ H') => ?tailb))))), ?_⟩
  case tailc =>
    obtain ⟨fl, fv, wd, sg, x0, x1, x2, x3, x5, x6, x7, x8, x11, x12, x13, x14, rfl, hF, hf, hw, hg, nx⟩ := h
    refine ⟨_, rfl, Sx sg, rfl, ?_⟩
    have zs : (Sx sg).cps.size = sg.length := by simp [Sx]
    refine for_str (z := Sx sg) (fun j σ H2 => j ≤ sg.length ∧ H2 = upd H' fl (.lst (fv ++ (sg.take j).map fun c => tx (wd ++ [c]))) ∧ ∃ y, σ = [x0, x1, x2, x3, some (tx sg), x5, x6, x7, x8, some (.ref fl), some (tx wd), y, x12, x13, x14])
      ⟨Nat.zero_le _, by rw [List.take_zero, List.map_nil, List.append_nil, upd_self hF], _, rfl⟩ ?_ ?_
    · rintro j c σ H2 hc ⟨hj, rfl, y, rfl⟩
      have hc' : sg[j]? = some c := by
        have : (Sx sg).cps.toList[j]? = some c := by rw [Array.getElem?_toList]; exact hc
        rwa [Sx_cps] at this
      have hjl := (List.getElem?_eq_some_iff.mp hc').1
      refine ⟨_, rfl, .inl ⟨rfl, _, SqL.of upd_same⟩, _, rfl, _, rfl, wd, [c], rfl, rfl, by rw [List.length_singleton, sizeLine_eq]; lia, fl, _, _, rfl, rfl, upd_same, ?_, ?_⟩
      · rw [List.length_append, List.length_map, List.length_take, sizeLine_eq]
        lia
      · refine ⟨hjl, ?_, _, rfl⟩
        rw [upd_two, List.take_add_one, hc', List.map_append, List.append_assoc]
        rfl
    · rintro σ H2 ⟨hj, rfl, y, rfl⟩
      rw [zs, List.take_of_length_le (Nat.le_refl _)]
      exact nx y
  case taild =>
    obtain ⟨r, dl, rs, sg, mm, x0, x1, x3, x7, x8, x9, x10, x11, x12, x13, x14, rfl, hR, hl, hg, hmm, hD, qd⟩ := h
    obtain ⟨vs, hvs, hvp⟩ := id hR
    have lf := frm_len (rs := rs) hg mm
    refine ⟨_, rfl, r, vs, rfl, .inl (SqL.of hvs), fun pl hpl => ?_⟩
    have s1 := same_new hpl (.lst vs)
    refine ⟨_, rfl, _, rfl, pl, rs, sg, mm, rfl, ⟨vs, upd_same, pairImp hvp fun _ _ z => z.mono (tups_of s1)⟩, by lia, hg, hmm, fun l2 H3 s3 hf => ?_⟩
    have hD3 := s3 _ _ (s1 _ _ hD)
    generalize hfl : frmL rs sg mm = fs at *
    refine ⟨_, rfl, _, "list", _, _, rfl, .lst hf, rfl, _, rfl, iteF ?_⟩
    refine ⟨_, rfl, l2, _, rfl, .inl (SqL.of hf), _, rfl, dl, _, rfl, .inl (SqL.of hD3), rfl, _, rfl, ?_⟩
    rw [decide_eq_true rfl]
    refine iteF ?_
    refine ⟨_, rfl, dl, _, rfl, .inl (SqL.of hD3), _, rfl, by rw [List.length_map]; lia, by rw [List.length_map]; lia, ?_⟩
    rw [Int.toNat_natCast]
    refine for_range (lo := 0) (n := (fs.map tx).length) (fun i σ H4 => H4 = H3 ∧ ∃ y, σ = [x0, x1, some (.ref r), x3, some (tx sg), some (.int mm), some (.ref dl), x7, x8, x9, x10, x11, x12, some (.ref l2), y]) ⟨rfl, _, rfl⟩ ?_ ?_
    · rintro i σ H4 hi ⟨rfl, y, rfl⟩
      rw [Int.zero_add]
      have hat : atI (fs.map tx) ((i : Nat) : Int) = some ((fs.map tx)[i]) := atI_nat (List.getElem?_eq_getElem hi)
      have het : (fs.map tx)[i] = tx (fs[i]'(by rw [List.length_map] at hi; exact hi)) := List.getElem_map ..
      rw [het] at hat
      refine ⟨_, rfl, _, rfl, l2, _, _, _, rfl, rfl, SqL.of hf, hat, _, "str", _, _, rfl, .str _, rfl, _, rfl, iteF ?_⟩
      refine ⟨_, rfl, _, rfl, l2, _, _, _, rfl, rfl, SqL.of hf, hat, _, rfl, _, rfl, dl, _, _, _, rfl, rfl, SqL.of hD3, hat, rfl, _, rfl, ?_⟩
      rw [decide_eq_true rfl]
      exact iteF ⟨rfl, _, rfl⟩
    · rintro σ H4 ⟨rfl, y, rfl⟩
      exact qd _
  case taila =>
    obtain ⟨a, r, dl, ns, rs, sg, m, x1, x3, x7, x8, x9, x10, x11, x12, x13, x14, rfl, hS, hn, hR, hl, hg, hm1, hm2, hD, qd⟩ := h
    have lA := all_len (rs := rs) hg (m + 1).toNat (by lia)
    have hwl : ∀ w ∈ allB rs sg (m + 1).toNat, w.length ≤ 10 := fun w hw => by
      obtain ⟨k, hk, hw'⟩ := List.mem_flatMap.mp hw
      rw [wrd_len k w hw']
      have := List.mem_range.mp hk
      lia
    have e4 : allB rs sg (m + 1).toNat = frmL rs sg m := by
      unfold frmL
      split
      · rw [show (m + 1).toNat = 0 by lia]; rfl
      · rw [show min m.toNat 4 + 1 = (m + 1).toNat by lia]
    refine ⟨_, rfl, dl, rfl, ⟨_, SqL.of hD⟩, ?_⟩
    refine turns_list (K := K) (a := dl) (xs := (allB rs sg (m + 1).toNat).map tx) (fun j acc H3 => H3 = H' ∧ acc.length ≤ j ∧ (acc = [] ↔ ∀ u ∈ (allB rs sg (m + 1).toNat).take j, u.length ≠ 4))
      ⟨rfl, Nat.le_refl _, fun _ u hu => (nomatch hu), fun _ => rfl⟩ (fun j acc H3 ⟨_, e, _⟩ => e) (by rw [List.length_map, sizeLine_eq]; lia) (fun j acc H3 ⟨e, _⟩ => by rw [e]; exact SqL.of hD) (fun j acc H3 v hv ⟨e, ha, hacc⟩ => ?_) (fun acc H3 ⟨e, ha, hacc⟩ p3 hp3 => ?_)
    · subst e
      rw [List.getElem?_map] at hv
      cases hu : (allB rs sg (m + 1).toNat)[j]? with
      | none => rw [hu] at hv; cases hv
      | some u =>
        rw [hu] at hv
        cases hv
        have etk : (allB rs sg (m + 1).toNat).take (j + 1) = (allB rs sg (m + 1).toNat).take j ++ [u] := by rw [List.take_add_one, hu]; rfl
        have hul := hwl u (List.mem_of_getElem? hu)
        refine ⟨rfl, ?_⟩
        refine ⟨_, rfl, u, rfl, szl (by lia), rfl, _, rfl, ?_⟩
        have ev : ∀ b : Bool, decide (V.int ((u.length : Nat) : Int) = V.int 4) = b → (b = true ↔ u.length = 4) := fun b e => by
          rw [← e, decide_eq_true_iff]
          constructor
          · intro z
            have := V.int.inj z
            lia
          · intro z; rw [z]; rfl
        refine ite2 (fun ct => ?_) (fun ct => ?_)
        · have h4 := (ev _ rfl).mp ct
          refine ⟨_, rfl, rfl, by rw [List.length_append, List.length_singleton]; lia, fun z => ?_, fun z => ?_⟩
          · have := congrArg List.length z
            rw [List.length_append, List.length_singleton] at this
            exact absurd this (Nat.succ_ne_zero _)
          · exact absurd h4 (z u (by rw [etk]; exact List.mem_append_right _ (List.mem_singleton.mpr rfl)))
        · have h4 : u.length ≠ 4 := fun z => ct ((ev _ rfl).mpr z)
          refine ⟨rfl, by lia, fun z t ht => ?_, fun z => hacc.mpr fun t ht => z t (by rw [etk]; exact List.mem_append_left _ ht)⟩
          rw [etk] at ht
          rcases List.mem_append.mp ht with y | y
          · exact hacc.mp z t y
          · rw [List.mem_singleton.mp y]; exact h4
    · subst e
      rw [List.length_map, List.take_of_length_le (Nat.le_refl _)] at hacc
      have s5 := same_new hp3 (.lst acc)
      refine ⟨(by show 0 ≤ sizeLine; decide), fun z hz => ?_⟩
      have s6 := same_new hz (.lst [])
      refine ⟨p3, z, acc, rfl, rfl, SqL.of (s6 _ _ upd_same), SqL.of upd_same, ?_⟩
      have t5 := s5.trans s6
      generalize upd (upd H3 p3 (.lst acc)) z (.lst []) = H5 at *
      refine ⟨_, rfl, rfl, _, rfl, ?_⟩
      refine ite2 (fun ct => ?_) (fun ct => ?_)
      · have h4 : m = 4 := V.int.inj (of_decide_eq_true ct)
        refine ⟨_, rfl, _, rfl, ?_⟩
        cases hem : acc.isEmpty with
        | true =>
          have hno := hacc.mp (List.isEmpty_iff.mp hem)
          have w4 : wrdB rs sg 4 = [] := by
            refine List.eq_nil_iff_forall_not_mem.mpr fun u hu => hno u ?_ (wrd_len 4 u hu)
            refine List.mem_flatMap.mpr ⟨4, List.mem_range.mpr (by lia), hu⟩
          refine iteT ?_
          refine ⟨_, rfl, a, ns, 0, rfl, t5.seq hS, by lia, _, rfl, fun rr H6 s6' => ⟨rr, rfl, _, _, rfl, rfl, ?_⟩⟩
          refine ⟨r, dl, rs, sg, _, _, _, _, _, _, _, _, _, _, _, _, rfl, (hR.mono t5).mono s6', hl, hg, .inr w4, ?_, qd⟩
          rw [s6' _ _ (t5 _ _ hD)]
          congr 3
          unfold frmL
          have hge : 4 ≤ (4 : Int) + (if rr < 0 then -rr else rr) := by split <;> lia
          rw [if_neg (by lia), h4, show min (4 + if rr < 0 then -rr else rr).toNat 4 = 4 by lia]
          rfl
        | false => exact iteF ⟨r, dl, rs, sg, m, _, _, _, _, _, _, _, _, _, _, _, rfl, hR.mono t5, hl, hg, .inl hm2, by rw [t5 _ _ hD, e4], qd⟩
      · exact iteF ⟨r, dl, rs, sg, m, _, _, _, _, _, _, _, _, _, _, _, rfl, hR.mono t5, hl, hg, .inl hm2, by rw [t5 _ _ hD, e4], qd⟩
  case tailb =>
    obtain ⟨a, r, ns, rs, sg, x1, x3, x5, x6, x7, x8, x9, x10, x11, x12, x13, x14, rfl, hS, hn, hR, hl, hne, hg, qd⟩ := h
    refine ⟨_, rfl, a, ns, 1, rfl, hS, by lia, _, _, rfl, rfl, (by show (0 : Int) < 6; decide), _, _, rfl, rfl, ?_⟩
    show gName 5 (V.int (ns.getD 1 0 % 6 - 1)) _ _ _
    obtain ⟨m, hm0, hm1, hm2⟩ : ∃ m : Int, ns.getD 1 0 % 6 - 1 = m ∧ -1 ≤ m ∧ m ≤ 4 := ⟨_, rfl, by lia, by lia⟩
    rw [hm0]
    refine ⟨(by show 0 ≤ sizeLine; decide), fun dl hdl => ?_⟩
    have s1 := same_new hdl (.lst [])
    refine ⟨(by show 1 ≤ sizeLine; decide), fun rl hrl => ?_⟩
    have s2 := same_new hrl (.lst [V.str ""])
    have nrd : rl ≠ dl := fun z => by rw [z, upd_same] at hrl; cases hrl
    refine ⟨_, rfl, by decide, by decide, ?_⟩
    refine for_range (lo := 0) (n := 5) (L5W a r dl rs sg m H') ⟨rl, _, _, _, _, _, _, _, _, _, rfl, s1.trans s2, Nat.zero_le _, ?_, ?_, nrd⟩ ?_ ?_
    · rw [upd_ne (Ne.symm nrd), upd_same, Nat.zero_min]
      rfl
    · rw [upd_same, str_nil]
      rfl
    · rintro i σ H1 hi ⟨rl, x1, x3, x8, x9, x10, x11, x12, x13, x14, rfl, t1, _, hD, hRow, nrd⟩
      rw [Int.zero_add]
      refine ⟨(by show 0 ≤ sizeLine; decide), fun fl2 hfl => ?_⟩
      have s3 := same_new hfl (.lst [])
      have ndf : dl ≠ fl2 := ne_of_none hD hfl
      have nrf : rl ≠ fl2 := ne_of_none hRow hfl
      have hffree : H' fl2 = none := by
        cases e : H' fl2 with
        | none => rfl
        | some o => rw [t1 _ _ e] at hfl; cases hfl
      refine ⟨_, rfl, rl, rfl, ⟨_, SqL.of (s3 _ _ hRow)⟩, ?_⟩
      refine for_list (K := K) (a := rl) (xs := (rowB rs sg i).map tx) (M5W a r dl rl fl2 rs sg m i x1 x3 x12 x13 x14 H')
        ⟨_, _, rfl, t1.trans s3, Nat.zero_le _, ?_, s3 _ _ hRow, upd_same⟩ (fun p σ H2 _ (.mk _ _ _ _ _ _ h5 _) => SqL.of h5) ?_ ?_
      · rw [s3 _ _ hD, List.take_zero, List.filter_nil, ite_self, List.append_nil]
      · rintro p v σ H2 hv ⟨y10, y11, rfl, t2, hp, hD2, hRow2, hF2⟩
        rw [List.getElem?_map] at hv
        cases hc : (rowB rs sg i)[p]? with
        | none => rw [hc] at hv; cases hv
        | some wd =>
          rw [hc] at hv
          cases hv
          have hpl : p < (rowB rs sg i).length := (List.getElem?_eq_some_iff.mp hc).1
          have hwl := row_len i wd (List.mem_of_getElem? hc)
          obtain ⟨vs, hvs, hvp⟩ := id (hR.mono t2)
          have lv := pairLen hvp
          refine ⟨_, rfl, r, rfl, ⟨_, SqL.of hvs⟩, ?_⟩
          refine turns_list (K := K) (a := r) (xs := vs) (fun j acc H3 => H3 = H2 ∧ j ≤ rs.length ∧ acc.length ≤ j ∧ (acc = [] ↔ ∀ u ∈ rs.take j, ¬ Oc u.1 wd))
            ⟨rfl, Nat.zero_le _, Nat.le_refl _, fun _ u hu => (nomatch hu), fun _ => rfl⟩ (fun j acc H3 ⟨_, _, e, _⟩ => e) (small1000 (by lia)) (fun j acc H3 ⟨e, _⟩ => by rw [e]; exact SqL.of hvs) (fun j acc H3 v hv ⟨e, hj, ha, hacc⟩ => ?_) (fun acc H3 ⟨e, hj, ha, hacc⟩ p3 hp3 => ?_)
          · subst e
            obtain ⟨u, hu, pt, rfl, hpt⟩ := pairGetL hvp hv
            have hjl := (List.getElem?_eq_some_iff.mp hu).1
            have etk : rs.take (j + 1) = rs.take j ++ [u] := by rw [List.take_add_one, hu]; rfl
            refine ⟨rfl, ?_⟩
            refine ⟨_, rfl, pt, _, 0, _, rfl, rfl, SqT.of hpt, rfl, _, rfl, Sx u.1, Sx wd, rfl, rfl, _, rfl, ?_⟩
            refine ite2 (fun ct => ?_) (fun ct => ?_)
            · have ho : Oc u.1 wd := oc_in.mp ct
              refine ⟨_, rfl, rfl, hjl, by rw [List.length_append, List.length_singleton]; lia, fun z => ?_, fun z => ?_⟩
              · have := congrArg List.length z
                rw [List.length_append, List.length_singleton] at this
                exact absurd this (Nat.succ_ne_zero _)
              · exact absurd ho (z u (by rw [etk]; exact List.mem_append_right _ (List.mem_singleton.mpr rfl)))
            · have ho : ¬ Oc u.1 wd := fun z => ct (oc_in.mpr z)
              refine ⟨rfl, hjl, by lia, fun z t ht => ?_, fun z => hacc.mpr fun t ht => z t (by rw [etk]; exact List.mem_append_left _ ht)⟩
              rw [etk] at ht
              rcases List.mem_append.mp ht with y | y
              · exact hacc.mp z t y
              · rw [List.mem_singleton.mp y]; exact ho
          · subst e
            rw [lv, List.take_of_length_le (Nat.le_refl _)] at hacc
            have s5 := same_new hp3 (.lst acc)
            refine ⟨(by show 0 ≤ sizeLine; decide), fun z hz => ?_⟩
            have s6 := same_new hz (.lst [])
            refine ⟨p3, z, acc, rfl, rfl, SqL.of (s6 _ _ upd_same), SqL.of upd_same, _, rfl, ?_⟩
            have t5 := s5.trans s6
            generalize upd (upd H3 p3 (.lst acc)) z (.lst []) = H5 at *
            have hD5 := t5 _ _ hD2
            have hF5 := t5 _ _ hF2
            have hRow5 := t5 _ _ hRow2
            have etk : (rowB rs sg i).take (p + 1) = (rowB rs sg i).take p ++ [wd] := by rw [List.take_add_one, hc]; rfl
            have ne : acc.isEmpty = freB rs wd := by
              rw [Bool.eq_iff_iff, List.isEmpty_iff, hacc, fre_iff]
            rw [ne]
            cases hfr : freB rs wd with
            | false =>
              refine iteF ⟨_, _, rfl, t2.trans t5, hpl, ?_, hRow5, ?_⟩
              · rw [hD5, etk, List.filter_append, List.filter_cons, hfr, List.filter_nil]
                simp
              · rw [hF5, etk, List.filter_append, List.filter_cons, hfr, List.filter_nil]
                simp
            | true =>
              refine iteT ?_
              have efil : ((rowB rs sg i).take (p + 1)).filter (freB rs) = ((rowB rs sg i).take p).filter (freB rs) ++ [wd] := by
                rw [etk, List.filter_append, List.filter_cons, hfr, List.filter_nil]
                rfl
              have lnF : (((rowB rs sg i).take p).filter (freB rs)).length ≤ 243 := by
                refine Nat.le_trans (List.length_filter_le ..) ?_
                rw [List.length_take]
                exact Nat.le_trans (Nat.min_le_right _ _) (row_few hg (by lia))
              have lnE := ext_len hg (((rowB rs sg i).take p).filter (freB rs))
              have lnA := all_len (rs := rs) hg (min i (m + 1).toNat) (by lia)
              have eext : extB sg (((rowB rs sg i).take (p + 1)).filter (freB rs)) = extB sg (((rowB rs sg i).take p).filter (freB rs)) ++ sg.map fun c => wd ++ [c] := by
                rw [efil]
                unfold extB
                rw [List.flatMap_append]
                simp
              refine ⟨_, rfl, _, rfl, _, _, rfl, rfl, _, rfl, ?_⟩
              refine ite2 (fun ct => ?_) (fun ct => ?_)
              · have hle : (i : Int) ≤ m := of_decide_eq_true ct
                refine ⟨_, rfl, .inl ⟨rfl, _, SqL.of hD5⟩, _, rfl, dl, _, _, rfl, rfl, hD5, ?_, ?_⟩
                · rw [List.length_map, List.length_append, if_pos hle, sizeLine_eq]
                  lia
                · refine ⟨fl2, _, wd, sg, _, _, _, _, _, _, _, _, _, _, _, _, rfl, (by rw [upd_ne (Ne.symm ndf)]; exact hF5), by rw [List.length_map]; lia, by lia, hg, fun y => ⟨_, _, rfl, ((t2.trans t5).own hdl _).own hffree _, hpl, ?_, ?_, ?_⟩⟩
                  · rw [upd_ne ndf, upd_same, if_pos hle, if_pos hle, efil, ← List.append_assoc, List.map_append (l₂ := [wd])]
                    rfl
                  · rw [upd_ne nrf, upd_ne nrd]; exact hRow5
                  · rw [upd_same, eext, List.map_append, List.map_map]
                    rfl
              · have hle : ¬ (i : Int) ≤ m := fun z => ct (decide_eq_true z)
                refine ⟨fl2, _, wd, sg, _, _, _, _, _, _, _, _, _, _, _, _, rfl, hF5, by rw [List.length_map]; lia, by lia, hg, fun y => ⟨_, _, rfl, (t2.trans t5).own hffree _, hpl, ?_, ?_, ?_⟩⟩
                · rw [upd_ne ndf, hD5, if_neg hle, if_neg hle]
                · rw [upd_ne nrf]; exact hRow5
                · rw [upd_same, eext, List.map_append, List.map_map]
                  rfl
      · rintro σ H2 ⟨y10, y11, rfl, t2, hp, hD2, hRow2, hF2⟩
        rw [List.length_map, List.take_of_length_le (Nat.le_refl _), (wrd_fre hne i).1] at hF2
        rw [List.length_map, List.take_of_length_le (Nat.le_refl _), (wrd_fre hne i).1] at hD2
        refine ⟨_, rfl, fl2, _, _, _, _, _, _, _, _, _, rfl, t2, hi, ?_, hF2, Ne.symm ndf⟩
        rw [hD2]
        congr 3
        by_cases hle : (i : Int) ≤ m
        · rw [if_pos hle, show min (i + 1) (m + 1).toNat = i + 1 by lia, show min i (m + 1).toNat = i by lia, all_succ]
        · rw [if_neg hle, List.append_nil, show min (i + 1) (m + 1).toNat = min i (m + 1).toNat by lia]
    · rintro σ H1 ⟨rl, x1, x3, x8, x9, x10, x11, x12, x13, x14, rfl, t1, _, hD, hRow, nrd⟩
      refine ⟨a, r, dl, ns, rs, sg, m, _, _, _, _, _, _, _, _, _, _, rfl, t1.seq hS, hn, hR.mono t1, hl, hg, hm1, hm2, ?_, qd⟩
      rw [hD, show min 5 (m + 1).toNat = (m + 1).toNat by lia]
  refine ⟨_, rfl, a, ns, rfl, hS, by lia, fun x y H1 hxy hx97 hy s1 => ?_⟩
  refine ⟨_, rfl, 2, rfl, 10, rfl, a, _, rfl, s1.seq hS, fun p hp => ?_⟩
  have hcl : (cutI ns (some (2 : Int)) (some (10 : Int))).length ≤ 8 := cutI_len2 ns 2 10
  refine ⟨_, rfl, p, cutI ns (some 2) (some 10), x, y, rfl, hxy, SqL.of (by rw [upd_same, cutV_map]), by lia, fun r rs H2 s2 hR hG hrl => ?_⟩
  have t2 : Same H H2 := s1.trans ((same_new hp _).trans s2)
  have zs : (Sx ([x, y] ++ [113])).cps.size = 3 := by simp [Sx]
  have zl : (Sx ([x, y] ++ [113])).cps.toList.reverse = [113, y, x] := by simp [Sx]
  refine ⟨rfl, _, rfl, [x, y], [113], rfl, str_q, (by show 3 ≤ sizeLine; decide), Sx ([x, y] ++ [113]), rfl, by rw [zs]; decide, fun l1 hl1 => ?_⟩
  refine ⟨l1, _, _, x, y, rfl, upd_same, by rw [zl]; simp, by rw [zl]; simp, Nat.ne_of_lt hxy, by rw [zs]; decide, fun l2 ss hl2 hln hone => ?_⟩
  obtain ⟨j1, j2⟩ := one_join hone
  rw [zs] at hln
  have eS : ss.map V.str = (ss.map fun z => z.cps.toList).map fun w => V.str (Sx w) := by
    rw [List.map_map]
    exact List.map_congr_left fun z _ => congrArg V.str (Sx_of z)
  refine ⟨l2, ss.map fun z => z.cps.toList, str_nil, rfl, SqL.of (by rw [upd_same, eS]), by rw [j1]; lia, ?_⟩
  generalize hth : (ss.map fun z => z.cps.toList).flatten = th at *
  have hthl : th.length ≤ 3 := by rw [j2]; exact hln
  have t3 : Same H2 _ := (same_new hl1 _).trans (same_new hl2 (.lst (ss.map V.str)))
  generalize upd (upd H2 l1 _) l2 (.lst (ss.map V.str)) = H3 at *
  have t4 := t2.trans t3
  refine ⟨_, rfl, Sx [x, y], 0, x, rfl, rfl, (by show 2 ≤ sizeLine; decide), rfl, _, rfl, _, rfl, (by show 3 ≤ sizeLine; decide), fun z hz => ?_⟩
  have sz := same_new hz (.lst [V.str ⟨#[x]⟩, tx [x, y], tx th])
  refine ⟨_, rfl, a, ns, 0, rfl, (t4.trans sz).seq hS, by lia, _, _, rfl, rfl, (by show (0 : Int) < 3; decide), ?_⟩
  obtain ⟨sg, hsg, hat⟩ : ∃ sg : Wd, sg.length ≤ 3 ∧ atI [V.str ⟨#[x]⟩, tx [x, y], tx th] (ns.getD 0 0 % 3) = some (tx sg) := by
    have : ns.getD 0 0 % 3 = 0 ∨ ns.getD 0 0 % 3 = 1 ∨ ns.getD 0 0 % 3 = 2 := by lia
    rcases this with e | e | e <;> rw [e]
    · exact ⟨[x], (by show 1 ≤ 3; decide), rfl⟩
    · exact ⟨[x, y], (by show 2 ≤ 3; decide), rfl⟩
    · exact ⟨th, hthl, rfl⟩
  refine ⟨z, _, _, _, rfl, rfl, SqL.of upd_same, hat, ?_⟩
  exact ⟨a, r, ns, rs, sg, _, _, _, _, _, _, _, _, _, _, _, _, rfl, (t4.trans sz).seq hS, hn, (hR.mono t3).mono sz, by lia, good_ne hG, hsg, q⟩
end
end Sg
namespace Sg
open PySem L2
theorem len1 {p : List Value → Prop} (h : ∀ x0, p [x0]) : ∀ us : List Value, us.length = 1 → p us
  | [_], _ => h _
theorem len2 {p : List Value → Prop} (h : ∀ x0 x1, p [x0, x1]) : ∀ us : List Value, us.length = 2 → p us
  | [_, _], _ => h _ _
theorem len3 {p : List Value → Prop} (h : ∀ x0 x1 x2, p [x0, x1, x2]) : ∀ us : List Value, us.length = 3 → p us
  | [_, _, _], _ => h _ _ _
theorem dfn_mk {K : PySem.W.Frag} {h : Heap} {mg : Str → Option Value} {x : Str} {st : Stmt} {ps : List Str} {f : Addr} {oc : Value} {od an : Option Addr} {osl : Array (Option Value)} {kV doc pm cdv ct : Value} (X : K.In h) (G : h.Ns mainGlobals mg)
    (a : PySem.W.nsIn K mainGlobals x = some (some (.ref f))) (l : K.lookup f = some ⟨oc, od, .func (PySem.W.fnOf x x (defArgs st) (defBody st) (defScope st) .none kV doc pm an cdv ct), osl⟩) (c : PySem.W.codeIn K cdv x = true) (k : PySem.W.keepIn K (.ref f) = true)
    (hb : ∀ (kV doc pm : Value) (an : Option Addr) (cdv ct : Value) (us : List Value), us.length = ps.length → bindArgs (PySem.W.fnOf x x (defArgs st) (defBody st) (defScope st) .none kV doc pm an cdv ct) ⟨us, []⟩ = pure (ps.zip us)) : Dfn K mg x st ps :=
  ⟨f, _, PySem.W.mg_of X G a, (fun_mk (st := st) l c k).binds hb, fun_mk (st := st) l c k⟩
theorem all_mk {l : PySem.W.OpenLaw} {w : World} {K : PySem.W.Frag} {h : Heap} {mg : Str → Option Value} {fa f1 f2 f3 f4 f5 f6 f7 f8 f9 f10 : Addr} (X : K.In h) (G : h.Ns mainGlobals mg) (hfa : mg "law" = some (.ref fa))
    {od1 an1 od2 an2 od3 an3 od4 an4 od5 an5 od6 an6 od7 an7 od8 an8 od9 an9 od10 an10 : Option Addr} {sl1 sl2 sl3 sl4 sl5 sl6 sl7 sl8 sl9 sl10 : Array (Option Value)}
    {oc1 kV1 dc1 pm1 cd1 ct1 oc2 kV2 dc2 pm2 cd2 ct2 oc3 kV3 dc3 pm3 cd3 ct3 oc4 kV4 dc4 pm4 cd4 ct4 oc5 kV5 dc5 pm5 cd5 ct5 oc6 kV6 dc6 pm6 cd6 ct6 oc7 kV7 dc7 pm7 cd7 ct7 oc8 kV8 dc8 pm8 cd8 ct8 oc9 kV9 dc9 pm9 cd9 ct9 oc10 kV10 dc10 pm10 cd10 ct10 : Value}
    (a1 : PySem.W.nsIn K mainGlobals "ends_free" = some (some (.ref f1))) (l1 : K.lookup f1 = some ⟨oc1, od1, .func (PySem.W.fnOf "ends_free" "ends_free" (defArgs s_ends_free) (defBody s_ends_free) (defScope s_ends_free) .none kV1 dc1 pm1 an1 cd1 ct1), sl1⟩) (c1 : PySem.W.codeIn K cd1 "ends_free" = true) (k1 : PySem.W.keepIn K (.ref f1) = true)
    (a2 : PySem.W.nsIn K mainGlobals "longer_by_one" = some (some (.ref f2))) (l2 : K.lookup f2 = some ⟨oc2, od2, .func (PySem.W.fnOf "longer_by_one" "longer_by_one" (defArgs s_longer_by_one) (defBody s_longer_by_one) (defScope s_longer_by_one) .none kV2 dc2 pm2 an2 cd2 ct2), sl2⟩) (c2 : PySem.W.codeIn K cd2 "longer_by_one" = true) (k2 : PySem.W.keepIn K (.ref f2) = true)
    (a3 : PySem.W.nsIn K mainGlobals "forms" = some (some (.ref f3))) (l3 : K.lookup f3 = some ⟨oc3, od3, .func (PySem.W.fnOf "forms" "forms" (defArgs sForms) (defBody sForms) (defScope sForms) .none kV3 dc3 pm3 an3 cd3 ct3), sl3⟩) (c3 : PySem.W.codeIn K cd3 "forms" = true) (k3 : PySem.W.keepIn K (.ref f3) = true)
    (a4 : PySem.W.nsIn K mainGlobals "_law_at" = some (some (.ref f4))) (l4 : K.lookup f4 = some ⟨oc4, od4, .func (PySem.W.fnOf "_law_at" "_law_at" (defArgs sAt) (defBody sAt) (defScope sAt) .none kV4 dc4 pm4 an4 cd4 ct4), sl4⟩) (c4 : PySem.W.codeIn K cd4 "_law_at" = true) (k4 : PySem.W.keepIn K (.ref f4) = true)
    (a5 : PySem.W.nsIn K mainGlobals "_law_sooner" = some (some (.ref f5))) (l5 : K.lookup f5 = some ⟨oc5, od5, .func (PySem.W.fnOf "_law_sooner" "_law_sooner" (defArgs sSooner) (defBody sSooner) (defScope sSooner) .none kV5 dc5 pm5 an5 cd5 ct5), sl5⟩) (c5 : PySem.W.codeIn K cd5 "_law_sooner" = true) (k5 : PySem.W.keepIn K (.ref f5) = true)
    (a6 : PySem.W.nsIn K mainGlobals "_law_ruled" = some (some (.ref f6))) (l6 : K.lookup f6 = some ⟨oc6, od6, .func (PySem.W.fnOf "_law_ruled" "_law_ruled" (defArgs sRuled) (defBody sRuled) (defScope sRuled) .none kV6 dc6 pm6 an6 cd6 ct6), sl6⟩) (c6 : PySem.W.codeIn K cd6 "_law_ruled" = true) (k6 : PySem.W.keepIn K (.ref f6) = true)
    (a7 : PySem.W.nsIn K mainGlobals "_law_in_letters" = some (some (.ref f7))) (l7 : K.lookup f7 = some ⟨oc7, od7, .func (PySem.W.fnOf "_law_in_letters" "_law_in_letters" (defArgs sLetters) (defBody sLetters) (defScope sLetters) .none kV7 dc7 pm7 an7 cd7 ct7), sl7⟩) (c7 : PySem.W.codeIn K cd7 "_law_in_letters" = true) (k7 : PySem.W.keepIn K (.ref f7) = true)
    (a8 : PySem.W.nsIn K mainGlobals "_law_letter_pair" = some (some (.ref f8))) (l8 : K.lookup f8 = some ⟨oc8, od8, .func (PySem.W.fnOf "_law_letter_pair" "_law_letter_pair" (defArgs sPair) (defBody sPair) (defScope sPair) .none kV8 dc8 pm8 an8 cd8 ct8), sl8⟩) (c8 : PySem.W.codeIn K cd8 "_law_letter_pair" = true) (k8 : PySem.W.keepIn K (.ref f8) = true)
    (a9 : PySem.W.nsIn K mainGlobals "_law_any" = some (some (.ref f9))) (l9 : K.lookup f9 = some ⟨oc9, od9, .func (PySem.W.fnOf "_law_any" "_law_any" (defArgs sAny) (defBody sAny) (defScope sAny) .none kV9 dc9 pm9 an9 cd9 ct9), sl9⟩) (c9 : PySem.W.codeIn K cd9 "_law_any" = true) (k9 : PySem.W.keepIn K (.ref f9) = true)
    (a10 : PySem.W.nsIn K mainGlobals "law" = some (some (.ref f10))) (l10 : K.lookup f10 = some ⟨oc10, od10, .func (PySem.W.fnOf "law" "law" (defArgs sLaw) (defBody sLaw) (defScope sLaw) .none kV10 dc10 pm10 an10 cd10 ct10), sl10⟩) (c10 : PySem.W.codeIn K cd10 "law" = true) (k10 : PySem.W.keepIn K (.ref f10) = true)
    (z1 : PySem.W.nsIn K mainGlobals "len" = some none)
    (z2 : PySem.W.nsIn K mainGlobals "range" = some none)
    (z3 : PySem.W.nsIn K mainGlobals "enumerate" = some none)
    (z4 : PySem.W.nsIn K mainGlobals "max" = some none)
    (z5 : PySem.W.nsIn K mainGlobals "int" = some none)
    (z6 : PySem.W.nsIn K mainGlobals "isinstance" = some none)
    (z7 : PySem.W.nsIn K mainGlobals "list" = some none)
    (z8 : PySem.W.nsIn K mainGlobals "tuple" = some none)
    (z9 : PySem.W.nsIn K mainGlobals "str" = some none)
    (z10 : PySem.W.nsIn K mainGlobals "bool" = some none)
    (y1 : PySem.W.nsIn K mainGlobals "any" = some none)
    (y2 : PySem.W.nsIn K mainGlobals "set" = some none)
    (y3 : PySem.W.nsIn K mainGlobals "sorted" = some none)
    (y4 : PySem.W.nsIn K mainGlobals "abs" = some none)
    :
    ∃ fd : FuncData, (∀ (s : Shared) (v : Value), BindsTo s fd ⟨[v], []⟩ [("_law_script", v)]) ∧ ∀ base : Heap, K.In base → base.Ns mainGlobals mg → FnOk l.prog w K mg base CX0 4 fa fd ["_law_script"] (spLaw K) := by
  have e := hfa.symm.trans (PySem.W.mg_of X G a10)
  cases e
  have D1 : Dfn K mg "ends_free" s_ends_free ["rules", "word"] := dfn_mk X G a1 l1 c1 k1 fun _ _ _ _ _ _ => len2 fun _ _ => rfl
  have D2 : Dfn K mg "longer_by_one" s_longer_by_one ["rules", "signs", "words"] := dfn_mk X G a2 l2 c2 k2 fun _ _ _ _ _ _ => len3 fun _ _ _ => rfl
  have D3 : Dfn K mg "forms" sForms ["rules", "signs", "most"] := dfn_mk X G a3 l3 c3 k3 fun _ _ _ _ _ _ => len3 fun _ _ _ => rfl
  have D4 : Dfn K mg "_law_at" sAt ["_law_script", "_law_k"] := dfn_mk X G a4 l4 c4 k4 fun _ _ _ _ _ _ => len2 fun _ _ => rfl
  have D5 : Dfn K mg "_law_sooner" sSooner ["_law_one", "_law_other"] := dfn_mk X G a5 l5 c5 k5 fun _ _ _ _ _ _ => len2 fun _ _ => rfl
  have D6 : Dfn K mg "_law_ruled" sRuled ["_law_cells", "_law_two"] := dfn_mk X G a6 l6 c6 k6 fun _ _ _ _ _ _ => len2 fun _ _ => rfl
  have D7 : Dfn K mg "_law_in_letters" sLetters ["_law_word", "_law_two"] := dfn_mk X G a7 l7 c7 k7 fun _ _ _ _ _ _ => len2 fun _ _ => rfl
  have D8 : Dfn K mg "_law_letter_pair" sPair ["_law_script"] := dfn_mk X G a8 l8 c8 k8 fun _ _ _ _ _ _ => len1 fun _ => rfl
  have D9 : Dfn K mg "_law_any" sAny ["_law_cell"] := dfn_mk X G a9 l9 c9 k9 fun _ _ _ _ _ _ => len1 fun _ => rfl
  have D10 : Dfn K mg "law" sLaw ["_law_script"] := dfn_mk X G a10 l10 c10 k10 fun _ _ _ _ _ _ => len1 fun _ => rfl
  have B : Blt mg := ⟨PySem.W.mg_none_of X G z1, PySem.W.mg_none_of X G z2, PySem.W.mg_none_of X G z3, PySem.W.mg_none_of X G z4, PySem.W.mg_none_of X G z5, PySem.W.mg_none_of X G z6, PySem.W.mg_none_of X G z7, PySem.W.mg_none_of X G z8, PySem.W.mg_none_of X G z9, PySem.W.mg_none_of X G z10⟩
  refine ⟨PySem.W.fnOf "law" "law" (defArgs sLaw) (defBody sLaw) (defScope sLaw) .none kV10 dc10 pm10 an10 cd10 ct10, fun s v => .of_eq rfl, fun base _ _ => ?_⟩
  have oE := ok_ends (P := l.prog) (w := w) (base := base) D1 (PySem.W.mg_none_of X G y1)
  have oL := ok_longer (P := l.prog) (w := w) (base := base) D2 oE
  have oF := ok_forms (P := l.prog) (w := w) (base := base) D3 oL
  have oP := ok_pairR (P := l.prog) (w := w) (base := base) D8
  have oLt := ok_letters (P := l.prog) (w := w) (base := base) D7 B
  have oSn := ok_sooner (P := l.prog) (w := w) (base := base) D5 B
  have oR := ok_ruled (P := l.prog) (w := w) (base := base) D6 B oLt oSn
  have oA := ok_at (P := l.prog) (w := w) (base := base) D4 B
  have oY := ok_any (P := l.prog) (w := w) (base := base) D9
  exact ok_law (fun_mk (st := sLaw) l10 c10 k10) B (PySem.W.mg_none_of X G y2) (PySem.W.mg_none_of X G y3) (PySem.W.mg_none_of X G y4) oP oR oA oY oF
theorem walk {l : PySem.W.OpenLaw} {q : Program} {loose : List Str} {XP : (Str → Option Value) → Heap → Prop} {YP : World → Heap → Prop} {d : DefRec} {K : Params → PySem.W.Frag} (hn : l.most = some 63) (hdf : d.params.defaults = [])
    (hY : ∀ (w : World) (h : Heap), YP w h → (K w.params).In h)
    (F : ∀ (w : World) (mg : Str → Option Value) (fa : Addr) (h : Heap), (K w.params).In h → h.Ns mainGlobals mg → mg d.name = some (.ref fa) →
      ∃ fd : FuncData, (∀ (s : Shared) (u : Value), BindsTo s fd ⟨[u], []⟩ [("_law_script", u)]) ∧ ∀ base : Heap, (K w.params).In base → base.Ns mainGlobals mg → FnOk l.prog w (K w.params) mg base CX0 4 fa fd ["_law_script"] (spLaw (K w.params))) :
    PySem.W.WalkO q loose XP YP l.row.toRowW d [] (fun f vs => PySem.call f vs) :=
  L2.walk_of (n := 63) (k := 4) (x := "_law_script") (CX := fun _ => CX0) (sp := fun w => spLaw (K w.params)) hn (by decide) hdf ⟨rfl, by decide, by decide⟩ hY F (fun _ _ a ns hl _ hS => ⟨a, ns, rfl, hS, hl, fun _ => rfl⟩) fun _ _ _ _ _ z => z
end Sg
open PySem PySem.W PyProof.Rows
set_option maxRecDepth 100000 in
set_option maxHeartbeats 0 in
theorem PySem.Challenge.cw_signmill_k05_forms_holds : PySem.Challenge.rw_signmill_k05_forms.Holds := by
  w_on; o_law; k_head; (case hw => w_witness2)
  k_fill
  refine Sg.walk (l := PySem.Challenge.rw_signmill_k05_forms) rfl rfl (fun w h Y => PySem.W.kIn_of Y) ?F
  case F =>
    intro w mg fa h KX G hmg
    refine' Sg.all_mk KX G hmg ?a1 ?l1 ?c1 ?k1 ?a2 ?l2 ?c2 ?k2 ?a3 ?l3 ?c3 ?k3 ?a4 ?l4 ?c4 ?k4 ?a5 ?l5 ?c5 ?k5 ?a6 ?l6 ?c6 ?k6 ?a7 ?l7 ?c7 ?k7 ?a8 ?l8 ?c8 ?k8 ?a9 ?l9 ?c9 ?k9 ?a10 ?l10 ?c10 ?k10 ?z1 ?z2 ?z3 ?z4 ?z5 ?z6 ?z7 ?z8 ?z9 ?z10 ?y1 ?y2 ?y3 ?y4
    (case a1 => k_is); (case l1 => k_is); (case c1 => k_is); (case k1 => k_is)
    (case a2 => k_is); (case l2 => k_is); (case c2 => k_is); (case k2 => k_is)
    (case a3 => k_is); (case l3 => k_is); (case c3 => k_is); (case k3 => k_is)
    (case a4 => k_is); (case l4 => k_is); (case c4 => k_is); (case k4 => k_is)
    (case a5 => k_is); (case l5 => k_is); (case c5 => k_is); (case k5 => k_is)
    (case a6 => k_is); (case l6 => k_is); (case c6 => k_is); (case k6 => k_is)
    (case a7 => k_is); (case l7 => k_is); (case c7 => k_is); (case k7 => k_is)
    (case a8 => k_is); (case l8 => k_is); (case c8 => k_is); (case k8 => k_is)
    (case a9 => k_is); (case l9 => k_is); (case c9 => k_is); (case k9 => k_is)
    (case a10 => k_is); (case l10 => k_is); (case c10 => k_is); (case k10 => k_is)
    (case z1 => k_is); (case z2 => k_is); (case z3 => k_is); (case z4 => k_is); (case z5 => k_is); (case z6 => k_is); (case z7 => k_is); (case z8 => k_is); (case z9 => k_is); (case z10 => k_is)
    (case y1 => k_is)
    (case y2 => k_is)
    (case y3 => k_is)
    (case y4 => k_is)
#print axioms PySem.Challenge.cw_signmill_k05_forms_holds
