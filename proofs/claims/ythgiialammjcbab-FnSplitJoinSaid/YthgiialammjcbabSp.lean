/- Contracts of functions, walked over the pure layer; each says for which arguments. -/
import Derived.Test.YthgiialammjcbabSpTy
import Derived.Test.YthgiialammjcbabTf
namespace Go.Proofs.Ythgiialammjcbab
open Go.RowKit SpTy
set_option linter.unusedVariables false
set_option linter.unusedSimpArgs false

theorem list_eq_ofI {α : Type} (d : α) (a b : List α) (h : a.length = b.length) (k : ∀ j, j < a.length → a.getD j d = b.getD j d) : a = b := by
  apply List.ext_getElem h
  intro j h1 h2
  have := k j h1
  simpa [h1, h2] using this
theorem take_snocI {α : Type} (d : α) (l : List α) (k : Nat) (h : k < l.length) : l.take (k + 1) = l.take k ++ [l.getD k d] := by
  rw [List.take_succ_eq_append_getElem h]; simp [h]
theorem fill_mapI {α : Type} (f : α → PV) (d : α) (a : List α) {k : Nat} (h : k < a.length) : putAt ((a.take k ++ List.replicate (a.length - k) d).map f) (k * 1) [f (a.getD k d)] = (a.take (k + 1) ++ List.replicate (a.length - (k + 1)) d).map f := by
  rw [put_map1 f _ (by simp; omega), take_snocI d a k h, List.set_append_right _ _ (by simp; omega), show k - (a.take k).length = 0 by simp; omega, show a.length - k = a.length - (k + 1) + 1 by omega, List.replicate_succ, List.set_cons_zero]
  simp
theorem list_ne_ofI {α : Type} (d : α) {a b : List α} (j : Nat) (k : a.getD j d ≠ b.getD j d) : a ≠ b := fun h => k (by rw [h])
def markI (n : Nat) (k : Int) : List Int := (List.range n).map fun (j : Nat) => k + j
theorem markI_len (n : Nat) (k : Int) : (markI n k).length = n := by simp [markI]
theorem markI_get (n : Nat) (k : Int) {j : Nat} (h : j < n) : (markI n k).getD j 0 = k + j := by
  simp [markI, h]
theorem markI_fill (l : List Int) (k : Int) {j : Nat} (h : j < l.length) : putAt ((markI j k ++ l.drop j).map (.int .i64)) (j * 1) [PV.int .i64 (k + j)] = (markI (j + 1) k ++ l.drop (j + 1)).map (.int .i64) := by
  rw [put_map1 (PV.int .i64) _ (by simp [markI]; omega), List.set_append_right _ _ (by simp [markI]), show j - (markI j k).length = 0 by simp [markI], List.drop_eq_getElem_cons h, List.set_cons_zero]
  simp [markI, List.range_succ]

def digT : List Int := [63, 6, 91, 79, 102, 109, 125, 7, 127, 111]
def digOf (c : Int) : Int := if c = 63 then 0 else if c = 6 then 1 else if c = 91 then 2 else if c = 79 then 3 else if c = 102 then 4 else if c = 109 then 5 else if c = 125 then 6 else if c = 7 then 7 else if c = 127 then 8 else if c = 111 then 9 else -1
theorem digOf_at {d : Int} {c : Int} (h0 : 0 ≤ d) (h1 : d ≤ 9) (h : digT.getD d.toNat 0 = c) : digOf c = d := by
  have : d = 0 ∨ d = 1 ∨ d = 2 ∨ d = 3 ∨ d = 4 ∨ d = 5 ∨ d = 6 ∨ d = 7 ∨ d = 8 ∨ d = 9 := by omega
  subst h
  rcases this with rfl | rfl | rfl | rfl | rfl | rfl | rfl | rfl | rfl | rfl <;> rfl
theorem digOf_none {c : Int} (h : ∀ j : Nat, j < 10 → digT.getD j 0 ≠ c) : digOf c = -1 := by
  have k0 := h 0 (by omega); have k1 := h 1 (by omega); have k2 := h 2 (by omega); have k3 := h 3 (by omega); have k4 := h 4 (by omega)
  have k5 := h 5 (by omega); have k6 := h 6 (by omega); have k7 := h 7 (by omega); have k8 := h 8 (by omega); have k9 := h 9 (by omega)
  simp [digT] at k0 k1 k2 k3 k4 k5 k6 k7 k8 k9
  unfold digOf
  repeat rw [if_neg (by omega)]
theorem digOf_le (c : Int) : -1 ≤ digOf c ∧ digOf c ≤ 9 := by
  unfold digOf
  repeat' split
  all_goals omega
def RowP (l : List Int) : Prop := l.length ≤ 6 ∧ ∀ x ∈ l, 0 ≤ x ∧ x ≤ 127
instance (l : List Int) : Decidable (RowP l) := by unfold RowP; infer_instance
theorem RowP.at {l : List Int} (h : RowP l) {j : Nat} (hj : j < l.length) : 0 ≤ l.getD j 0 ∧ l.getD j 0 ≤ 127 := by
  have : l.getD j 0 = l[j] := by simp [hj]
  rw [this]; exact h.2 _ (List.getElem_mem hj)
theorem RowP.of {l : List Int} (h0 : l.length ≤ 6) (h : ∀ j, j < l.length → 0 ≤ l.getD j 0 ∧ l.getD j 0 ≤ 127) : RowP l := ⟨h0, fun x hx => by
  obtain ⟨j, hj, rfl⟩ := List.getElem_of_mem hx
  have := h j hj
  simpa [hj] using this⟩
def cnt7 (n : Nat) : Nat := n % 2 + n / 2 % 2 + n / 4 % 2 + n / 8 % 2 + n / 16 % 2 + n / 32 % 2 + n / 64 % 2
def turn7 (n : Nat) : Nat := n / 8 % 2 + 2 * (n / 16 % 2) + 4 * (n / 32 % 2) + 8 * (n % 2) + 16 * (n / 2 % 2) + 32 * (n / 4 % 2) + 64 * (n / 64 % 2)
def mir7 (n : Nat) : Nat := n % 2 + 2 * (n / 32 % 2) + 4 * (n / 16 % 2) + 8 * (n / 8 % 2) + 16 * (n / 4 % 2) + 32 * (n / 2 % 2) + 64 * (n / 64 % 2)
def bars7 (n : Nat) : List UInt8 := ((List.range 7).filter (fun k => Nat.beq (n / 2 ^ k % 2) 1)).map fun k => UInt8.ofNat (97 + k)

end Go.Proofs.Ythgiialammjcbab
