/- Contracts of functions, walked over the pure layer; each says for which arguments. -/
import Derived.Test.YtgpgjaebhfhjoaaDoors1Ty
import Derived.Test.YtgpgjaebhfhjoaaDoorTf
import Derived.Test.YtgpgjaebhfhjoaaDoorPwBr
namespace Go.Proofs.YtgpgjaebhfhjoaaDoor
open Go.RowKit s1Ty
set_option linter.unusedVariables false
set_option linter.unusedSimpArgs false

theorem list_eq_ofI {α : Type} (d : α) (a b : List α) (h : a.length = b.length) (k : ∀ j, j < a.length → a.getD j d = b.getD j d) : a = b := by
  apply List.ext_getElem h
  intro j h1 h2
  have := k j h1
  simpa [h1, h2] using this
theorem take_snocI {α : Type} (d : α) (l : List α) (k : Nat) (h : k < l.length) : l.take (k + 1) = l.take k ++ [l.getD k d] := by
  rw [List.take_succ_eq_append_getElem h]; simp [h]
theorem fill_mapI {α : Type} (f : α → PV) (d : α) (a : List α) {k : Nat} (h : k < a.length) : putAt ((a.take k ++ List.replicate (a.length - k) d).map f) (k * 1) [f (a.getD k d)] = (a.take (k + 1) ++ List.replicate (a.length - (k + 1)) d).map f := by
  rw [put_map1 f _ (by simp; omega), take_snocI d a k h, List.set_append_right _ _ (by simp; omega), show k - (a.take k).length = 0 by simp; omega, show a.length - k = a.length - (k + 1) + 1 by omega, List.replicate_succ, List.set_cons_zero]
  simp
theorem list_ne_ofI {α : Type} (d : α) {a b : List α} (j : Nat) (k : a.getD j d ≠ b.getD j d) : a ≠ b := fun h => k (by rw [h])
def markI (n : Nat) (k : Int) : List Int := (List.range n).map fun (j : Nat) => k + j
theorem markI_len (n : Nat) (k : Int) : (markI n k).length = n := by simp [markI]
theorem markI_get (n : Nat) (k : Int) {j : Nat} (h : j < n) : (markI n k).getD j 0 = k + j := by
  simp [markI, h]
theorem markI_fill (l : List Int) (k : Int) {j : Nat} (h : j < l.length) : putAt ((markI j k ++ l.drop j).map (.int .i64)) (j * 1) [PV.int .i64 (k + j)] = (markI (j + 1) k ++ l.drop (j + 1)).map (.int .i64) := by
  rw [put_map1 (PV.int .i64) _ (by simp [markI]; omega), List.set_append_right _ _ (by simp [markI]), show j - (markI j k).length = 0 by simp [markI], List.drop_eq_getElem_cons h, List.set_cons_zero]
  simp [markI, List.range_succ]

def digT : List Int := [63, 6, 91, 79, 102, 109, 125, 7, 127, 111]
def digOf (c : Int) : Int := if c = 63 then 0 else if c = 6 then 1 else if c = 91 then 2 else if c = 79 then 3 else if c = 102 then 4 else if c = 109 then 5 else if c = 125 then 6 else if c = 7 then 7 else if c = 127 then 8 else if c = 111 then 9 else -1
theorem digOf_at {d : Int} {c : Int} (h0 : 0 ≤ d) (h1 : d ≤ 9) (h : digT.getD d.toNat 0 = c) : digOf c = d := by
  have : d = 0 ∨ d = 1 ∨ d = 2 ∨ d = 3 ∨ d = 4 ∨ d = 5 ∨ d = 6 ∨ d = 7 ∨ d = 8 ∨ d = 9 := by omega
  subst h
  rcases this with rfl | rfl | rfl | rfl | rfl | rfl | rfl | rfl | rfl | rfl <;> rfl
theorem digOf_none {c : Int} (h : ∀ j : Nat, j < 10 → digT.getD j 0 ≠ c) : digOf c = -1 := by
  have k0 := h 0 (by omega); have k1 := h 1 (by omega); have k2 := h 2 (by omega); have k3 := h 3 (by omega); have k4 := h 4 (by omega)
  have k5 := h 5 (by omega); have k6 := h 6 (by omega); have k7 := h 7 (by omega); have k8 := h 8 (by omega); have k9 := h 9 (by omega)
  simp [digT] at k0 k1 k2 k3 k4 k5 k6 k7 k8 k9
  unfold digOf
  repeat rw [if_neg (by omega)]
theorem digOf_le (c : Int) : -1 ≤ digOf c ∧ digOf c ≤ 9 := by
  unfold digOf
  repeat' split
  all_goals omega
def RowP (l : List Int) : Prop := l.length ≤ 6 ∧ ∀ x ∈ l, 0 ≤ x ∧ x ≤ 127
instance (l : List Int) : Decidable (RowP l) := by unfold RowP; infer_instance
theorem RowP.at {l : List Int} (h : RowP l) {j : Nat} (hj : j < l.length) : 0 ≤ l.getD j 0 ∧ l.getD j 0 ≤ 127 := by
  have : l.getD j 0 = l[j] := by simp [hj]
  rw [this]; exact h.2 _ (List.getElem_mem hj)
theorem RowP.of {l : List Int} (h0 : l.length ≤ 6) (h : ∀ j, j < l.length → 0 ≤ l.getD j 0 ∧ l.getD j 0 ≤ 127) : RowP l := ⟨h0, fun x hx => by
  obtain ⟨j, hj, rfl⟩ := List.getElem_of_mem hx
  have := h j hj
  simpa [hj] using this⟩
def cnt7 (n : Nat) : Nat := n % 2 + n / 2 % 2 + n / 4 % 2 + n / 8 % 2 + n / 16 % 2 + n / 32 % 2 + n / 64 % 2
def turn7 (n : Nat) : Nat := n / 8 % 2 + 2 * (n / 16 % 2) + 4 * (n / 32 % 2) + 8 * (n % 2) + 16 * (n / 2 % 2) + 32 * (n / 4 % 2) + 64 * (n / 64 % 2)
def mir7 (n : Nat) : Nat := n % 2 + 2 * (n / 32 % 2) + 4 * (n / 16 % 2) + 8 * (n / 8 % 2) + 16 * (n / 4 % 2) + 32 * (n / 2 % 2) + 64 * (n / 64 % 2)
def bars7 (n : Nat) : List UInt8 := ((List.range 7).filter (fun k => Nat.beq (n / 2 ^ k % 2) 1)).map fun k => UInt8.ofNat (97 + k)

set_option maxRecDepth 4000 in
theorem spec_l1In (x a b : Int) : PCalls Tryd.prog 67 [.int .i64 x, .int .i64 a, .int .i64 b] (· = [.val (.bool (decide (a ≤ x ∧ x ≤ b)))]) := by
  refine pcalls_of_code (n := 15) az Tryd.func67 (by kernel_rfl) rfl rfl (Nat.le_of_ble_eq_true rfl) (by intro t u h; simp [Tryd.f67] at h) ?_
  refine code_seq (fun K1 hK1 => ?_)
  refine code_region ?_
  refine list_cons rfl (op_q (q_assign rfl (by decide)) ?_)
  refine list_nil ?_
  refine hK1 _ ?_; clear hK1 K1
  refine code_seq (fun K2 hK2 => ?_)
  refine code_region ?_
  refine list_cons rfl (op_q (q_move rfl (by decide)) ?_)
  refine list_cons rfl (op_q (q_move rfl (by decide)) ?_)
  refine list_cons rfl (op_q (q_ge rfl rfl (by decide)) ?_)
  refine list_cons rfl (op_q (q_move rfl (by decide)) ?_)
  refine list_guard_d rfl rfl rfl rfl (by decide) rfl (by decide) (fun h1 => ?_) (fun h1 => ?_)
  · simp only [Bool.false_eq_true, if_true, if_false, Decidable.not_not] at h1
    refine id (op_q (q_move rfl (by decide)) ?_)
    refine list_guard_y rfl rfl rfl rfl (by decide) rfl ?_
    refine id (op_q (q_move rfl (by decide)) ?_)
    refine list_guard_y rfl rfl rfl rfl (by decide) rfl ?_
    refine id (op_q (q_le rfl rfl (by decide)) ?_)
    refine list_cons rfl (op_q (q_pick rfl rfl (by decide)) ?_)
    refine list_cons rfl (op_q (q_assign rfl (by decide)) ?_)
    refine list_nil ?_
    refine hK2 _ ?_; clear hK2 K2
    refine codeT.imp (σ' := [(0, _), (1, _), (2, _), (6, _)]) ?_ (imp_covers ⟨rfl, rfl, rfl, rfl, trivial⟩)
    refine code_ret ?_
    refine ends_ret (cs := []) rfl rfl rfl rfl trivial ?_
    simp [h1]
  simp only [Bool.false_eq_true, if_true, if_false, Decidable.not_not] at h1
  refine list_guard_n rfl rfl rfl rfl (by decide) rfl ?_
  refine list_guard_n rfl rfl rfl rfl (by decide) rfl ?_
  refine list_cons rfl (op_q (q_pick rfl rfl (by decide)) ?_)
  refine list_cons rfl (op_q (q_assign rfl (by decide)) ?_)
  refine list_nil ?_
  refine hK2 _ ?_; clear hK2 K2
  refine code_ret ?_
  refine ends_ret (cs := []) rfl rfl rfl rfl trivial ?_
  simp [h1]

set_option maxRecDepth 100000 in
theorem spec_l2Count (c : Int) (h0 : 0 ≤ c) (h1 : c ≤ 127) : PCalls Tryd.prog 58 [.int .i64 c] (· = [.val (.int .i64 (((cnt7 c.toNat : Nat) : Int)))]) := by
  have h := below_int (p := fun i => oneInt (crun Tf.tf noExt 200 6 58 [.int .i64 (Int.ofNat i)]) (((cnt7 i : Nat) : Int))) (k := 128) (by kernel_rfl) h0 (by omega)
  have e : Int.ofNat c.toNat = c := Int.toNat_of_nonneg h0
  rw [e] at h
  exact pcalls_run Tf.tf (oneInt_ok h)

theorem foldl_take {α β : Type} (f : β → α → β) (d : α) (l : List α) (b : β) {k : Nat} (h : k < l.length) : (l.take (k + 1)).foldl f b = f ((l.take k).foldl f b) (l.getD k d) := by
  rw [take_snocI d l k h, List.foldl_append]; rfl
theorem map_take {α β : Type} (f : α → β) (d : α) (l : List α) {k : Nat} (h : k < l.length) : (l.take (k + 1)).map f = (l.take k).map f ++ [f (l.getD k d)] := by
  rw [take_snocI d l k h, List.map_append]; rfl
theorem rev_drop {α : Type} (d : α) (l : List α) {k : Nat} (h : k < l.length) : (l.drop k).reverse = (l.drop (k + 1)).reverse ++ [l.getD k d] := by
  rw [List.drop_eq_getElem_cons h, List.reverse_cons]; simp [h]
theorem xor7 {a b : Int} (ha : 0 ≤ a ∧ a ≤ 127) (hb : 0 ≤ b ∧ b ≤ 127) : ((a.toNat ^^^ b.toNat : Nat) : Int) ≤ 127 := by
  have := @Nat.xor_lt_two_pow a.toNat b.toNat 7 (by omega) (by omega)
  omega
theorem cnt7_le (n : Nat) : cnt7 n ≤ 7 := by unfold cnt7; omega
theorem turn7_le (n : Nat) : turn7 n ≤ 127 := by unfold turn7; omega
theorem mir7_le (n : Nat) : mir7 n ≤ 127 := by unfold mir7; omega
def turnC (x : Int) : Int := ((turn7 x.toNat : Nat) : Int)
def mirC (x : Int) : Int := ((mir7 x.toNat : Nat) : Int)
theorem turnC_cell (x : Int) : 0 ≤ turnC x ∧ turnC x ≤ 127 := by have := turn7_le x.toNat; unfold turnC; omega
theorem mirC_cell (x : Int) : 0 ≤ mirC x ∧ mirC x ≤ 127 := by have := mir7_le x.toNat; unfold mirC; omega
def turnL (l : List Int) : List Int := l.reverse.map turnC
def mirL (l : List Int) : List Int := l.reverse.map mirC
theorem turnL_len (l : List Int) : (turnL l).length = l.length := by simp [turnL]
theorem mirL_len (l : List Int) : (mirL l).length = l.length := by simp [mirL]
/-- The row of a number. -/
def rowN (n : Nat) : List Int := if h : n < 10 then [digT.getD n 0] else rowN (n / 10) ++ [digT.getD (n % 10) 0]
termination_by n
decreasing_by omega
theorem rowN_lt {n : Nat} (h : n < 10) : rowN n = [digT.getD n 0] := by rw [rowN, dif_pos h]
theorem rowN_ge {n : Nat} (h : ¬ n < 10) : rowN n = rowN (n / 10) ++ [digT.getD (n % 10) 0] := by rw [rowN, dif_neg h]
/-- What of the row stands ahead of its last cell. -/
def rowP (n : Nat) : List Int := if n < 10 then [] else rowN (n / 10)
theorem rowP_cat (n : Nat) : rowN n = rowP n ++ [digT.getD (n % 10) 0] := by
  unfold rowP
  by_cases h : n < 10
  · rw [if_pos h, rowN_lt h, Nat.mod_eq_of_lt h]; rfl
  · rw [if_neg h, rowN_ge h]
theorem rowN_len : ∀ (k n : Nat), 1 ≤ k → n < 10 ^ k → (rowN n).length ≤ k ∧ 1 ≤ (rowN n).length
  | 0, n, h, _ => by omega
  | k + 1, n, _, h => by
    by_cases hn : n < 10
    · rw [rowN_lt hn]; simp
    · rw [rowN_ge hn]
      have h1 : 1 ≤ k := by
        rcases Nat.eq_zero_or_pos k with e | e
        · subst e; simp at h; omega
        · exact e
      have h2 : n / 10 < 10 ^ k := by rw [Nat.pow_succ] at h; omega
      have := rowN_len k (n / 10) h1 h2
      simp; omega
theorem digT_cell (n : Nat) : 0 ≤ digT.getD n 0 ∧ digT.getD n 0 ≤ 127 := by
  by_cases h : n < 10
  · have : n = 0 ∨ n = 1 ∨ n = 2 ∨ n = 3 ∨ n = 4 ∨ n = 5 ∨ n = 6 ∨ n = 7 ∨ n = 8 ∨ n = 9 := by omega
    rcases this with rfl | rfl | rfl | rfl | rfl | rfl | rfl | rfl | rfl | rfl <;> decide
  · have : digT.getD n 0 = 0 := by unfold List.getD; rw [List.getElem?_eq_none (by simp [digT]; omega)]; rfl
    rw [this]; omega
theorem rowN_cells : ∀ (k n : Nat), n < k → ∀ x ∈ rowN n, 0 ≤ x ∧ x ≤ 127
  | 0, n, h => by omega
  | k + 1, n, h => by
    intro x hx
    by_cases hn : n < 10
    · rw [rowN_lt hn] at hx; simp only [List.mem_singleton] at hx; subst hx; exact digT_cell _
    · rw [rowN_ge hn] at hx
      rcases List.mem_append.1 hx with hx | hx
      · exact rowN_cells k (n / 10) (by omega) x hx
      · simp only [List.mem_singleton] at hx; subst hx; exact digT_cell _
theorem rowN_row {n : Nat} (h : n ≤ 999999) : RowP (rowN n) := ⟨(rowN_len 6 n (by omega) (by omega)).1, rowN_cells (n + 1) n (by omega)⟩
def DigsP (l : List Int) : Prop := ∀ x ∈ l, 0 ≤ digOf x
instance (l : List Int) : Decidable (DigsP l) := by unfold DigsP; infer_instance
def numF (l : List Int) : Int := l.foldl (fun n x => 10 * n + digOf x) 0
theorem DigsP.at {l : List Int} (h : DigsP l) {j : Nat} (hj : j < l.length) : 0 ≤ digOf (l.getD j 0) := by
  have : l.getD j 0 = l[j] := by simp [hj]
  rw [this]; exact h _ (List.getElem_mem hj)
theorem DigsP.of {l : List Int} (h : ∀ j, j < l.length → 0 ≤ digOf (l.getD j 0)) : DigsP l := fun x hx => by
  obtain ⟨j, hj, rfl⟩ := List.getElem_of_mem hx
  have := h j hj
  simpa [hj] using this
theorem pow10_le {i : Nat} (h : i ≤ 6) : 10 ^ i ≤ 1000000 := Nat.pow_le_pow_right (n := 10) (by omega) h
def litF (l : List Int) : Int := l.foldl (fun n x => n + ((cnt7 x.toNat : Nat) : Int)) 0
def cntAlike : Nat → Nat
  | 0 => if turnL (rowN 0) = rowN 0 then 1 else 0
  | k + 1 => cntAlike k + if turnL (rowN (k + 1)) = rowN (k + 1) then 1 else 0
def alikeTo (k : Nat) : Nat := ((List.range k).filter fun j => turnL (rowN j) = rowN j).length
theorem alikeTo_succ (k : Nat) : alikeTo (k + 1) = alikeTo k + if turnL (rowN k) = rowN k then 1 else 0 := by
  unfold alikeTo
  rw [List.range_succ, List.filter_append, List.length_append]
  by_cases h : turnL (rowN k) = rowN k <;> simp [h]
theorem alikeTo_le (k : Nat) : alikeTo k ≤ k := by
  have := List.length_filter_le (fun j => decide (turnL (rowN j) = rowN j)) (List.range k)
  simpa [alikeTo] using this

set_option maxRecDepth 4000 in
theorem spec_l2Far (a b : Int) (ha : 0 ≤ a ∧ a ≤ 127) (hb : 0 ≤ b ∧ b ≤ 127) : PCalls Tryd.prog 81 [.int .i64 a, .int .i64 b] (· = [.val (.int .i64 (((cnt7 (a.toNat ^^^ b.toNat) : Nat) : Int)))]) := by
  refine pcalls_of_code (n := 9) az Tryd.func81 (by kernel_rfl) rfl rfl (Nat.le_of_ble_eq_true rfl) (by intro t u h; simp [Tryd.f81] at h) ?_
  refine code_seq (fun K1 hK1 => ?_)
  refine code_region ?_
  refine list_cons rfl (op_q (q_assign rfl (by decide)) ?_)
  refine list_nil ?_
  refine hK1 _ ?_; clear hK1 K1
  refine code_seq (fun K2 hK2 => ?_)
  refine code_region ?_
  refine list_cons rfl (op_q (q_move rfl (by decide)) ?_)
  refine list_cons rfl (op_q (q_move rfl (by decide)) ?_)
  refine list_cons rfl (op_q (by first | exact q_xorI rfl rfl (by decide) (by omega) (by omega) (by omega) (by omega) | exact q_ib rfl rfl rfl (by decide)) ?_)
  refine list_cons rfl (op_call _ (spec_l2Count _ (by omega) (xor7 ha hb)) rfl rfl (by decide) (by decide) (by decide) rfl ?_)
  rintro _ rfl
  refine list_cons rfl (op_q (q_assign rfl (by decide)) ?_)
  refine list_nil ?_
  refine hK2 _ ?_; clear hK2 K2
  refine codeT.imp (σ' := [(0, _), (1, _), (4, _)]) ?_ (imp_covers ⟨rfl, rfl, rfl, trivial⟩)
  refine code_ret ?_
  refine ends_ret (cs := []) rfl rfl rfl rfl trivial ?_
  rfl

theorem list_eqI {α : Type} (d : α) (a b : List α) (h : a.length = b.length) (k : ∀ j, j < a.length → a.getD j d = b.getD j d) : a = b := by
  apply List.ext_getElem h
  intro j h1 h2
  have := k j h1
  simpa [h1, h2] using this
/-- Letters of bars in order. -/
def OrdP (s : List UInt8) : Prop := ∀ i, i < s.length → 97 ≤ (s.getD i 0).toNat ∧ (s.getD i 0).toNat ≤ 103 ∧ (0 < i → (s.getD (i - 1) 0).toNat < (s.getD i 0).toNat)
instance (s : List UInt8) : Decidable (OrdP s) := by unfold OrdP; infer_instance
def orF (s : List UInt8) : Nat := s.foldl (fun c b => c ||| 2 ^ (b.toNat - 97)) 0
theorem orF_snoc (s : List UInt8) {k : Nat} (h : k < s.length) : orF (s.take (k + 1)) = orF (s.take k) ||| 2 ^ ((s.getD k 0).toNat - 97) := by
  unfold orF; rw [foldl_take _ 0 _ _ h]
theorem or7 {a k : Nat} (ha : a < 128) (hk : k ≤ 6) : a ||| 2 ^ k < 128 := by
  have : 2 ^ k < 2 ^ 7 := Nat.pow_lt_pow_right (by omega) (by omega)
  exact @Nat.or_lt_two_pow a (2 ^ k) 7 (by omega) this
theorem orF_lt (s : List UInt8) (h : OrdP s) : ∀ k, k ≤ s.length → orF (s.take k) < 128
  | 0, _ => by rw [List.take_zero]; decide
  | k + 1, hk => by
    rw [orF_snoc s (by omega)]
    have h1 := (h k (by omega)).2.1
    exact or7 (orF_lt s h k (by omega)) (by omega)
theorem orF_all {s : List UInt8} (h : OrdP s) : orF s < 128 := by have := orF_lt s h s.length (Nat.le_refl _); rwa [List.take_length] at this
def pieceT (x : Int) : List UInt8 := (if x = 0 then [45] else []) ++ bars7 x.toNat
def textG (l : List Int) : Nat → List UInt8
  | 0 => []
  | k + 1 => (if 0 < k then textG l k ++ [32] else []) ++ pieceT (l.getD k 0)
def textF (l : List Int) : List UInt8 := textG l l.length
theorem bars7_len (n : Nat) : (bars7 n).length ≤ 7 := by
  unfold bars7
  rw [List.length_map]
  exact Nat.le_trans (List.length_filter_le _ _) (by simp)
theorem textG_len (l : List Int) : ∀ k, (textG l k).length ≤ 9 * k
  | 0 => by simp [textG]
  | k + 1 => by
    have := textG_len l k
    have h2 := bars7_len (l.getD k 0).toNat
    rw [textG]
    by_cases hk : 0 < k
    · rw [if_pos hk]; unfold pieceT; split <;> simp only [List.length_append, List.length_cons, List.length_nil] <;> omega
    · rw [if_neg hk]; unfold pieceT; split <;> simp only [List.length_append, List.length_cons, List.length_nil] <;> omega


def ltrT : List Int := [119, 124, 57, 94, 121, 113, 116, 30, 56, 84, 92, 115, 80, 120, 28, 110]
def ltrS : List UInt8 := [97, 98, 99, 100, 101, 102, 104, 106, 108, 110, 111, 112, 114, 116, 117, 121]
/-- The place of a letter, and of a cell, or -1. -/
def plR (r : Int) : Int := if r = 97 then 0 else if r = 98 then 1 else if r = 99 then 2 else if r = 100 then 3 else if r = 101 then 4 else if r = 102 then 5 else if r = 104 then 6 else if r = 106 then 7 else if r = 108 then 8 else if r = 110 then 9 else if r = 111 then 10 else if r = 112 then 11 else if r = 114 then 12 else if r = 116 then 13 else if r = 117 then 14 else if r = 121 then 15 else -1
def rdC (c : Int) : Int := if c = 119 then 0 else if c = 124 then 1 else if c = 57 then 2 else if c = 94 then 3 else if c = 121 then 4 else if c = 113 then 5 else if c = 116 then 6 else if c = 30 then 7 else if c = 56 then 8 else if c = 84 then 9 else if c = 92 then 10 else if c = 115 then 11 else if c = 80 then 12 else if c = 120 then 13 else if c = 28 then 14 else if c = 110 then 15 else -1
def plB (b : UInt8) : Int := plR b.toNat
theorem plR_le (r : Int) : -1 ≤ plR r ∧ plR r ≤ 15 := by
  unfold plR
  repeat' split
  all_goals omega
theorem rdC_le (r : Int) : -1 ≤ rdC r ∧ rdC r ≤ 15 := by
  unfold rdC
  repeat' split
  all_goals omega
theorem plB_le (b : UInt8) : -1 ≤ plB b ∧ plB b ≤ 15 := plR_le _
theorem lt16 {k : Int} (h0 : 0 ≤ k) (h1 : k ≤ 15) : k = 0 ∨ k = 1 ∨ k = 2 ∨ k = 3 ∨ k = 4 ∨ k = 5 ∨ k = 6 ∨ k = 7 ∨ k = 8 ∨ k = 9 ∨ k = 10 ∨ k = 11 ∨ k = 12 ∨ k = 13 ∨ k = 14 ∨ k = 15 := by omega
theorem ltr_pl {k : Int} (h0 : 0 ≤ k) (h1 : k ≤ 15) : plR ((ltrS.getD k.toNat 0).toNat : Int) = k := by
  rcases lt16 h0 h1 with rfl | rfl | rfl | rfl | rfl | rfl | rfl | rfl | rfl | rfl | rfl | rfl | rfl | rfl | rfl | rfl <;> rfl
theorem ltr_rd {k : Int} (h0 : 0 ≤ k) (h1 : k ≤ 15) : rdC (ltrT.getD k.toNat 0) = k := by
  rcases lt16 h0 h1 with rfl | rfl | rfl | rfl | rfl | rfl | rfl | rfl | rfl | rfl | rfl | rfl | rfl | rfl | rfl | rfl <;> rfl
theorem plR_at {k r : Int} (h0 : 0 ≤ k) (h1 : k ≤ 15) (h : ((ltrS.getD k.toNat 0).toNat : Int) = r) : plR r = k := by subst h; exact ltr_pl h0 h1
theorem rdC_at {k c : Int} (h0 : 0 ≤ k) (h1 : k ≤ 15) (h : ltrT.getD k.toNat 0 = c) : rdC c = k := by subst h; exact ltr_rd h0 h1
theorem plR_cs {r k : Int} (hk : plR r = k) : (r = 97 ∧ k = 0) ∨ (r = 98 ∧ k = 1) ∨ (r = 99 ∧ k = 2) ∨ (r = 100 ∧ k = 3) ∨ (r = 101 ∧ k = 4) ∨ (r = 102 ∧ k = 5) ∨ (r = 104 ∧ k = 6) ∨ (r = 106 ∧ k = 7) ∨ (r = 108 ∧ k = 8) ∨ (r = 110 ∧ k = 9) ∨ (r = 111 ∧ k = 10) ∨ (r = 112 ∧ k = 11) ∨ (r = 114 ∧ k = 12) ∨ (r = 116 ∧ k = 13) ∨ (r = 117 ∧ k = 14) ∨ (r = 121 ∧ k = 15) ∨ k = -1 := by
  unfold plR at hk
  by_cases h : r = 97
  · rw [if_pos h] at hk; exact .inl ⟨h, hk.symm⟩
  rw [if_neg h] at hk; refine .inr ?_; clear h
  by_cases h : r = 98
  · rw [if_pos h] at hk; exact .inl ⟨h, hk.symm⟩
  rw [if_neg h] at hk; refine .inr ?_; clear h
  by_cases h : r = 99
  · rw [if_pos h] at hk; exact .inl ⟨h, hk.symm⟩
  rw [if_neg h] at hk; refine .inr ?_; clear h
  by_cases h : r = 100
  · rw [if_pos h] at hk; exact .inl ⟨h, hk.symm⟩
  rw [if_neg h] at hk; refine .inr ?_; clear h
  by_cases h : r = 101
  · rw [if_pos h] at hk; exact .inl ⟨h, hk.symm⟩
  rw [if_neg h] at hk; refine .inr ?_; clear h
  by_cases h : r = 102
  · rw [if_pos h] at hk; exact .inl ⟨h, hk.symm⟩
  rw [if_neg h] at hk; refine .inr ?_; clear h
  by_cases h : r = 104
  · rw [if_pos h] at hk; exact .inl ⟨h, hk.symm⟩
  rw [if_neg h] at hk; refine .inr ?_; clear h
  by_cases h : r = 106
  · rw [if_pos h] at hk; exact .inl ⟨h, hk.symm⟩
  rw [if_neg h] at hk; refine .inr ?_; clear h
  by_cases h : r = 108
  · rw [if_pos h] at hk; exact .inl ⟨h, hk.symm⟩
  rw [if_neg h] at hk; refine .inr ?_; clear h
  by_cases h : r = 110
  · rw [if_pos h] at hk; exact .inl ⟨h, hk.symm⟩
  rw [if_neg h] at hk; refine .inr ?_; clear h
  by_cases h : r = 111
  · rw [if_pos h] at hk; exact .inl ⟨h, hk.symm⟩
  rw [if_neg h] at hk; refine .inr ?_; clear h
  by_cases h : r = 112
  · rw [if_pos h] at hk; exact .inl ⟨h, hk.symm⟩
  rw [if_neg h] at hk; refine .inr ?_; clear h
  by_cases h : r = 114
  · rw [if_pos h] at hk; exact .inl ⟨h, hk.symm⟩
  rw [if_neg h] at hk; refine .inr ?_; clear h
  by_cases h : r = 116
  · rw [if_pos h] at hk; exact .inl ⟨h, hk.symm⟩
  rw [if_neg h] at hk; refine .inr ?_; clear h
  by_cases h : r = 117
  · rw [if_pos h] at hk; exact .inl ⟨h, hk.symm⟩
  rw [if_neg h] at hk; refine .inr ?_; clear h
  by_cases h : r = 121
  · rw [if_pos h] at hk; exact .inl ⟨h, hk.symm⟩
  rw [if_neg h] at hk; refine .inr ?_; clear h
  exact hk.symm
theorem rdC_cs {c k : Int} (hk : rdC c = k) : (c = 119 ∧ k = 0) ∨ (c = 124 ∧ k = 1) ∨ (c = 57 ∧ k = 2) ∨ (c = 94 ∧ k = 3) ∨ (c = 121 ∧ k = 4) ∨ (c = 113 ∧ k = 5) ∨ (c = 116 ∧ k = 6) ∨ (c = 30 ∧ k = 7) ∨ (c = 56 ∧ k = 8) ∨ (c = 84 ∧ k = 9) ∨ (c = 92 ∧ k = 10) ∨ (c = 115 ∧ k = 11) ∨ (c = 80 ∧ k = 12) ∨ (c = 120 ∧ k = 13) ∨ (c = 28 ∧ k = 14) ∨ (c = 110 ∧ k = 15) ∨ k = -1 := by
  unfold rdC at hk
  by_cases h : c = 119
  · rw [if_pos h] at hk; exact .inl ⟨h, hk.symm⟩
  rw [if_neg h] at hk; refine .inr ?_; clear h
  by_cases h : c = 124
  · rw [if_pos h] at hk; exact .inl ⟨h, hk.symm⟩
  rw [if_neg h] at hk; refine .inr ?_; clear h
  by_cases h : c = 57
  · rw [if_pos h] at hk; exact .inl ⟨h, hk.symm⟩
  rw [if_neg h] at hk; refine .inr ?_; clear h
  by_cases h : c = 94
  · rw [if_pos h] at hk; exact .inl ⟨h, hk.symm⟩
  rw [if_neg h] at hk; refine .inr ?_; clear h
  by_cases h : c = 121
  · rw [if_pos h] at hk; exact .inl ⟨h, hk.symm⟩
  rw [if_neg h] at hk; refine .inr ?_; clear h
  by_cases h : c = 113
  · rw [if_pos h] at hk; exact .inl ⟨h, hk.symm⟩
  rw [if_neg h] at hk; refine .inr ?_; clear h
  by_cases h : c = 116
  · rw [if_pos h] at hk; exact .inl ⟨h, hk.symm⟩
  rw [if_neg h] at hk; refine .inr ?_; clear h
  by_cases h : c = 30
  · rw [if_pos h] at hk; exact .inl ⟨h, hk.symm⟩
  rw [if_neg h] at hk; refine .inr ?_; clear h
  by_cases h : c = 56
  · rw [if_pos h] at hk; exact .inl ⟨h, hk.symm⟩
  rw [if_neg h] at hk; refine .inr ?_; clear h
  by_cases h : c = 84
  · rw [if_pos h] at hk; exact .inl ⟨h, hk.symm⟩
  rw [if_neg h] at hk; refine .inr ?_; clear h
  by_cases h : c = 92
  · rw [if_pos h] at hk; exact .inl ⟨h, hk.symm⟩
  rw [if_neg h] at hk; refine .inr ?_; clear h
  by_cases h : c = 115
  · rw [if_pos h] at hk; exact .inl ⟨h, hk.symm⟩
  rw [if_neg h] at hk; refine .inr ?_; clear h
  by_cases h : c = 80
  · rw [if_pos h] at hk; exact .inl ⟨h, hk.symm⟩
  rw [if_neg h] at hk; refine .inr ?_; clear h
  by_cases h : c = 120
  · rw [if_pos h] at hk; exact .inl ⟨h, hk.symm⟩
  rw [if_neg h] at hk; refine .inr ?_; clear h
  by_cases h : c = 28
  · rw [if_pos h] at hk; exact .inl ⟨h, hk.symm⟩
  rw [if_neg h] at hk; refine .inr ?_; clear h
  by_cases h : c = 110
  · rw [if_pos h] at hk; exact .inl ⟨h, hk.symm⟩
  rw [if_neg h] at hk; refine .inr ?_; clear h
  exact hk.symm
theorem pl_back {r : Int} (h : 0 ≤ plR r) : ((ltrS.getD (plR r).toNat 0).toNat : Int) = r := by
  rcases plR_cs (r := r) rfl with ⟨h1, h2⟩ | ⟨h1, h2⟩ | ⟨h1, h2⟩ | ⟨h1, h2⟩ | ⟨h1, h2⟩ | ⟨h1, h2⟩ | ⟨h1, h2⟩ | ⟨h1, h2⟩ | ⟨h1, h2⟩ | ⟨h1, h2⟩ | ⟨h1, h2⟩ | ⟨h1, h2⟩ | ⟨h1, h2⟩ | ⟨h1, h2⟩ | ⟨h1, h2⟩ | ⟨h1, h2⟩ | h2 <;> first | omega | (rw [h2, h1]; rfl)
theorem rd_back {c : Int} (h : 0 ≤ rdC c) : ltrT.getD (rdC c).toNat 0 = c := by
  rcases rdC_cs (c := c) rfl with ⟨h1, h2⟩ | ⟨h1, h2⟩ | ⟨h1, h2⟩ | ⟨h1, h2⟩ | ⟨h1, h2⟩ | ⟨h1, h2⟩ | ⟨h1, h2⟩ | ⟨h1, h2⟩ | ⟨h1, h2⟩ | ⟨h1, h2⟩ | ⟨h1, h2⟩ | ⟨h1, h2⟩ | ⟨h1, h2⟩ | ⟨h1, h2⟩ | ⟨h1, h2⟩ | ⟨h1, h2⟩ | h2 <;> first | omega | (rw [h2, h1]; rfl)
theorem plR_none {r : Int} (h : ∀ j : Nat, j < 16 → ((ltrS.getD j 0).toNat : Int) ≠ r) : plR r = -1 := by
  rcases Int.lt_or_le (plR r) 0 with k | k
  · have := plR_le r; omega
  · have h2 := plR_le r
    exact absurd (pl_back k) (h (plR r).toNat (by omega))
theorem rdC_none {c : Int} (h : ∀ j : Nat, j < 16 → ltrT.getD j 0 ≠ c) : rdC c = -1 := by
  rcases Int.lt_or_le (rdC c) 0 with k | k
  · have := rdC_le c; omega
  · have h2 := rdC_le c
    exact absurd (rd_back k) (h (rdC c).toNat (by omega))
theorem ltrT_cell (n : Nat) : 0 ≤ ltrT.getD n 0 ∧ ltrT.getD n 0 ≤ 127 := by
  by_cases h : n < 16
  · have : n = 0 ∨ n = 1 ∨ n = 2 ∨ n = 3 ∨ n = 4 ∨ n = 5 ∨ n = 6 ∨ n = 7 ∨ n = 8 ∨ n = 9 ∨ n = 10 ∨ n = 11 ∨ n = 12 ∨ n = 13 ∨ n = 14 ∨ n = 15 := by omega
    rcases this with rfl | rfl | rfl | rfl | rfl | rfl | rfl | rfl | rfl | rfl | rfl | rfl | rfl | rfl | rfl | rfl <;> decide
  · have : ltrT.getD n 0 = 0 := by unfold List.getD; rw [List.getElem?_eq_none (by simp [ltrT]; omega)]; rfl
    rw [this]; omega
def LtP (s : List UInt8) : Prop := ∀ b ∈ s, 0 ≤ plB b
instance (s : List UInt8) : Decidable (LtP s) := by unfold LtP; infer_instance
theorem LtP.at {s : List UInt8} (h : LtP s) {j : Nat} (hj : j < s.length) : 0 ≤ plB (s.getD j 0) := by
  have : s.getD j 0 = s[j] := by simp [hj]
  rw [this]; exact h _ (List.getElem_mem hj)
theorem LtP.of {s : List UInt8} (h : ∀ j, j < s.length → 0 ≤ plB (s.getD j 0)) : LtP s := fun x hx => by
  obtain ⟨j, hj, rfl⟩ := List.getElem_of_mem hx
  have := h j hj
  simpa [hj] using this
def WrdP (s : List UInt8) (m : Int) : Prop := (s.length : Int) ≤ m ∧ LtP s
instance (s : List UInt8) (m : Int) : Decidable (WrdP s m) := by unfold WrdP; infer_instance
def cellW (b : UInt8) : Int := ltrT.getD (plB b).toNat 0
def rowW (s : List UInt8) : List Int := s.map cellW
theorem rowW_len (s : List UInt8) : (rowW s).length = s.length := by simp [rowW]
theorem cellW_cell (b : UInt8) : 0 ≤ cellW b ∧ cellW b ≤ 127 := ltrT_cell _
theorem rowW_cells (s : List UInt8) : ∀ x ∈ rowW s, 0 ≤ x ∧ x ≤ 127 := fun x hx => by
  obtain ⟨b, _, rfl⟩ := List.mem_map.1 hx
  exact cellW_cell b
theorem rowW_row {s : List UInt8} (h : s.length ≤ 6) : RowP (rowW s) := ⟨by rw [rowW_len]; exact h, rowW_cells s⟩
theorem rowW_at (s : List UInt8) (j : Nat) : 0 ≤ (rowW s).getD j 0 ∧ (rowW s).getD j 0 ≤ 127 := by
  by_cases h : j < (rowW s).length
  · have : (rowW s).getD j 0 = (rowW s)[j] := by simp [h]
    rw [this]; exact rowW_cells s _ (List.getElem_mem h)
  · have : (rowW s).getD j 0 = 0 := by unfold List.getD; rw [List.getElem?_eq_none (by omega)]; rfl
    rw [this]; omega
def SpP (l : List Int) : Prop := ∀ x ∈ l, 0 ≤ rdC x
instance (l : List Int) : Decidable (SpP l) := by unfold SpP; infer_instance
theorem SpP.at {l : List Int} (h : SpP l) {j : Nat} (hj : j < l.length) : 0 ≤ rdC (l.getD j 0) := by
  have : l.getD j 0 = l[j] := by simp [hj]
  rw [this]; exact h _ (List.getElem_mem hj)
theorem SpP.of {l : List Int} (h : ∀ j, j < l.length → 0 ≤ rdC (l.getD j 0)) : SpP l := fun x hx => by
  obtain ⟨j, hj, rfl⟩ := List.getElem_of_mem hx
  have := h j hj
  simpa [hj] using this
def letC (c : Int) : UInt8 := ltrS.getD (rdC c).toNat 0
def spT (l : List Int) : List UInt8 := l.map letC
theorem spT_len (l : List Int) : (spT l).length = l.length := by simp [spT]
theorem cut1 (k : Nat) (h : k < 16) : (ltrS.drop k).take 1 = [ltrS.getD k 0] := by
  have : k = 0 ∨ k = 1 ∨ k = 2 ∨ k = 3 ∨ k = 4 ∨ k = 5 ∨ k = 6 ∨ k = 7 ∨ k = 8 ∨ k = 9 ∨ k = 10 ∨ k = 11 ∨ k = 12 ∨ k = 13 ∨ k = 14 ∨ k = 15 := by omega
  rcases this with rfl | rfl | rfl | rfl | rfl | rfl | rfl | rfl | rfl | rfl | rfl | rfl | rfl | rfl | rfl | rfl <;> rfl
theorem cutL {k : Int} (h0 : 0 ≤ k) (h1 : k ≤ 15) : (ltrS.drop k.toNat).take ((k + 1).toNat - k.toNat) = [ltrS.getD k.toNat 0] := by
  rw [show (k + 1).toNat - k.toNat = 1 by omega, cut1 _ (by omega)]
/-- A letter has all bars of a cell. -/
def hasC (k : Nat) (c : Int) : Bool := Nat.beq ((ltrT.getD k 0).toNat &&& c.toNat) c.toNat
def canI (c : Int) : Nat → List Int
  | 0 => []
  | k + 1 => if hasC k c = true then canI c k ++ [(k : Int)] else canI c k
theorem canI_succ (c : Int) (k : Nat) : canI c (k + 1) = if hasC k c = true then canI c k ++ [(k : Int)] else canI c k := rfl
theorem canI_len (c : Int) : ∀ k, (canI c k).length ≤ k
  | 0 => by simp [canI]
  | k + 1 => by
    have := canI_len c k
    unfold canI
    split <;> simp <;> omega
theorem canI_lt (c : Int) : ∀ k, ∀ x ∈ canI c k, 0 ≤ x ∧ x < k
  | 0, x, h => by simp [canI] at h
  | k + 1, x, h => by
    have ih := canI_lt c k
    unfold canI at h
    split at h
    · rcases List.mem_append.1 h with h | h
      · have := ih x h; omega
      · simp only [List.mem_singleton] at h; omega
    · have := ih x h; omega
theorem canI_at (c : Int) {j : Nat} (h : j < (canI c 16).length) : 0 ≤ (canI c 16).getD j 0 ∧ (canI c 16).getD j 0 ≤ 15 := by
  have : (canI c 16).getD j 0 = (canI c 16)[j] := by simp [h]
  rw [this]
  have := canI_lt c 16 _ (List.getElem_mem h); omega
/-- How many readings a row has. -/
def cntR : List Int → Nat
  | [] => 1
  | x :: r => (canI x 16).length * cntR r
theorem cntR_app : ∀ a b : List Int, cntR (a ++ b) = cntR a * cntR b
  | [], b => by show cntR b = 1 * cntR b; rw [Nat.one_mul]
  | x :: a, b => by
    show (canI x 16).length * cntR (a ++ b) = (canI x 16).length * cntR a * cntR b
    rw [cntR_app a b, Nat.mul_assoc]
theorem cntR_le : ∀ l : List Int, cntR l ≤ 16 ^ l.length
  | [] => Nat.le_refl _
  | x :: r => by
    have h1 := canI_len x 16
    have h2 := cntR_le r
    show (canI x 16).length * cntR r ≤ 16 ^ (r.length + 1)
    rw [Nat.pow_succ, Nat.mul_comm (16 ^ r.length)]
    exact Nat.mul_le_mul h1 h2
theorem pow16 {k : Nat} (h : k ≤ 6) : 16 ^ k ≤ 16777216 := Nat.pow_le_pow_right (n := 16) (by omega) h
theorem cntR_le6 {l : List Int} (h : l.length ≤ 6) : cntR l ≤ 16777216 := Nat.le_trans (cntR_le l) (pow16 h)
/-- The reading ahead of which there are k others. -/
def letN (n : Int) : UInt8 := ltrS.getD n.toNat 0
def rdT : List Int → Nat → List UInt8
  | [], _ => []
  | x :: r, k => letN ((canI x 16).getD (k / cntR r) 0) :: rdT r (k % cntR r)
theorem rdT_len : ∀ (l : List Int) (k : Nat), (rdT l k).length = l.length
  | [], _ => rfl
  | x :: r, k => by show (rdT r _).length + 1 = r.length + 1; rw [rdT_len r]
/-- The rows of a word that goes through a display. -/
def scC (r : List Int) (j : Int) : Int := if 0 ≤ j ∧ j < r.length then r.getD j.toNat 0 else 0
def scR (r : List Int) (k : Nat) (a : Int) : List Int := (List.range k).map fun (j : Nat) => scC r ((j : Int) - a)
def scL (r : List Int) (k : Nat) : List (List Int) := if r = [] then [] else (List.range (r.length + k - 1)).map fun (m : Nat) => scR r k ((k : Int) - 1 - m)
def qR (M : List (List Int)) : List PV := M.map fun r => .sl r.length (r.map (.int .i64))


set_option maxRecDepth 100000 in
theorem spec_l10Of (c : Int) (h0 : 0 ≤ c) (h1 : c ≤ 15) : PCalls Tryd.prog 48 [.int .i64 c] (· = [.val (.int .i64 (ltrT.getD c.toNat 0))]) := by
  have h := below_int (p := fun i => oneInt (crun Tf.tf noExt 200 6 48 [.int .i64 (Int.ofNat i)]) (ltrT.getD i 0)) (k := 16) (by kernel_rfl) h0 (by omega)
  have e : Int.ofNat c.toNat = c := Int.toNat_of_nonneg h0
  rw [e] at h
  exact pcalls_run Tf.tf (oneInt_ok h)

set_option maxRecDepth 4000 in
theorem spec_l10Place (b : UInt8) : PCalls Tryd.prog 49 [.int .u8 b.toNat] (· = [.val (.int .i64 (plB b))]) := by
  refine pcalls_of_code (n := 13) az Tryd.func49 (by kernel_rfl) rfl rfl (Nat.le_of_ble_eq_true rfl) (by intro t u h; simp [Tryd.f49] at h) ?_
  refine code_seq (fun K1 hK1 => ?_)
  refine code_region ?_
  refine list_cons rfl (op_q (q_assign rfl (by decide)) ?_)
  refine list_nil ?_
  refine hK1 _ ?_; clear hK1 K1
  refine code_seq (fun K2 hK2 => ?_)
  refine code_seq (fun K3 hK3 => ?_)
  refine code_region ?_
  refine list_cons rfl (op_q (q_assign rfl (by decide)) ?_)
  refine list_nil ?_
  refine hK3 _ ?_; clear hK3 K3
  refine code_block ?_
  refine code_loop (X := Int × Int) (fun x => [(0, .val (.int .u8 b.toNat)), (2, .val (.int .i64 x.1)), (3, .val (.int .i64 x.2))]) (fun x => 0 ≤ x.2 ∧ x.2 ≤ 16 ∧ ∀ j : Nat, j < x.2.toNat → ((ltrS.getD j 0).toNat : Int) ≠ b.toNat) (fun x => 16 - x.2.toNat) (_, _) (imp_covers ⟨rfl, rfl, rfl, trivial⟩) ?_ ?_
  · (try dsimp only)
    refine ⟨by omega, by omega, fun j hj => by simp at hj⟩
  · intro x hI
    obtain ⟨t2, k⟩ := x
    replace hI : 0 ≤ k ∧ k ≤ 16 ∧ ∀ j : Nat, j < k.toNat → ((ltrS.getD j 0).toNat : Int) ≠ b.toNat := hI
    show codeT _ _ _ [(0, .val (.int .u8 b.toNat)), (2, .val (.int .i64 t2)), (3, .val (.int .i64 k))] _
    obtain ⟨i1, i2, i3⟩ := hI
    have hL : ltrS.length = 16 := rfl
    refine code_seq (fun K4 hK4 => ?_)
    refine code_seq (fun K5 hK5 => ?_)
    refine code_region ?_
    refine list_cons rfl (op_q (q_move rfl (by decide)) ?_)
    refine list_cons rfl (op_q (q_lt rfl rfl (by decide)) ?_)
    refine list_nil ?_
    refine hK5 _ ?_; clear hK5 K5
    refine code_cond_d rfl (fun h1 => ?_) (fun h1 => ?_)
    · skip
      (try simp only [Decidable.not_not] at h1)
      refine code_skip ?_
      refine hK4 _ ?_; clear hK4 K4
      refine code_seq (fun K6 hK6 => ?_)
      refine code_block ?_
      refine code_seq (fun K7 hK7 => ?_)
      refine code_region ?_
      refine list_cons rfl (op_q (q_move rfl (by decide)) ?_)
      refine list_cons rfl (op_q (q_index_str Tryd.underlying9 rfl rfl (by omega) (by omega) (by decide)) ?_)
      refine list_cons rfl (op_q (q_move rfl (by decide)) ?_)
      refine list_cons rfl (op_q (q_eq rfl rfl (by decide)) ?_)
      refine list_nil ?_
      refine hK7 _ ?_; clear hK7 K7
      refine code_cond_d rfl (fun h2 => ?_) (fun h2 => ?_)
      · skip
        (try simp only [Decidable.not_not] at h2)
        refine code_seq (fun K8 hK8 => ?_)
        refine code_region ?_
        refine list_cons rfl (op_q (q_move rfl (by decide)) ?_)
        refine list_cons rfl (op_q (q_assign rfl (by decide)) ?_)
        refine list_nil ?_
        refine hK8 _ ?_; clear hK8 K8
        refine codeT.imp (σ' := [(0, _), (2, _), (3, _)]) ?_ (imp_covers ⟨rfl, rfl, rfl, trivial⟩)
        refine code_ret ?_
        refine blk_r ?_
        refine then_r ?_; clear hK6 K6
        refine then_r ?_
        refine blk_r ?_
        refine then_r ?_; clear hK2 K2
        refine ends_ret (cs := []) rfl rfl rfl rfl trivial ?_
        first
          | (rw [show plB b = k from plR_at (by omega) (by omega) h2]; done)
          | (rw [show plB b = -1 from plR_none fun j hj => i3 j (by omega)]; done)
      (try simp only [Decidable.not_not] at h2)
      refine code_skip ?_
      refine blk_n ?_
      refine hK6 _ ?_; clear hK6 K6
      refine code_region ?_
      refine list_cons rfl (op_q (q_move rfl (by decide)) ?_)
      refine list_cons rfl (op_q (by first | exact q_addI rfl rfl (by decide) (by omega) (by omega) | exact q_ib rfl rfl rfl (by decide)) ?_)
      refine list_cons rfl (op_q (q_assign rfl (by decide)) ?_)
      refine list_nil ?_
      refine then_n ⟨(_, _), imp_covers ⟨rfl, rfl, rfl, trivial⟩, ?_, ?_⟩
      · (try dsimp only)
        refine ⟨by omega, by omega, fun j hj => ?_⟩
        by_cases e : j = k.toNat
        · subst e; exact h2
        · exact i3 j (by omega)
      · (try dsimp only); omega
    (try simp only [Decidable.not_not] at h1)
    refine code_exit ?_
    refine then_x ?_; clear hK4 K4
    refine then_x ?_
    refine blk_hit ?_
    refine hK2 _ ?_; clear hK2 K2
    refine code_seq (fun K9 hK9 => ?_)
    refine code_region ?_
    refine list_cons rfl (op_q (q_assign rfl (by decide)) ?_)
    refine list_nil ?_
    refine hK9 _ ?_; clear hK9 K9
    refine code_ret ?_
    refine ends_ret (cs := []) rfl rfl rfl rfl trivial ?_
    first
      | (rw [show plB b = k from plR_at (by omega) (by omega) h1]; done)
      | (rw [show plB b = -1 from plR_none fun j hj => i3 j (by omega)]; done)

set_option maxRecDepth 4000 in
theorem spec_l10Word (s : List UInt8) (m : Int) (hs : s.length ≤ 4611686018427387904) (h0 : 0 ≤ m) (h1 : m ≤ 1000) : PCalls Tryd.prog 46 [.str s, .int .i64 m] (· = [.val (.bool (decide (WrdP s m)))]) := by
  refine pcalls_of_code (n := 26) az Tryd.func46 (by kernel_rfl) rfl rfl (Nat.le_of_ble_eq_true rfl) (by intro t u h; simp [Tryd.f46] at h) ?_
  refine code_seq (fun K1 hK1 => ?_)
  refine code_region ?_
  refine list_cons rfl (op_q (q_assign rfl (by decide)) ?_)
  refine list_nil ?_
  refine hK1 _ ?_; clear hK1 K1
  refine code_seq (fun K2 hK2 => ?_)
  refine code_seq (fun K3 hK3 => ?_)
  refine code_region ?_
  refine list_cons rfl (op_q (q_assign rfl (by decide)) ?_)
  refine list_nil ?_
  refine hK3 _ ?_; clear hK3 K3
  refine code_block ?_
  refine code_loop (X := Bool × Int) (fun x => [(0, .val (.str s)), (1, .val (.int .i64 m)), (4, .val (.bool x.1)), (5, .val (.int .i64 x.2))]) (fun x => 0 ≤ x.2 ∧ x.2 ≤ s.length ∧ x.2 ≤ m + 1 ∧ ∀ j, j < x.2.toNat → 0 ≤ plB (s.getD j 0)) (fun x => s.length - x.2.toNat) (_, _) (imp_covers ⟨rfl, rfl, rfl, rfl, trivial⟩) ?_ ?_
  · (try dsimp only)
    refine ⟨by omega, by omega, by omega, fun j hj => by simp at hj⟩
  · intro x hI
    obtain ⟨t4, i⟩ := x
    replace hI : 0 ≤ i ∧ i ≤ s.length ∧ i ≤ m + 1 ∧ ∀ j, j < i.toNat → 0 ≤ plB (s.getD j 0) := hI
    show codeT _ _ _ [(0, .val (.str s)), (1, .val (.int .i64 m)), (4, .val (.bool t4)), (5, .val (.int .i64 i))] _
    obtain ⟨i1, i2, i2m, i3⟩ := hI
    refine code_seq (fun K4 hK4 => ?_)
    refine code_seq (fun K5 hK5 => ?_)
    refine code_region ?_
    refine list_cons rfl (op_q (q_move rfl (by decide)) ?_)
    refine list_cons rfl (op_q (q_move rfl (by decide)) ?_)
    refine list_cons rfl (op_q (q_len_str Tryd.underlying9 rfl (by decide)) ?_)
    refine list_cons rfl (op_q (q_lt rfl rfl (by decide)) ?_)
    refine list_cons rfl (op_q (q_move rfl (by decide)) ?_)
    refine list_guard_d rfl rfl rfl rfl (by decide) rfl (by decide) (fun h1 => ?_) (fun h1 => ?_)
    · simp only [Bool.false_eq_true, if_true, if_false, Decidable.not_not] at h1
      refine id (op_q (q_move rfl (by decide)) ?_)
      refine list_guard_y rfl rfl rfl rfl (by decide) rfl ?_
      refine id (op_q (q_move rfl (by decide)) ?_)
      refine list_guard_y rfl rfl rfl rfl (by decide) rfl ?_
      refine id (op_q (q_le rfl rfl (by decide)) ?_)
      refine list_cons rfl (op_q (q_pick rfl rfl (by decide)) ?_)
      refine list_nil ?_
      refine hK5 _ ?_; clear hK5 K5
      refine codeT.imp (σ' := [(0, _), (1, _), (4, _), (5, _), (14, _)]) ?_ (imp_covers ⟨rfl, rfl, rfl, rfl, rfl, trivial⟩)
      refine code_cond_d rfl (fun h2 => ?_) (fun h2 => ?_)
      · skip
        (try simp only [Decidable.not_not] at h2)
        refine code_skip ?_
        refine hK4 _ ?_; clear hK4 K4
        refine code_seq (fun K6 hK6 => ?_)
        refine code_block ?_
        refine code_seq (fun K7 hK7 => ?_)
        refine code_region ?_
        refine list_cons rfl (op_q (q_move rfl (by decide)) ?_)
        refine list_cons rfl (op_q (q_move rfl (by decide)) ?_)
        refine list_cons rfl (op_q (q_index_str Tryd.underlying9 rfl rfl (by omega) (by omega) (by decide)) ?_)
        refine list_cons rfl (op_call _ (spec_l10Place _) rfl rfl (by decide) (by decide) (by decide) rfl ?_)
        rintro _ rfl
        refine list_cons rfl (op_q (q_lt rfl rfl (by decide)) ?_)
        refine list_nil ?_
        refine hK7 _ ?_; clear hK7 K7
        refine codeT.imp (σ' := [(0, _), (1, _), (4, _), (5, _), (21, _)]) ?_ (imp_covers ⟨rfl, rfl, rfl, rfl, rfl, trivial⟩)
        refine code_cond_d rfl (fun h3 => ?_) (fun h3 => ?_)
        · skip
          (try simp only [Decidable.not_not] at h3)
          refine code_seq (fun K8 hK8 => ?_)
          refine code_region ?_
          refine list_cons rfl (op_q (q_assign rfl (by decide)) ?_)
          refine list_nil ?_
          refine hK8 _ ?_; clear hK8 K8
          refine code_ret ?_
          refine blk_r ?_
          refine then_r ?_; clear hK6 K6
          refine then_r ?_
          refine blk_r ?_
          refine then_r ?_; clear hK2 K2
          refine ends_ret (cs := []) rfl rfl rfl rfl trivial ?_
          first
            | (have e : ¬ WrdP s m := fun e => by have := e.2.at (j := i.toNat) (by omega); omega
               rw [decide_eq_false e]; done)
            | (have e : ((s.length : Int) ≤ m) ↔ WrdP s m := ⟨fun e => ⟨e, LtP.of fun j hj => i3 j (by omega)⟩, fun e => e.1⟩
               simp only [e]; done)
        (try simp only [Decidable.not_not] at h3)
        refine code_skip ?_
        refine blk_n ?_
        refine hK6 _ ?_; clear hK6 K6
        refine code_region ?_
        refine list_cons rfl (op_q (q_move rfl (by decide)) ?_)
        refine list_cons rfl (op_q (by first | exact q_addI rfl rfl (by decide) (by omega) (by omega) | exact q_ib rfl rfl rfl (by decide)) ?_)
        refine list_cons rfl (op_q (q_assign rfl (by decide)) ?_)
        refine list_nil ?_
        refine then_n ⟨(_, _), imp_covers ⟨rfl, rfl, rfl, rfl, trivial⟩, ?_, ?_⟩
        · (try dsimp only)
          refine ⟨by omega, by omega, by omega, fun j hj => ?_⟩
          by_cases e : j = i.toNat
          · subst e; omega
          · exact i3 j (by omega)
        · (try dsimp only); omega
      (try simp only [Decidable.not_not] at h2)
      refine code_exit ?_
      refine then_x ?_; clear hK4 K4
      refine then_x ?_
      refine blk_hit ?_
      refine hK2 _ ?_; clear hK2 K2
      refine code_seq (fun K9 hK9 => ?_)
      refine code_region ?_
      refine list_cons rfl (op_q (q_move rfl (by decide)) ?_)
      refine list_cons rfl (op_q (q_len_str Tryd.underlying9 rfl (by decide)) ?_)
      refine list_cons rfl (op_q (q_move rfl (by decide)) ?_)
      refine list_cons rfl (op_q (q_le rfl rfl (by decide)) ?_)
      refine list_cons rfl (op_q (q_assign rfl (by decide)) ?_)
      refine list_nil ?_
      refine hK9 _ ?_; clear hK9 K9
      refine code_ret ?_
      refine ends_ret (cs := []) rfl rfl rfl rfl trivial ?_
      first
        | (have e : ¬ WrdP s m := fun e => by have := e.2.at (j := i.toNat) (by omega); omega
           rw [decide_eq_false e]; done)
        | (have e : ((s.length : Int) ≤ m) ↔ WrdP s m := ⟨fun e => ⟨e, LtP.of fun j hj => i3 j (by omega)⟩, fun e => e.1⟩
           simp only [e]; done)
    simp only [Bool.false_eq_true, if_true, if_false, Decidable.not_not] at h1
    refine list_guard_n rfl rfl rfl rfl (by decide) rfl ?_
    refine list_guard_n rfl rfl rfl rfl (by decide) rfl ?_
    refine list_cons rfl (op_q (q_pick rfl rfl (by decide)) ?_)
    refine list_nil ?_
    refine hK5 _ ?_; clear hK5 K5
    refine code_cond_f rfl ?_
    refine code_exit ?_
    refine then_x ?_; clear hK4 K4
    refine then_x ?_
    refine blk_hit ?_
    refine hK2 _ ?_; clear hK2 K2
    refine code_seq (fun K10 hK10 => ?_)
    refine code_region ?_
    refine list_cons rfl (op_q (q_move rfl (by decide)) ?_)
    refine list_cons rfl (op_q (q_len_str Tryd.underlying9 rfl (by decide)) ?_)
    refine list_cons rfl (op_q (q_move rfl (by decide)) ?_)
    refine list_cons rfl (op_q (q_le rfl rfl (by decide)) ?_)
    refine list_cons rfl (op_q (q_assign rfl (by decide)) ?_)
    refine list_nil ?_
    refine hK10 _ ?_; clear hK10 K10
    refine codeT.imp (σ' := [(0, _), (1, _), (4, _), (5, _)]) ?_ (imp_covers ⟨rfl, rfl, rfl, rfl, trivial⟩)
    refine code_ret ?_
    refine ends_ret (cs := []) rfl rfl rfl rfl trivial ?_
    first
      | (have e : ¬ WrdP s m := fun e => by have := e.2.at (j := i.toNat) (by omega); omega
         rw [decide_eq_false e]; done)
      | (have e : ((s.length : Int) ≤ m) ↔ WrdP s m := ⟨fun e => ⟨e, LtP.of fun j hj => i3 j (by omega)⟩, fun e => e.1⟩
         simp only [e]; done)

set_option maxRecDepth 4000 in
theorem spec_l10Row (s : List UInt8) (h : LtP s) (hl : s.length ≤ 1000) : PCalls Tryd.prog 52 [.str s] (· = [.own 0 3 1 (rowW s).length ((rowW s).map (.int .i64))]) := by
  refine pcalls_of_code (n := 21) az Tryd.func52 (by kernel_rfl) rfl rfl (Nat.le_of_ble_eq_true rfl) (by intro t u h; simp [Tryd.f52] at h) ?_
  refine code_seq (fun K1 hK1 => ?_)
  refine code_region ?_
  refine list_cons rfl (op_q (q_assign rfl (by decide)) ?_)
  refine list_nil ?_
  refine hK1 _ ?_; clear hK1 K1
  refine code_seq (fun K2 hK2 => ?_)
  refine code_region ?_
  refine list_cons rfl (op_buildSlice sl_28 (parts := []) rfl rfl rfl (by decide) (by decide) (by decide) rfl ?_)
  refine list_cons rfl (op_q (q_assign rfl (by decide)) ?_)
  refine list_nil ?_
  refine hK2 _ ?_; clear hK2 K2
  refine code_seq (fun K3 hK3 => ?_)
  refine code_seq (fun K4 hK4 => ?_)
  refine code_region ?_
  refine list_cons rfl (op_q (q_assign rfl (by decide)) ?_)
  refine list_nil ?_
  refine hK4 _ ?_; clear hK4 K4
  refine code_block ?_
  refine code_loop (X := PV × Nat × List PV × Int) (fun x => [(0, .val (.str s)), (2, .val x.1), (3, .own 5 3 1 x.2.1 x.2.2.1), (4, .val (.int .i64 x.2.2.2))]) (fun x => 0 ≤ x.2.2.2 ∧ x.2.2.2 ≤ s.length ∧ x.2.1 = x.2.2.2.toNat ∧ x.2.2.1 = (rowW (s.take x.2.2.2.toNat)).map (.int .i64)) (fun x => s.length - x.2.2.2.toNat) (_, _, _, _) (imp_covers ⟨rfl, rfl, rfl, rfl, trivial⟩) ?_ ?_
  · (try dsimp only)
    exact ⟨by omega, by omega, rfl, rfl⟩
  · intro x hI
    obtain ⟨t2_p, out_n, out_c, i⟩ := x
    replace hI : 0 ≤ i ∧ i ≤ s.length ∧ out_n = i.toNat ∧ out_c = (rowW (s.take i.toNat)).map (.int .i64) := hI
    show codeT _ _ _ [(0, .val (.str s)), (2, .val t2_p), (3, .own 5 3 1 out_n out_c), (4, .val (.int .i64 i))] _
    obtain ⟨i1, i2, rfl, rfl⟩ := hI
    have hpb := plB_le (s.getD i.toNat 0)
    have hp0 := fun e : i < s.length => h.at (j := i.toNat) (by omega)
    have hlw : (rowW (s.take i.toNat)).length = i.toNat := by rw [rowW_len, List.length_take]; omega
    refine code_seq (fun K5 hK5 => ?_)
    refine code_seq (fun K6 hK6 => ?_)
    refine code_region ?_
    refine list_cons rfl (op_q (q_move rfl (by decide)) ?_)
    refine list_cons rfl (op_q (q_move rfl (by decide)) ?_)
    refine list_cons rfl (op_q (q_len_str Tryd.underlying9 rfl (by decide)) ?_)
    refine list_cons rfl (op_q (q_lt rfl rfl (by decide)) ?_)
    refine list_nil ?_
    refine hK6 _ ?_; clear hK6 K6
    refine code_cond_d rfl (fun h1 => ?_) (fun h1 => ?_)
    · skip
      (try simp only [Decidable.not_not] at h1)
      refine code_skip ?_
      refine hK5 _ ?_; clear hK5 K5
      refine code_seq (fun K7 hK7 => ?_)
      refine code_block ?_
      refine code_region ?_
      refine list_cons rfl (op_q (q_move rfl (by decide)) ?_)
      refine list_cons rfl (op_q (q_move rfl (by decide)) ?_)
      refine list_cons rfl (op_q (q_move rfl (by decide)) ?_)
      refine list_cons rfl (op_q (q_index_str Tryd.underlying9 rfl rfl (by omega) (by omega) (by decide)) ?_)
      refine list_cons rfl (op_call _ (spec_l10Place _) rfl rfl (by decide) (by decide) (by decide) rfl ?_)
      rintro _ rfl
      refine list_cons rfl (op_call _ (spec_l10Of _ (hp0 (by omega)) hpb.2) rfl rfl (by decide) (by decide) (by decide) rfl ?_)
      rintro _ rfl
      refine list_cons rfl (op_buildSlice sl_28 (parts := [(0, .tmp 17)]) rfl rfl rfl (by decide) (by decide) (by decide) rfl ?_)
      refine list_cons rfl (op_append_gen sl_28 (l := 5) (.inl rfl) rfl rfl (l2 := none) (.inl ⟨rfl, (by first | rfl | exact flat_map _ (fun _ => rfl) _)⟩) (by first | rfl | (simp; done) | (simp; omega)) (by omega) (by decide) (by decide) (by decide) ?_)
      refine list_cons rfl (op_q (q_assign rfl (by decide)) ?_)
      refine list_nil ?_
      refine blk_n ?_
      refine hK7 _ ?_; clear hK7 K7
      refine codeT.imp (σ' := [(0, _), (2, _), (3, _), (4, _)]) ?_ (imp_covers ⟨rfl, rfl, rfl, rfl, trivial⟩)
      refine code_region ?_
      refine list_cons rfl (op_q (q_move rfl (by decide)) ?_)
      refine list_cons rfl (op_q (by first | exact q_addI rfl rfl (by decide) (by omega) (by omega) | exact q_ib rfl rfl rfl (by decide)) ?_)
      refine list_cons rfl (op_q (q_assign rfl (by decide)) ?_)
      refine list_nil ?_
      refine then_n ⟨(_, _, _, _), imp_covers ⟨rfl, rfl, rfl, rfl, trivial⟩, ?_, ?_⟩
      · (try dsimp only)
        refine ⟨by omega, by omega, by omega, ?_⟩
        rw [show (i + 1).toNat = i.toNat + 1 by omega, take_snocI 0 s i.toNat (by omega)]
        unfold rowW
        rw [List.map_append, List.map_append]; rfl
      · (try dsimp only); omega
    (try simp only [Decidable.not_not] at h1)
    refine code_exit ?_
    refine then_x ?_; clear hK5 K5
    refine then_x ?_
    refine blk_hit ?_
    refine hK3 _ ?_; clear hK3 K3
    refine code_seq (fun K8 hK8 => ?_)
    refine code_region ?_
    refine list_cons rfl (op_q (q_move rfl (by decide)) ?_)
    refine list_cons rfl (op_q (q_assign rfl (by decide)) ?_)
    refine list_nil ?_
    refine hK8 _ ?_; clear hK8 K8
    refine code_ret ?_
    refine ends_ret (cs := []) rfl rfl rfl rfl trivial ?_
    have e : i.toNat = s.length := by omega
    rw [e, List.take_length, rowW_len]

/-- The changes between the first i cells of two rows. -/
def chgK (a b : List Int) : Nat → Int
  | 0 => 0
  | i + 1 => chgK a b i + ((cnt7 ((a.getD i 0).toNat ^^^ (b.getD i 0).toNat) : Nat) : Int)
theorem chgK_le (a b : List Int) : ∀ i : Nat, 0 ≤ chgK a b i ∧ chgK a b i ≤ 7 * i
  | 0 => by simp [chgK]
  | i + 1 => by
    have := chgK_le a b i
    have h := cnt7_le ((a.getD i 0).toNat ^^^ (b.getD i 0).toNat)
    unfold chgK; omega

theorem chgK_congr {a b a2 b2 : List Int} : ∀ {k : Nat}, (∀ j, j < k → a.getD j 0 = a2.getD j 0 ∧ b.getD j 0 = b2.getD j 0) → chgK a b k = chgK a2 b2 k
  | 0, _ => rfl
  | k + 1, h => by
    have h1 := h k (by omega)
    unfold chgK
    rw [chgK_congr (k := k) fun j hj => h j (by omega), h1.1, h1.2]
theorem chgK_more {a b : List Int} {m : Nat} (h : ∀ j, m ≤ j → a.getD j 0 = 0 ∧ b.getD j 0 = 0) : ∀ d : Nat, chgK a b (m + d) = chgK a b m
  | 0 => rfl
  | d + 1 => by
    have h1 := h (m + d) (by omega)
    show chgK a b (m + d) + ((cnt7 ((a.getD (m + d) 0).toNat ^^^ (b.getD (m + d) 0).toNat) : Nat) : Int) = _
    rw [chgK_more h d, h1.1, h1.2]; exact Int.add_zero _
theorem getD_pad (l : List Int) (d j : Nat) : (l ++ List.replicate d (0 : Int)).getD j 0 = l.getD j 0 := by
  by_cases h : j < l.length
  · rw [List.getD_eq_getElem?_getD, List.getElem?_append_left h, ← List.getD_eq_getElem?_getD]
  · rw [List.getD_eq_getElem?_getD, List.getElem?_append_right (by omega), List.getElem?_replicate, List.getD_eq_getElem?_getD, List.getElem?_eq_none (by omega)]
    split <;> rfl
theorem getD_off (l : List Int) {j : Nat} (h : l.length ≤ j) : l.getD j 0 = 0 := by
  rw [List.getD_eq_getElem?_getD, List.getElem?_eq_none h]; rfl
/-- What changes between two rows, one of them with dark cells behind it. -/
def chgW (a b : List UInt8) : Int := chgK (rowW a) (rowW b) 6
theorem chgW_pad {a b : List UInt8} {d e m : Nat} (ha : a.length ≤ m) (hb : b.length ≤ m) (h6 : m ≤ 6) : chgK (rowW a ++ List.replicate d 0) (rowW b ++ List.replicate e 0) m = chgW a b := by
  have h1 : chgK (rowW a ++ List.replicate d 0) (rowW b ++ List.replicate e 0) m = chgK (rowW a) (rowW b) m := chgK_congr fun j _ => ⟨getD_pad _ _ _, getD_pad _ _ _⟩
  have h2 := chgK_more (a := rowW a) (b := rowW b) (m := m) (fun j hj => ⟨getD_off _ (by rw [rowW_len]; omega), getD_off _ (by rw [rowW_len]; omega)⟩) (6 - m)
  rw [h1, ← h2, show m + (6 - m) = 6 by omega]; rfl
theorem pad_cell (a : List UInt8) (d j : Nat) : 0 ≤ (rowW a ++ List.replicate d 0).getD j 0 ∧ (rowW a ++ List.replicate d 0).getD j 0 ≤ 127 := by
  rw [getD_pad]; exact rowW_at a j

set_option maxRecDepth 4000 in
theorem spec_l4Ch6 (a b : List Int) (hl : a.length ≤ b.length) (hl6 : a.length ≤ 6) (ha : ∀ i, i < a.length → 0 ≤ a.getD i 0 ∧ a.getD i 0 ≤ 127) (hb : ∀ i, i < a.length → 0 ≤ b.getD i 0 ∧ b.getD i 0 ≤ 127) : PCalls Tryd.prog 62 [.sl a.length (a.map (.int .i64)), .sl b.length (b.map (.int .i64))] (· = [.val (.int .i64 (chgK a b a.length))]) := by
  refine pcalls_of_code (n := 25) az Tryd.func62 (by kernel_rfl) rfl rfl (Nat.le_of_ble_eq_true rfl) (by intro t u h; simp [Tryd.f62] at h) ?_
  refine code_seq (fun K1 hK1 => ?_)
  refine code_region ?_
  refine list_cons rfl (op_q (q_assign rfl (by decide)) ?_)
  refine list_nil ?_
  refine hK1 _ ?_; clear hK1 K1
  refine code_seq (fun K2 hK2 => ?_)
  refine code_region ?_
  refine list_cons rfl (op_q (q_assign rfl (by decide)) ?_)
  refine list_nil ?_
  refine hK2 _ ?_; clear hK2 K2
  refine code_seq (fun K3 hK3 => ?_)
  refine code_seq (fun K4 hK4 => ?_)
  refine code_region ?_
  refine list_cons rfl (op_q (q_assign rfl (by decide)) ?_)
  refine list_nil ?_
  refine hK4 _ ?_; clear hK4 K4
  refine code_block ?_
  refine code_loop (X := Int × Int × Int) (fun x => [(0, .par 0 (.sl a.length (a.map (.int .i64)))), (1, .par 1 (.sl b.length (b.map (.int .i64)))), (4, .val (.int .i64 x.1)), (5, .val (.int .i64 x.2.1)), (6, .val (.int .i64 x.2.2))]) (fun x => 0 ≤ x.2.2 ∧ x.2.2 ≤ a.length ∧ x.2.1 = chgK a b x.2.2.toNat) (fun x => (a.length - x.2.2).toNat) (_, _, _) (imp_covers ⟨rfl, rfl, rfl, rfl, rfl, trivial⟩) ?_ ?_
  · (try dsimp only)
    exact ⟨by omega, by omega, rfl⟩
  · intro x hI
    obtain ⟨t4, sum, i⟩ := x
    replace hI : 0 ≤ i ∧ i ≤ a.length ∧ sum = chgK a b i.toNat := hI
    show codeT _ _ _ [(0, .par 0 (.sl a.length (a.map (.int .i64)))), (1, .par 1 (.sl b.length (b.map (.int .i64)))), (4, .val (.int .i64 t4)), (5, .val (.int .i64 sum)), (6, .val (.int .i64 i))] _
    obtain ⟨i1, i2, rfl⟩ := hI
    have hc := chgK_le a b i.toNat
    have hd := cnt7_le ((a.getD i.toNat 0).toNat ^^^ (b.getD i.toNat 0).toNat)
    refine code_seq (fun K5 hK5 => ?_)
    refine code_seq (fun K6 hK6 => ?_)
    refine code_region ?_
    refine list_cons rfl (op_q (q_move rfl (by decide)) ?_)
    refine list_cons rfl (op_q (q_move rfl (by decide)) ?_)
    refine list_cons rfl (op_q (q_len_sl Tryd.underlying28 rfl rfl (by decide)) ?_)
    refine list_cons rfl (op_q (q_lt rfl rfl (by decide)) ?_)
    refine list_nil ?_
    refine hK6 _ ?_; clear hK6 K6
    refine code_cond_d rfl (fun h1 => ?_) (fun h1 => ?_)
    · skip
      (try simp only [Decidable.not_not] at h1)
      refine code_skip ?_
      refine hK5 _ ?_; clear hK5 K5
      refine code_seq (fun K7 hK7 => ?_)
      refine code_block ?_
      refine code_draw (by kernel_rfl) (by kernel_rfl) ?_
      refine draw_q rfl (q_move rfl (by decide)) ?_
      refine draw_q rfl (q_move rfl (by decide)) ?_
      refine draw_q rfl (q_move rfl (by decide)) ?_
      refine draw_q rfl (q_indexAddr_rd sl_28 rfl (.inl ⟨_, rfl, rfl⟩) rfl (by omega) (by omega) (by decide)) ?_
      refine draw_q rfl (q_load_rd one_3 rfl (.inl ⟨_, (by first | rfl | exact congrArg (SV.rpar _) (drop_map1 _ 0 _ (by first | omega | (simp; omega)))), rfl⟩) (by decide)) ?_
      refine draw_q rfl (q_move rfl (by decide)) ?_
      refine draw_q rfl (q_move rfl (by decide)) ?_
      refine draw_q rfl (q_indexAddr_rd sl_28 rfl (.inl ⟨_, rfl, rfl⟩) rfl (by omega) (by omega) (by decide)) ?_
      refine draw_q rfl (q_load_rd one_3 rfl (.inl ⟨_, (by first | rfl | exact congrArg (SV.rpar _) (drop_map1 _ 0 _ (by first | omega | (simp; omega)))), rfl⟩) (by decide)) ?_
      refine draw_call _ (spec_l2Far _ _ (ha i.toNat (by omega)) (hb i.toNat (by omega))) rfl rfl rfl (by decide) ?_
      refine draw_q rfl (by first | exact q_addI rfl rfl (by decide) (by omega) (by omega) | exact q_ib rfl rfl rfl (by decide)) ?_
      refine draw_q rfl (q_assign rfl (by decide)) ?_
      refine draw_nil ?_
      refine blk_n ?_
      refine hK7 _ ?_; clear hK7 K7
      refine codeT.imp (σ' := [(0, _), (1, _), (4, _), (5, _), (6, _)]) ?_ (imp_covers ⟨rfl, rfl, rfl, rfl, rfl, trivial⟩)
      refine code_region ?_
      refine list_cons rfl (op_q (q_move rfl (by decide)) ?_)
      refine list_cons rfl (op_q (by first | exact q_addI rfl rfl (by decide) (by omega) (by omega) | exact q_ib rfl rfl rfl (by decide)) ?_)
      refine list_cons rfl (op_q (q_assign rfl (by decide)) ?_)
      refine list_nil ?_
      refine then_n ⟨(_, _, _), imp_covers ⟨rfl, rfl, rfl, rfl, rfl, trivial⟩, ?_, ?_⟩
      · (try dsimp only)
        refine ⟨by omega, by omega, ?_⟩
        rw [show (i + 1).toNat = i.toNat + 1 by omega, chgK]
      · (try dsimp only); omega
    (try simp only [Decidable.not_not] at h1)
    refine code_exit ?_
    refine then_x ?_; clear hK5 K5
    refine then_x ?_
    refine blk_hit ?_
    refine hK3 _ ?_; clear hK3 K3
    refine code_seq (fun K8 hK8 => ?_)
    refine code_region ?_
    refine list_cons rfl (op_q (q_move rfl (by decide)) ?_)
    refine list_cons rfl (op_q (q_assign rfl (by decide)) ?_)
    refine list_nil ?_
    refine hK8 _ ?_; clear hK8 K8
    refine code_ret ?_
    refine ends_ret (cs := []) rfl rfl rfl rfl trivial ?_
    rw [show i.toNat = a.length by omega]

def sT (r : List Int) (k m : Nat) : List (List Int) := (List.range m).map fun (j : Nat) => scR r k ((k : Int) - 1 - j)
theorem sT_succ (r : List Int) (k m : Nat) : sT r k (m + 1) = sT r k m ++ [scR r k ((k : Int) - 1 - m)] := by
  unfold sT; rw [List.range_succ, List.map_append]; rfl
theorem sT_len (r : List Int) (k m : Nat) : (sT r k m).length = m := by simp [sT]
theorem scR_len (r : List Int) (k : Nat) (a : Int) : (scR r k a).length = k := by simp [scR]
theorem sT_at {r : List Int} {k m j : Nat} (h : j < m) : (sT r k m).getD j [] = scR r k ((k : Int) - 1 - j) := by
  unfold sT
  rw [List.getD_eq_getElem?_getD, List.getElem?_map, List.getElem?_range h]; rfl
/-- The rows of a word that goes through a display. -/
def scW (s : List UInt8) (k : Nat) : List (List Int) := if s = [] then [] else sT (rowW s) k (s.length + k - 1)
theorem scC_cell (s : List UInt8) (j : Int) : 0 ≤ scC (rowW s) j ∧ scC (rowW s) j ≤ 127 := by
  unfold scC
  split
  · exact rowW_at s _
  · omega
theorem getD_rng (k : Nat) (f : Nat → Int) {j : Nat} (h : j < k) : ((List.range k).map f).getD j 0 = f j := by
  rw [List.getD_eq_getElem?_getD, List.getElem?_map, List.getElem?_range h]; rfl
theorem scR_cell (s : List UInt8) (k : Nat) (a : Int) (i : Nat) : 0 ≤ (scR (rowW s) k a).getD i 0 ∧ (scR (rowW s) k a).getD i 0 ≤ 127 := by
  by_cases h : i < k
  · have e : (scR (rowW s) k a).getD i 0 = scC (rowW s) ((i : Int) - a) := getD_rng k _ h
    rw [e]; exact scC_cell s _
  · have e : (scR (rowW s) k a).getD i 0 = 0 := by rw [List.getD_eq_getElem?_getD, List.getElem?_eq_none (by rw [scR_len]; omega)]; rfl
    rw [e]; omega
/-- A row, as far as the loop has come. -/
def scP (r : List Int) (k : Nat) (a : Int) (i : Nat) : List Int := (List.range k).map fun (j : Nat) => if (j : Int) - a < i then scC r ((j : Int) - a) else 0
theorem scP_len (r : List Int) (k : Nat) (a : Int) (i : Nat) : (scP r k a i).length = k := by simp [scP]
theorem map_rng_congr {k : Nat} {f g : Nat → Int} (h : ∀ j, j < k → f j = g j) : (List.range k).map f = (List.range k).map g := List.map_congr_left fun j hj => h j (List.mem_range.1 hj)
theorem scP_0 (r : List Int) (k : Nat) (a : Int) : scP r k a 0 = List.replicate k 0 := by
  have : scP r k a 0 = (List.range k).map fun _ => (0 : Int) := map_rng_congr fun j _ => by
    split
    · unfold scC; rw [if_neg (by omega)]
    · rfl
  rw [this]
  apply List.ext_getElem (by simp)
  intro j h1 h2
  simp
theorem scP_end (r : List Int) (k : Nat) (a : Int) : scP r k a r.length = scR r k a := map_rng_congr fun j _ => by
  split
  · rfl
  · unfold scC; rw [if_neg (by omega)]
theorem scP_skip {r : List Int} {k : Nat} {a : Int} {i : Nat} (h : a + i < 0 ∨ (k : Int) - 1 < a + i) : scP r k a (i + 1) = scP r k a i := map_rng_congr fun j hj => by
  by_cases e : (j : Int) - a < i
  · rw [if_pos e, if_pos (by omega)]
  · rw [if_neg e, if_neg (by omega)]
theorem scP_set {r : List Int} {k : Nat} {a : Int} {i : Nat} (h0 : 0 ≤ a + i) (h1 : a + i ≤ (k : Int) - 1) (hi : i < r.length) : (scP r k a i).set (a + i).toNat (r.getD i 0) = scP r k a (i + 1) := by
  apply List.ext_getElem (by simp [scP])
  intro j h2 h3
  have hj : j < k := by simpa [scP] using h3
  rw [List.getElem_set]
  by_cases e : (a + i).toNat = j
  · rw [if_pos e]
    have e2 : (j : Int) - a = i := by omega
    simp only [scP, List.getElem_map, List.getElem_range]
    rw [if_pos (by omega), e2]
    unfold scC
    rw [if_pos (by omega), Int.toNat_natCast]
  · rw [if_neg e]
    simp only [scP, List.getElem_map, List.getElem_range]
    by_cases e3 : (j : Int) - a < i
    · rw [if_pos e3, if_pos (by omega)]
    · rw [if_neg e3, if_neg (by omega)]
theorem scP_put {r : List Int} {k : Nat} {a : Int} {i : Nat} {p : Nat} (h0 : 0 ≤ a + i) (h1 : a + i ≤ (k : Int) - 1) (hi : i < r.length) (hp : p = (a + i).toNat) : putAt ((scP r k a i).map (.int .i64)) (p * 1) [PV.int .i64 (r.getD i 0)] = (scP r k a (i + 1)).map (.int .i64) := by
  subst hp
  rw [put_map1 (PV.int .i64) _ (by rw [scP_len]; omega), scP_set h0 h1 hi]
theorem qR_snoc (M : List (List Int)) (r : List Int) : qR M ++ [PV.sl r.length (r.map (.int .i64))] = qR (M ++ [r]) := by
  unfold qR; rw [List.map_append]; rfl
theorem qR_len (M : List (List Int)) : (qR M).length = M.length := by simp [qR]
/-- What changes from row to row. -/
def prv (M : List (List Int)) (z : List Int) (i : Nat) : List Int := if i = 0 then z else M.getD (i - 1) []
def scS (M : List (List Int)) (z : List Int) (k : Nat) : Nat → Int
  | 0 => 0
  | i + 1 => scS M z k i + chgK (prv M z i) (M.getD i []) k
theorem prv_next (M : List (List Int)) (z : List Int) (i : Nat) : prv M z (i + 1) = M.getD i [] := by
  unfold prv; rw [if_neg (by omega), Nat.add_sub_cancel]
theorem scS_le (M : List (List Int)) (z : List Int) (k : Nat) : ∀ i, 0 ≤ scS M z k i ∧ scS M z k i ≤ 7 * k * i
  | 0 => by simp [scS]
  | i + 1 => by
    have h1 := scS_le M z k i
    have h2 := chgK_le (prv M z i) (M.getD i []) k
    have h3 : (7 * (k : Int)) * ((i + 1 : Nat) : Int) = 7 * k * i + 7 * k := by rw [Int.natCast_add, Int.mul_add]; simp
    show 0 ≤ scS M z k i + _ ∧ scS M z k i + _ ≤ _
    omega
def zeK (k : Nat) : List Int := List.replicate k 0
theorem zeK_cell (k i : Nat) : 0 ≤ (zeK k).getD i 0 ∧ (zeK k).getD i 0 ≤ 127 := by
  have : (zeK k).getD i 0 = 0 := by
    unfold zeK
    rw [List.getD_eq_getElem?_getD, List.getElem?_replicate]
    split <;> rfl
  rw [this]; omega
theorem zeK_len (k : Nat) : (zeK k).length = k := by simp [zeK]
theorem zeK_map (k : Nat) : zeros [PV.int .i64 0] k = (zeK k).map (.int .i64) := zeros_map1 (PV.int .i64) 0 k
theorem scW_row {s : List UInt8} {k j : Nat} (h : j < (scW s k).length) : ((scW s k).getD j []).length = k ∧ ∀ i, 0 ≤ ((scW s k).getD j []).getD i 0 ∧ ((scW s k).getD j []).getD i 0 ≤ 127 := by
  unfold scW at h ⊢
  split at h
  · simp at h
  · rename_i hs
    rw [if_neg hs, sT_at (by rw [sT_len] at h; exact h)]
    exact ⟨scR_len _ _ _, fun i => scR_cell s _ _ i⟩
theorem scW_len (s : List UInt8) (k : Nat) : (scW s k).length ≤ s.length + k := by
  unfold scW
  split
  · simp
  · rw [sT_len]; omega
theorem prv_row {s : List UInt8} {k i : Nat} (h : i ≤ (scW s k).length) : (prv (scW s k) (zeK k) i).length = k ∧ ∀ j, 0 ≤ (prv (scW s k) (zeK k) i).getD j 0 ∧ (prv (scW s k) (zeK k) i).getD j 0 ≤ 127 := by
  unfold prv
  split
  · exact ⟨zeK_len k, zeK_cell k⟩
  · exact scW_row (by omega)
def scV (s : List UInt8) (k : Nat) : Int := scS (scW s k) (zeK k) k (scW s k).length + chgK (prv (scW s k) (zeK k) (scW s k).length) (zeK k) k

set_option maxRecDepth 8000 in
set_option maxHeartbeats 1000000 in
theorem spec_l10Scroll (s : List UInt8) (k : Int) (h : LtP s) (hl : s.length ≤ 12) (hk : 1 ≤ k ∧ k ≤ 6) : PCalls Tryd.prog 69 [.str s, .int .i64 k] (· = [.own 0 28 1 (scW s k.toNat).length (qR (scW s k.toNat))]) := by
  refine pcalls_of_code (n := 54) az Tryd.func69 (by kernel_rfl) rfl rfl (Nat.le_of_ble_eq_true rfl) (by intro t u h; simp [Tryd.f69] at h) ?_
  have hrl := rowW_len s
  refine code_seq (fun K1 hK1 => ?_)
  refine code_region ?_
  refine list_cons rfl (op_q (q_assign rfl (by decide)) ?_)
  refine list_nil ?_
  refine hK1 _ ?_; clear hK1 K1
  refine code_seq (fun K2 hK2 => ?_)
  refine code_region ?_
  refine list_cons rfl (op_buildSlice sl_42 (parts := []) rfl rfl rfl (by decide) (by decide) (by decide) rfl ?_)
  refine list_cons rfl (op_q (q_move rfl (by decide)) ?_)
  refine list_cons rfl (op_call _ (spec_l10Row _ (by assumption) (by omega)) rfl rfl (by decide) (by decide) (by decide) rfl ?_)
  rintro _ rfl
  refine list_cons rfl (op_q (q_assign rfl (by decide)) ?_)
  refine list_cons rfl (op_q (q_assign rfl (by decide)) ?_)
  refine list_nil ?_
  refine hK2 _ ?_; clear hK2 K2
  refine codeT.imp (σ' := [(0, _), (1, _), (4, _), (5, _), (6, _)]) ?_ (imp_covers ⟨rfl, rfl, rfl, rfl, rfl, trivial⟩)
  refine code_seq (fun K3 hK3 => ?_)
  refine code_seq (fun K4 hK4 => ?_)
  refine code_region ?_
  refine list_cons rfl (op_q (q_move rfl (by decide)) ?_)
  refine list_cons rfl (op_q (q_len_sl Tryd.underlying28 rfl rfl (by decide)) ?_)
  refine list_cons rfl (op_q (q_eq rfl rfl (by decide)) ?_)
  refine list_nil ?_
  refine hK4 _ ?_; clear hK4 K4
  refine code_cond_d rfl (fun h1 => ?_) (fun h1 => ?_)
  · skip
    (try simp only [Decidable.not_not] at h1)
    refine code_seq (fun K5 hK5 => ?_)
    refine code_region ?_
    refine list_cons rfl (op_q (q_move rfl (by decide)) ?_)
    refine list_cons rfl (op_q (q_assign rfl (by decide)) ?_)
    refine list_nil ?_
    refine hK5 _ ?_; clear hK5 K5
    refine code_ret ?_
    refine then_r ?_; clear hK3 K3
    refine ends_ret (cs := []) rfl rfl rfl rfl trivial ?_
    first
      | (have e : s = [] := List.eq_nil_of_length_eq_zero (by omega)
         subst e; rfl)
      | (have e : (k - 1 - at_).toNat = s.length + k.toNat - 1 := by omega
         unfold scW
         rw [e, if_neg hne, sT_len]; done)
  (try simp only [Decidable.not_not] at h1)
  refine code_skip ?_
  refine hK3 _ ?_; clear hK3 K3
  refine code_seq (fun K6 hK6 => ?_)
  refine code_seq (fun K7 hK7 => ?_)
  refine code_region ?_
  refine list_cons rfl (op_q (q_move rfl (by decide)) ?_)
  refine list_cons rfl (op_q (by first | exact q_subI rfl rfl (by decide) (by omega) (by omega) | exact q_ib rfl rfl rfl (by decide)) ?_)
  refine list_cons rfl (op_q (q_assign rfl (by decide)) ?_)
  refine list_nil ?_
  refine hK7 _ ?_; clear hK7 K7
  refine code_block ?_
  refine code_loop (X := PV × Nat × List PV × Int) (fun x => [(0, .val (.str s)), (1, .val (.int .i64 k)), (4, .val x.1), (5, .own 10 28 1 x.2.1 x.2.2.1), (6, .own 12 3 1 (rowW s).length ((rowW s).map (.int .i64))), (7, .val (.int .i64 x.2.2.2))]) (fun x => s ≠ [] ∧ x.2.2.2 ≤ k - 1 ∧ -(s.length : Int) ≤ x.2.2.2 ∧ x.2.1 = (k - 1 - x.2.2.2).toNat ∧ x.2.2.1 = qR (sT (rowW s) k.toNat (k - 1 - x.2.2.2).toNat)) (fun x => (x.2.2.2 + s.length).toNat) (_, _, _, _) (imp_covers ⟨rfl, rfl, rfl, rfl, rfl, rfl, trivial⟩) ?_ ?_
  · (try dsimp only)
    exact ⟨fun e => by subst e; exact h1 rfl, by omega, by omega, by omega, by rw [show (k - 1 - (k - 1)).toNat = 0 by omega]; rfl⟩
  · intro x hI
    obtain ⟨t4_p, out_n, out_c, at_⟩ := x
    replace hI : s ≠ [] ∧ at_ ≤ k - 1 ∧ -(s.length : Int) ≤ at_ ∧ out_n = (k - 1 - at_).toNat ∧ out_c = qR (sT (rowW s) k.toNat (k - 1 - at_).toNat) := hI
    show codeT _ _ _ [(0, .val (.str s)), (1, .val (.int .i64 k)), (4, .val t4_p), (5, .own 10 28 1 out_n out_c), (6, .own 12 3 1 (rowW s).length ((rowW s).map (.int .i64))), (7, .val (.int .i64 at_))] _
    obtain ⟨hne, i1, i2, rfl, rfl⟩ := hI
    have hsl := sT_len (rowW s) k.toNat (k - 1 - at_).toNat
    refine code_seq (fun K8 hK8 => ?_)
    refine code_seq (fun K9 hK9 => ?_)
    refine code_region ?_
    refine list_cons rfl (op_q (q_move rfl (by decide)) ?_)
    refine list_cons rfl (op_q (q_move rfl (by decide)) ?_)
    refine list_cons rfl (op_q (q_len_sl Tryd.underlying28 rfl rfl (by decide)) ?_)
    refine list_cons rfl (op_q (by first | exact q_negI rfl (by decide) (by omega) (by omega) | exact q_neg rfl (by decide)) ?_)
    refine list_cons rfl (op_q (q_gt rfl rfl (by decide)) ?_)
    refine list_nil ?_
    refine hK9 _ ?_; clear hK9 K9
    refine code_cond_d rfl (fun h2 => ?_) (fun h2 => ?_)
    · skip
      (try simp only [Decidable.not_not] at h2)
      refine code_skip ?_
      refine hK8 _ ?_; clear hK8 K8
      refine code_seq (fun K10 hK10 => ?_)
      refine code_block ?_
      refine code_seq (fun K11 hK11 => ?_)
      refine code_region ?_
      refine list_cons rfl (op_q (q_move rfl (by decide)) ?_)
      refine list_cons rfl (op_makeI sl_28 rfl rfl (by omega) (by omega) (by decide) (by decide) rfl ?_)
      refine list_cons rfl (op_q (q_assign rfl (by decide)) ?_)
      refine list_nil ?_
      refine hK11 _ ?_; clear hK11 K11
      refine codeT.imp (σ' := [(0, _), (1, _), (4, _), (5, _), (6, _), (7, _), (8, _)]) ?_ (imp_covers ⟨rfl, rfl, rfl, rfl, rfl, rfl, rfl, trivial⟩)
      refine code_seq (fun K12 hK12 => ?_)
      refine code_seq (fun K13 hK13 => ?_)
      refine code_region ?_
      refine list_cons rfl (op_q (q_assign rfl (by decide)) ?_)
      refine list_nil ?_
      refine hK13 _ ?_; clear hK13 K13
      refine code_block ?_
      refine code_loop (X := PV × Nat × List PV × Int) (fun x => [(0, .val (.str s)), (1, .val (.int .i64 k)), (4, .val x.1), (5, .own 10 28 1 (k - 1 - at_).toNat (qR (sT (rowW s) k.toNat (k - 1 - at_).toNat))), (6, .own 12 3 1 (rowW s).length ((rowW s).map (.int .i64))), (7, .val (.int .i64 at_)), (8, .own 27 3 1 x.2.1 x.2.2.1), (9, .val (.int .i64 x.2.2.2))]) (fun x => 0 ≤ x.2.2.2 ∧ x.2.2.2 ≤ s.length ∧ x.2.1 = k.toNat ∧ x.2.2.1 = (scP (rowW s) k.toNat at_ x.2.2.2.toNat).map (.int .i64)) (fun x => (s.length - x.2.2.2).toNat) (_, _, _, _) (imp_covers ⟨rfl, rfl, rfl, rfl, rfl, rfl, rfl, rfl, trivial⟩) ?_ ?_
      · (try dsimp only)
        exact ⟨by omega, by omega, rfl, by rw [show (0 : Int).toNat = 0 from rfl, scP_0]; exact zeros_map1 (PV.int .i64) 0 _⟩
      · intro x hI
        obtain ⟨t4_p, row_n, row_c, i⟩ := x
        replace hI : 0 ≤ i ∧ i ≤ s.length ∧ row_n = k.toNat ∧ row_c = (scP (rowW s) k.toNat at_ i.toNat).map (.int .i64) := hI
        show codeT _ _ _ [(0, .val (.str s)), (1, .val (.int .i64 k)), (4, .val t4_p), (5, .own 10 28 1 (k - 1 - at_).toNat (qR (sT (rowW s) k.toNat (k - 1 - at_).toNat))), (6, .own 12 3 1 (rowW s).length ((rowW s).map (.int .i64))), (7, .val (.int .i64 at_)), (8, .own 27 3 1 row_n row_c), (9, .val (.int .i64 i))] _
        obtain ⟨j1, j2, rfl, rfl⟩ := hI
        have hpl := scP_len (rowW s) k.toNat at_ i.toNat
        refine code_seq (fun K14 hK14 => ?_)
        refine code_seq (fun K15 hK15 => ?_)
        refine code_region ?_
        refine list_cons rfl (op_q (q_move rfl (by decide)) ?_)
        refine list_cons rfl (op_q (q_move rfl (by decide)) ?_)
        refine list_cons rfl (op_q (q_len_sl Tryd.underlying28 rfl rfl (by decide)) ?_)
        refine list_cons rfl (op_q (q_lt rfl rfl (by decide)) ?_)
        refine list_nil ?_
        refine hK15 _ ?_; clear hK15 K15
        refine code_cond_d rfl (fun h3 => ?_) (fun h3 => ?_)
        · skip
          (try simp only [Decidable.not_not] at h3)
          refine code_skip ?_
          refine hK14 _ ?_; clear hK14 K14
          refine code_seq (fun K16 hK16 => ?_)
          refine code_block ?_
          refine code_seq (fun K17 hK17 => ?_)
          refine code_region ?_
          refine list_cons rfl (op_q (q_move rfl (by decide)) ?_)
          refine list_cons rfl (op_q (q_move rfl (by decide)) ?_)
          refine list_cons rfl (op_q (by first | exact q_addI rfl rfl (by decide) (by omega) (by omega) | exact q_ib rfl rfl rfl (by decide)) ?_)
          refine list_cons rfl (op_q (q_move rfl (by decide)) ?_)
          refine list_cons rfl (op_q (by first | exact q_subI rfl rfl (by decide) (by omega) (by omega) | exact q_ib rfl rfl rfl (by decide)) ?_)
          refine list_cons rfl (op_call _ (spec_l1In _ _ _) rfl rfl (by decide) (by decide) (by decide) rfl ?_)
          rintro _ rfl
          refine list_nil ?_
          refine hK17 _ ?_; clear hK17 K17
          refine codeT.imp (σ' := [(0, _), (1, _), (4, _), (5, _), (6, _), (7, _), (8, _), (9, _), (39, _)]) ?_ (imp_covers ⟨rfl, rfl, rfl, rfl, rfl, rfl, rfl, rfl, rfl, trivial⟩)
          refine code_cond_d rfl (fun h4 => ?_) (fun h4 => ?_)
          · skip
            (try simp only [Decidable.not_not] at h4)
            refine code_region ?_
            refine list_cons rfl (op_q (q_move rfl (by decide)) ?_)
            refine list_cons rfl (op_q (q_move rfl (by decide)) ?_)
            refine list_cons rfl (op_q (q_move rfl (by decide)) ?_)
            refine list_cons rfl (op_q (by first | exact q_addI rfl rfl (by decide) (by omega) (by omega) | exact q_ib rfl rfl rfl (by decide)) ?_)
            refine list_cons rfl (op_q (q_move rfl (by decide)) ?_)
            refine list_cons rfl (op_q (q_move rfl (by decide)) ?_)
            refine list_cons rfl (op_q (q_indexAddr_own sl_28 rfl rfl (by omega) (by omega) (by decide)) ?_)
            refine list_cons rfl (op_q (q_load one_3 6 rfl rfl rfl (get_map1 _ 0 _ (by omega)) (by decide)) ?_)
            refine list_cons rfl (op_q (q_indexAddr_own sl_28 rfl rfl (by omega) (by omega) (by decide)) ?_)
            refine list_cons rfl (op_store (one_3).2 8 [8, 40] (by intro t ht; simp only [List.mem_cons, List.not_mem_nil, or_false] at ht; rcases ht with rfl | rfl <;> rfl) (.inl rfl) rfl rfl rfl rfl rfl rfl (by rw [List.length_map, scP_len]; omega) (by decide) rfl ?_)
            refine list_nil ?_
            refine blk_n ?_
            refine hK16 _ ?_; clear hK16 K16
            refine codeT.imp (σ' := [(0, _), (1, _), (4, _), (5, _), (6, _), (7, _), (8, _), (9, _)]) ?_ (imp_covers ⟨rfl, rfl, rfl, rfl, rfl, rfl, rfl, rfl, trivial⟩)
            refine code_region ?_
            refine list_cons rfl (op_q (q_move rfl (by decide)) ?_)
            refine list_cons rfl (op_q (by first | exact q_addI rfl rfl (by decide) (by omega) (by omega) | exact q_ib rfl rfl rfl (by decide)) ?_)
            refine list_cons rfl (op_q (q_assign rfl (by decide)) ?_)
            refine list_nil ?_
            refine then_n ⟨(_, _, _, _), imp_covers ⟨rfl, rfl, rfl, rfl, rfl, rfl, rfl, rfl, trivial⟩, ?_, ?_⟩
            · (try dsimp only)
              refine ⟨by omega, by omega, rfl, ?_⟩
              rw [show (i + 1).toNat = i.toNat + 1 by omega]
              first
              | exact scP_put (by omega) (by omega) (by omega) (by omega)
              | (rw [scP_skip (by omega)]; done)
            · (try dsimp only); omega
          (try simp only [Decidable.not_not] at h4)
          refine code_skip ?_
          refine blk_n ?_
          refine hK16 _ ?_; clear hK16 K16
          refine code_region ?_
          refine list_cons rfl (op_q (q_move rfl (by decide)) ?_)
          refine list_cons rfl (op_q (by first | exact q_addI rfl rfl (by decide) (by omega) (by omega) | exact q_ib rfl rfl rfl (by decide)) ?_)
          refine list_cons rfl (op_q (q_assign rfl (by decide)) ?_)
          refine list_nil ?_
          refine then_n ⟨(_, _, _, _), imp_covers ⟨rfl, rfl, rfl, rfl, rfl, rfl, rfl, rfl, trivial⟩, ?_, ?_⟩
          · (try dsimp only)
            refine ⟨by omega, by omega, rfl, ?_⟩
            rw [show (i + 1).toNat = i.toNat + 1 by omega]
            first
            | exact scP_put (by omega) (by omega) (by omega) (by omega)
            | (rw [scP_skip (by omega)]; done)
          · (try dsimp only); omega
        (try simp only [Decidable.not_not] at h3)
        refine code_exit ?_
        refine then_x ?_; clear hK14 K14
        refine then_x ?_
        refine blk_hit ?_
        refine hK12 _ ?_; clear hK12 K12
        refine code_region ?_
        refine list_cons rfl (op_q (q_move rfl (by decide)) ?_)
        refine list_cons rfl (op_q (q_move rfl (by decide)) ?_)
        refine list_cons rfl (op_buildSlice_own sl_42 rfl (by decide) (by decide) (by decide) rfl ?_)
        refine list_cons rfl (op_append_gen sl_42 (l := 10) (.inl rfl) rfl rfl (l2 := some 51) (.inr ⟨_, _, _, rfl, by decide, rfl⟩) (by first | rfl | (simp; done) | (simp; omega)) (by omega) (by decide) (by decide) (by decide) ?_)
        refine list_cons rfl (op_q (q_assign rfl (by decide)) ?_)
        refine list_nil ?_
        refine blk_n ?_
        refine hK10 _ ?_; clear hK10 K10
        refine codeT.imp (σ' := [(0, _), (1, _), (4, _), (5, _), (6, _), (7, _), (8, _), (9, _)]) ?_ (imp_covers ⟨rfl, rfl, rfl, rfl, rfl, rfl, rfl, rfl, trivial⟩)
        refine code_region ?_
        refine list_cons rfl (op_q (q_move rfl (by decide)) ?_)
        refine list_cons rfl (op_q (by first | exact q_subI rfl rfl (by decide) (by omega) (by omega) | exact q_ib rfl rfl rfl (by decide)) ?_)
        refine list_cons rfl (op_q (q_assign rfl (by decide)) ?_)
        refine list_nil ?_
        refine then_n ⟨(_, _, _, _), imp_covers ⟨rfl, rfl, rfl, rfl, rfl, rfl, trivial⟩, ?_, ?_⟩
        · (try dsimp only)
          have e1 : (k - 1 - (at_ - 1)).toNat = (k - 1 - at_).toNat + 1 := by omega
          have e2 : ((k.toNat : Nat) : Int) - 1 - ((k - 1 - at_).toNat : Nat) = at_ := by omega
          refine ⟨hne, by omega, by omega, by omega, ?_⟩
          rw [e1, sT_succ, e2, ← qR_snoc, scR_len, show i.toNat = (rowW s).length by omega, scP_end]
          first | done | rfl
        · (try dsimp only); omega
    (try simp only [Decidable.not_not] at h2)
    refine code_exit ?_
    refine then_x ?_; clear hK8 K8
    refine then_x ?_
    refine blk_hit ?_
    refine hK6 _ ?_; clear hK6 K6
    refine code_seq (fun K18 hK18 => ?_)
    refine code_region ?_
    refine list_cons rfl (op_q (q_move rfl (by decide)) ?_)
    refine list_cons rfl (op_q (q_assign rfl (by decide)) ?_)
    refine list_nil ?_
    refine hK18 _ ?_; clear hK18 K18
    refine code_ret ?_
    refine ends_ret (cs := []) rfl rfl rfl rfl trivial ?_
    first
      | (have e : s = [] := List.eq_nil_of_length_eq_zero (by omega)
         subst e; rfl)
      | (have e : (k - 1 - at_).toNat = s.length + k.toNat - 1 := by omega
         unfold scW
         rw [e, if_neg hne, sT_len]; done)

theorem spec_l4ChR (a b : List Int) (k n1 n2 : Nat) (ca cb : List PV) (hn1 : n1 = a.length) (hn2 : n2 = b.length) (hca : ca = a.map (.int .i64)) (hcb : cb = b.map (.int .i64)) (ha : a.length = k ∧ ∀ j, 0 ≤ a.getD j 0 ∧ a.getD j 0 ≤ 127) (hb : b.length = k ∧ ∀ j, 0 ≤ b.getD j 0 ∧ b.getD j 0 ≤ 127) (h6 : k ≤ 6) : PCalls Tryd.prog 62 [.sl n1 ca, .sl n2 cb] (· = [.val (.int .i64 (chgK a b k))]) := by
  subst hn1; subst hn2; subst hca; subst hcb
  have := spec_l4Ch6 a b (by omega) (by omega) (fun i _ => ha.2 i) (fun i _ => hb.2 i)
  rw [ha.1] at this
  rw [ha.1]; exact this

set_option maxRecDepth 8000 in
set_option maxHeartbeats 1000000 in
theorem spec_ScrollChanges (s : List UInt8) (k : Int) (hs : s.length ≤ 4611686018427387904) : PCalls Tryd.prog 44 [.str s, .int .i64 k] (· = [.val (.int .i64 (if WrdP s 12 ∧ 1 ≤ k ∧ k ≤ 6 then scV s k.toNat else 0)), .val (.bool (decide (WrdP s 12 ∧ 1 ≤ k ∧ k ≤ 6)))]) := by
  refine pcalls_of_code (n := 47) az Tryd.func44 (by kernel_rfl) rfl rfl (Nat.le_of_ble_eq_true rfl) (by intro t u h; simp [Tryd.f44] at h) ?_
  refine code_seq (fun K1 hK1 => ?_)
  refine code_region ?_
  refine list_cons rfl (op_q (q_assign rfl (by decide)) ?_)
  refine list_cons rfl (op_q (q_assign rfl (by decide)) ?_)
  refine list_nil ?_
  refine hK1 _ ?_; clear hK1 K1
  refine code_seq (fun K2 hK2 => ?_)
  refine code_seq (fun K3 hK3 => ?_)
  refine code_region ?_
  refine list_cons rfl (op_q (q_move rfl (by decide)) ?_)
  refine list_cons rfl (op_call _ (spec_l10Word _ _ (by first | omega | assumption) (by omega) (by omega)) rfl rfl (by decide) (by decide) (by decide) rfl ?_)
  rintro _ rfl
  refine list_cons rfl (op_q (by first | exact q_notd rfl (by decide) | exact q_not rfl (by decide)) ?_)
  refine list_cons rfl (op_q (q_move rfl (by decide)) ?_)
  refine list_guard_d rfl rfl rfl rfl (by decide) rfl (by decide) (fun h1 => ?_) (fun h1 => ?_)
  · simp only [Bool.false_eq_true, if_true, if_false, Decidable.not_not] at h1
    refine id (op_q (q_move rfl (by decide)) ?_)
    refine list_guard_y rfl rfl rfl rfl (by decide) rfl ?_
    refine id (op_call _ (spec_l1In _ _ _) rfl rfl (by decide) (by decide) (by decide) rfl ?_)
    rintro _ rfl
    refine list_guard_y rfl rfl rfl rfl (by decide) rfl ?_
    refine id (op_q (by first | exact q_notd rfl (by decide) | exact q_not rfl (by decide)) ?_)
    refine list_cons rfl (op_q (q_pick rfl rfl (by decide)) ?_)
    refine list_nil ?_
    refine hK3 _ ?_; clear hK3 K3
    refine codeT.imp (σ' := [(0, _), (1, _), (4, _), (5, _), (17, _)]) ?_ (imp_covers ⟨rfl, rfl, rfl, rfl, rfl, trivial⟩)
    refine code_cond_d rfl (fun h2 => ?_) (fun h2 => ?_)
    · skip
      (try simp only [Decidable.not_not] at h2)
      refine code_seq (fun K4 hK4 => ?_)
      refine code_region ?_
      refine list_cons rfl (op_q (q_assign rfl (by decide)) ?_)
      refine list_cons rfl (op_q (q_assign rfl (by decide)) ?_)
      refine list_nil ?_
      refine hK4 _ ?_; clear hK4 K4
      refine code_ret ?_
      refine then_r ?_; clear hK2 K2
      refine ends_ret (cs := []) rfl rfl rfl rfl trivial ?_
      first
        | (have e : ¬ (WrdP s 12 ∧ 1 ≤ k ∧ k ≤ 6) := fun z => absurd z.1 (by assumption)
           simp only [if_neg e, decide_eq_false e]; done)
        | (have e : ¬ (WrdP s 12 ∧ 1 ≤ k ∧ k ≤ 6) := fun z => by omega
           simp only [if_neg e, decide_eq_false e]; done)
        | (have e : i.toNat = (scW s k.toNat).length := by omega
           simp only [if_pos hW, decide_eq_true hW, e, scV]; done)
    (try simp only [Decidable.not_not] at h2)
    refine code_skip ?_
    refine hK2 _ ?_; clear hK2 K2
    refine code_seq (fun K5 hK5 => ?_)
    refine any_start fun ob1_0 => ?_
    refine any_op (rd := [1]) ob1_0 rfl rfl rfl (anyT_quiet [(1, _)] ⟨rfl, trivial⟩ rfl (q_move rfl (by decide))) (fun ob1_1 => ?_)
    refine any_op (rd := [18]) ob1_1 rfl rfl rfl (fun σ hag hfr => by have e18 : σ.at 18 = some _ := (hag 18 (by decide)).trans rfl; exact op_makeI sl_28 (by first | rfl | assumption) (by first | rfl | assumption) (by omega) (by omega) (by decide) (by decide) (fr1000 hfr (by decide)) rfl) (fun ob1_2 => ?_)
    refine any_op (rd := [0]) ob1_2 rfl rfl rfl (anyT_quiet [(0, _)] ⟨rfl, trivial⟩ rfl (q_move rfl (by decide))) (fun ob1_3 => ?_)
    refine any_op (rd := [1]) ob1_3 rfl rfl rfl (anyT_quiet [(1, _)] ⟨rfl, trivial⟩ rfl (q_move rfl (by decide))) (fun ob1_4 => ?_)
    refine any_op (rd := [20, 21]) ob1_4 rfl rfl rfl (fun σ hag hfr => by have e20 : σ.at 20 = some _ := (hag 20 (by decide)).trans rfl; have e21 : σ.at 21 = some _ := (hag 21 (by decide)).trans rfl; exact op_call _ (spec_l10Scroll s k (show WrdP s 12 by assumption).2 (by have := (show WrdP s 12 by assumption).1; omega) (by omega)) (evs_cons e20 (evs_cons e21 evs_nil)) rfl (by decide) (by decide) (by decide) hfr (fun rs hR => by subst hR; rfl)) (fun ob1_5 => ?_)
    refine any_op (rd := []) ob1_5 rfl rfl rfl (anyT_quiet [] trivial rfl (q_assign rfl (by decide))) (fun ob1_6 => ?_)
    refine any_end [[], [0], [], [], [2, 3], [2, 3, 4], [0, 1, 2, 3, 4, 5], [0, 1, 2, 3, 4, 5, 6]] ob1_6 (by kernel_rfl) (Nat.le_of_ble_eq_true rfl) (by decide) (by decide) (by kernel_rfl) (by kernel_rfl) (by kernel_rfl) (by kernel_rfl) (by kernel_rfl) ?_
    clear ob1_0 ob1_1 ob1_2 ob1_3 ob1_4 ob1_5 ob1_6
    refine listT.imp (σ' := [(0, _), (1, _), (4, _), (5, _), (6, _), (17, _), (18, _), (19, _), (20, _), (21, _), (22, _)]) ?_ (imp_covers ⟨rfl, rfl, rfl, rfl, rfl, rfl, rfl, rfl, rfl, rfl, rfl, trivial⟩)
    refine list_cons rfl (op_q (q_assign rfl (by decide)) ?_)
    refine list_cons rfl (op_q (q_assign rfl (by decide)) ?_)
    refine list_nil ?_
    refine hK5 _ ?_; clear hK5 K5
    refine codeT.imp (σ' := [(0, _), (1, _), (4, _), (5, _), (6, _), (7, _), (8, _)]) ?_ (imp_covers ⟨rfl, rfl, rfl, rfl, rfl, rfl, rfl, trivial⟩)
    refine code_seq (fun K6 hK6 => ?_)
    refine code_seq (fun K7 hK7 => ?_)
    refine code_region ?_
    refine list_cons rfl (op_q (q_assign rfl (by decide)) ?_)
    refine list_nil ?_
    refine hK7 _ ?_; clear hK7 K7
    refine code_block ?_
    refine codeT.imp ?_ (imp_reb (q := 19) (l := 22) (by decide) (by decide) (by decide))
    refine code_loop (X := Int × Bool × Int × PV × Int) (fun x => [(0, .val (.str s)), (1, .val (.int .i64 k)), (4, .val (.int .i64 x.1)), (5, .val (.bool x.2.1)), (6, .val (.int .i64 x.2.2.1)), (7, .bor 22 x.2.2.2.1), (8, .own 22 28 1 (scW s k.toNat).length (qR (scW s k.toNat))), (9, .val (.int .i64 x.2.2.2.2))]) (fun x => (WrdP s 12 ∧ 1 ≤ k ∧ k ≤ 6) ∧ 0 ≤ x.2.2.2.2 ∧ x.2.2.2.2 ≤ (scW s k.toNat).length ∧ x.2.2.1 = scS (scW s k.toNat) (zeK k.toNat) k.toNat x.2.2.2.2.toNat ∧ x.2.2.2.1 = .sl k.toNat ((prv (scW s k.toNat) (zeK k.toNat) x.2.2.2.2.toNat).map (.int .i64))) (fun x => ((scW s k.toNat).length - x.2.2.2.2).toNat) (_, _, _, _, _) (imp_covers ⟨rfl, rfl, rfl, rfl, rfl, rfl, rfl, rfl, trivial⟩) ?_ ?_
    · (try dsimp only)
      exact ⟨⟨by assumption, by omega, by omega⟩, by omega, by omega, rfl, by rw [zeK_map]; rfl⟩
    · intro x hI
      obtain ⟨t4, t5, sum, last_p, i⟩ := x
      replace hI : (WrdP s 12 ∧ 1 ≤ k ∧ k ≤ 6) ∧ 0 ≤ i ∧ i ≤ (scW s k.toNat).length ∧ sum = scS (scW s k.toNat) (zeK k.toNat) k.toNat i.toNat ∧ last_p = .sl k.toNat ((prv (scW s k.toNat) (zeK k.toNat) i.toNat).map (.int .i64)) := hI
      show codeT _ _ _ [(0, .val (.str s)), (1, .val (.int .i64 k)), (4, .val (.int .i64 t4)), (5, .val (.bool t5)), (6, .val (.int .i64 sum)), (7, .bor 22 last_p), (8, .own 22 28 1 (scW s k.toNat).length (qR (scW s k.toNat))), (9, .val (.int .i64 i))] _
      obtain ⟨hW, i1, i2, rfl, rfl⟩ := hI
      have hk6 := hW.2
      have hl12 := hW.1.1
      have hp1 := prv_row (s := s) (k := k.toNat) (i := i.toNat) (by omega)
      have hsl := scS_le (scW s k.toNat) (zeK k.toNat) k.toNat i.toNat
      have hsw := scW_len s k.toNat
      have hsb : scS (scW s k.toNat) (zeK k.toNat) k.toNat i.toNat ≤ 1000000 := by
            refine Int.le_trans hsl.2 ?_
            have h1 : 7 * ((k.toNat : Nat) : Int) * ((i.toNat : Nat) : Int) ≤ 7 * 6 * 18 := Int.mul_le_mul (by omega) (by omega) (by omega) (by omega)
            omega
      have hc1 := chgK_le (prv (scW s k.toNat) (zeK k.toNat) i.toNat) ((scW s k.toNat).getD i.toNat []) k.toNat
      have hc2 := chgK_le (prv (scW s k.toNat) (zeK k.toNat) i.toNat) (zeK k.toNat) k.toNat
      refine code_seq (fun K8 hK8 => ?_)
      refine code_seq (fun K9 hK9 => ?_)
      refine code_region ?_
      refine list_cons rfl (op_q (q_move rfl (by decide)) ?_)
      refine list_cons rfl (op_q (q_move rfl (by decide)) ?_)
      refine list_cons rfl (op_q (q_len_sl Tryd.underlying42 rfl rfl (by decide)) ?_)
      refine list_cons rfl (op_q (q_lt rfl rfl (by decide)) ?_)
      refine list_nil ?_
      refine hK9 _ ?_; clear hK9 K9
      refine code_cond_d rfl (fun h3 => ?_) (fun h3 => ?_)
      · skip
        (try simp only [Decidable.not_not] at h3)
        refine code_skip ?_
        refine hK8 _ ?_; clear hK8 K8
        refine code_seq (fun K10 hK10 => ?_)
        refine code_block ?_
        refine code_seq (fun K11 hK11 => ?_)
        refine code_region ?_
        refine list_cons rfl (op_q (q_move rfl (by decide)) ?_)
        refine list_cons rfl (op_q (q_move rfl (by decide)) ?_)
        refine list_cons rfl (op_q (q_move rfl (by decide)) ?_)
        refine list_cons rfl (op_q (q_move rfl (by decide)) ?_)
        refine list_cons rfl (op_q (q_indexAddr_own sl_42 rfl rfl (by omega) (by omega) (by decide)) ?_)
        refine list_cons rfl (op_q (q_load one_28 8 rfl rfl rfl (by first | rfl | exact get_map1 _ [] _ (by first | omega | (simp; omega))) (by decide)) ?_)
        refine list_cons rfl (op_call _ (spec_l4ChR (prv (scW s k.toNat) (zeK k.toNat) i.toNat) ((scW s k.toNat).getD i.toNat []) k.toNat _ _ _ _ hp1.1.symm rfl rfl rfl hp1 (scW_row (by omega)) (by omega)) rfl rfl (by decide) (by decide) (by decide) rfl ?_)
        rintro _ rfl
        refine list_cons rfl (op_q (by first | exact q_addI rfl rfl (by decide) (by omega) (by omega) | exact q_ib rfl rfl rfl (by decide)) ?_)
        refine list_cons rfl (op_q (q_assign rfl (by decide)) ?_)
        refine list_nil ?_
        refine hK11 _ ?_; clear hK11 K11
        refine codeT.imp (σ' := [(0, _), (1, _), (4, _), (5, _), (6, _), (7, _), (8, _), (9, _)]) ?_ (imp_covers ⟨rfl, rfl, rfl, rfl, rfl, rfl, rfl, rfl, trivial⟩)
        refine code_region ?_
        refine list_cons rfl (op_q (q_move rfl (by decide)) ?_)
        refine list_cons rfl (op_q (q_move rfl (by decide)) ?_)
        refine list_cons rfl (op_q (q_indexAddr_own sl_42 rfl rfl (by omega) (by omega) (by decide)) ?_)
        refine list_cons rfl (op_q (q_load one_28 8 rfl rfl rfl (by first | rfl | exact get_map1 _ [] _ (by first | omega | (simp; omega))) (by decide)) ?_)
        refine list_cons rfl (op_q (q_assign rfl (by decide)) ?_)
        refine list_nil ?_
        refine blk_n ?_
        refine hK10 _ ?_; clear hK10 K10
        refine code_region ?_
        refine list_cons rfl (op_q (q_move rfl (by decide)) ?_)
        refine list_cons rfl (op_q (by first | exact q_addI rfl rfl (by decide) (by omega) (by omega) | exact q_ib rfl rfl rfl (by decide)) ?_)
        refine list_cons rfl (op_q (q_assign rfl (by decide)) ?_)
        refine list_nil ?_
        refine then_n ⟨(_, _, _, _, _), imp_covers ⟨rfl, rfl, rfl, rfl, rfl, rfl, rfl, rfl, trivial⟩, ?_, ?_⟩
        · (try dsimp only)
          refine ⟨hW, by omega, by omega, ?_, ?_⟩
          · rw [show (i + 1).toNat = i.toNat + 1 by omega]; rfl
          · rw [show (i + 1).toNat = i.toNat + 1 by omega, prv_next, (scW_row (by omega)).1]
        · (try dsimp only); omega
      (try simp only [Decidable.not_not] at h3)
      refine code_exit ?_
      refine then_x ?_; clear hK8 K8
      refine then_x ?_
      refine blk_hit ?_
      refine hK6 _ ?_; clear hK6 K6
      refine code_seq (fun K12 hK12 => ?_)
      refine code_region ?_
      refine list_cons rfl (op_q (q_move rfl (by decide)) ?_)
      refine list_cons rfl (op_q (q_move rfl (by decide)) ?_)
      refine list_cons rfl (op_q (q_move rfl (by decide)) ?_)
      refine list_cons rfl (op_makeI sl_28 rfl rfl (by omega) (by omega) (by decide) (by decide) rfl ?_)
      refine list_cons rfl (op_call _ (spec_l4ChR (prv (scW s k.toNat) (zeK k.toNat) i.toNat) (zeK k.toNat) k.toNat _ _ _ _ hp1.1.symm (zeK_len _).symm rfl (zeK_map _) hp1 ⟨zeK_len _, zeK_cell _⟩ (by omega)) rfl rfl (by decide) (by decide) (by decide) rfl ?_)
      rintro _ rfl
      refine list_cons rfl (op_q (by first | exact q_addI rfl rfl (by decide) (by omega) (by omega) | exact q_ib rfl rfl rfl (by decide)) ?_)
      refine list_cons rfl (op_q (q_assign rfl (by decide)) ?_)
      refine list_cons rfl (op_q (q_assign rfl (by decide)) ?_)
      refine list_nil ?_
      refine hK12 _ ?_; clear hK12 K12
      refine codeT.imp (σ' := [(0, _), (1, _), (4, _), (5, _), (6, _), (7, _), (8, _), (9, _)]) ?_ (imp_covers ⟨rfl, rfl, rfl, rfl, rfl, rfl, rfl, rfl, trivial⟩)
      refine code_ret ?_
      refine ends_ret (cs := []) rfl rfl rfl rfl trivial ?_
      first
        | (have e : ¬ (WrdP s 12 ∧ 1 ≤ k ∧ k ≤ 6) := fun z => absurd z.1 (by assumption)
           simp only [if_neg e, decide_eq_false e]; done)
        | (have e : ¬ (WrdP s 12 ∧ 1 ≤ k ∧ k ≤ 6) := fun z => by omega
           simp only [if_neg e, decide_eq_false e]; done)
        | (have e : i.toNat = (scW s k.toNat).length := by omega
           simp only [if_pos hW, decide_eq_true hW, e, scV]; done)
  simp only [Bool.false_eq_true, if_true, if_false, Decidable.not_not] at h1
  refine list_guard_nT rfl rfl rfl rfl (by decide) (by decide) ?_
  refine list_guard_nT rfl rfl rfl rfl (by decide) (by decide) ?_
  refine list_cons rfl (op_q (q_pick rfl rfl (by decide)) ?_)
  refine list_nil ?_
  refine hK3 _ ?_; clear hK3 K3
  refine code_cond_t rfl ?_
  refine code_seq (fun K13 hK13 => ?_)
  refine code_region ?_
  refine list_cons rfl (op_q (q_assign rfl (by decide)) ?_)
  refine list_cons rfl (op_q (q_assign rfl (by decide)) ?_)
  refine list_nil ?_
  refine hK13 _ ?_; clear hK13 K13
  refine codeT.imp (σ' := [(0, _), (1, _), (4, _), (5, _)]) ?_ (imp_covers ⟨rfl, rfl, rfl, rfl, trivial⟩)
  refine code_ret ?_
  refine then_r ?_; clear hK2 K2
  refine ends_ret (cs := []) rfl rfl rfl rfl trivial ?_
  first
    | (have e : ¬ (WrdP s 12 ∧ 1 ≤ k ∧ k ≤ 6) := fun z => absurd z.1 (by assumption)
       simp only [if_neg e, decide_eq_false e]; done)
    | (have e : ¬ (WrdP s 12 ∧ 1 ≤ k ∧ k ≤ 6) := fun z => by omega
       simp only [if_neg e, decide_eq_false e]; done)
    | (have e : i.toNat = (scW s k.toNat).length := by omega
       simp only [if_pos hW, decide_eq_true hW, e, scV]; done)

end Go.Proofs.YtgpgjaebhfhjoaaDoor
