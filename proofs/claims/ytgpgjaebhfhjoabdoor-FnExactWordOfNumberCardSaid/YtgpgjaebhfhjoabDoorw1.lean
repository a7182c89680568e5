/- Contracts of functions, walked over the pure layer; each says for which arguments. -/
import Derived.Test.YtgpgjaebhfhjoabDoorw1Ty
import Derived.Test.YtgpgjaebhfhjoabDoorTf
namespace Go.Proofs.YtgpgjaebhfhjoabDoor
open Go.RowKit w1Ty
set_option linter.unusedVariables false
set_option linter.unusedSimpArgs false

theorem list_eq_ofI {α : Type} (d : α) (a b : List α) (h : a.length = b.length) (k : ∀ j, j < a.length → a.getD j d = b.getD j d) : a = b := by
  apply List.ext_getElem h
  intro j h1 h2
  have := k j h1
  simpa [h1, h2] using this
theorem take_snocI {α : Type} (d : α) (l : List α) (k : Nat) (h : k < l.length) : l.take (k + 1) = l.take k ++ [l.getD k d] := by
  rw [List.take_succ_eq_append_getElem h]; simp [h]
theorem fill_mapI {α : Type} (f : α → PV) (d : α) (a : List α) {k : Nat} (h : k < a.length) : putAt ((a.take k ++ List.replicate (a.length - k) d).map f) (k * 1) [f (a.getD k d)] = (a.take (k + 1) ++ List.replicate (a.length - (k + 1)) d).map f := by
  rw [put_map1 f _ (by simp; omega), take_snocI d a k h, List.set_append_right _ _ (by simp; omega), show k - (a.take k).length = 0 by simp; omega, show a.length - k = a.length - (k + 1) + 1 by omega, List.replicate_succ, List.set_cons_zero]
  simp
theorem list_ne_ofI {α : Type} (d : α) {a b : List α} (j : Nat) (k : a.getD j d ≠ b.getD j d) : a ≠ b := fun h => k (by rw [h])
def markI (n : Nat) (k : Int) : List Int := (List.range n).map fun (j : Nat) => k + j
theorem markI_len (n : Nat) (k : Int) : (markI n k).length = n := by simp [markI]
theorem markI_get (n : Nat) (k : Int) {j : Nat} (h : j < n) : (markI n k).getD j 0 = k + j := by
  simp [markI, h]
theorem markI_fill (l : List Int) (k : Int) {j : Nat} (h : j < l.length) : putAt ((markI j k ++ l.drop j).map (.int .i64)) (j * 1) [PV.int .i64 (k + j)] = (markI (j + 1) k ++ l.drop (j + 1)).map (.int .i64) := by
  rw [put_map1 (PV.int .i64) _ (by simp [markI]; omega), List.set_append_right _ _ (by simp [markI]), show j - (markI j k).length = 0 by simp [markI], List.drop_eq_getElem_cons h, List.set_cons_zero]
  simp [markI, List.range_succ]

def digT : List Int := [63, 6, 91, 79, 102, 109, 125, 7, 127, 111]
def digOf (c : Int) : Int := if c = 63 then 0 else if c = 6 then 1 else if c = 91 then 2 else if c = 79 then 3 else if c = 102 then 4 else if c = 109 then 5 else if c = 125 then 6 else if c = 7 then 7 else if c = 127 then 8 else if c = 111 then 9 else -1
theorem digOf_at {d : Int} {c : Int} (h0 : 0 ≤ d) (h1 : d ≤ 9) (h : digT.getD d.toNat 0 = c) : digOf c = d := by
  have : d = 0 ∨ d = 1 ∨ d = 2 ∨ d = 3 ∨ d = 4 ∨ d = 5 ∨ d = 6 ∨ d = 7 ∨ d = 8 ∨ d = 9 := by omega
  subst h
  rcases this with rfl | rfl | rfl | rfl | rfl | rfl | rfl | rfl | rfl | rfl <;> rfl
theorem digOf_none {c : Int} (h : ∀ j : Nat, j < 10 → digT.getD j 0 ≠ c) : digOf c = -1 := by
  have k0 := h 0 (by omega); have k1 := h 1 (by omega); have k2 := h 2 (by omega); have k3 := h 3 (by omega); have k4 := h 4 (by omega)
  have k5 := h 5 (by omega); have k6 := h 6 (by omega); have k7 := h 7 (by omega); have k8 := h 8 (by omega); have k9 := h 9 (by omega)
  simp [digT] at k0 k1 k2 k3 k4 k5 k6 k7 k8 k9
  unfold digOf
  repeat rw [if_neg (by omega)]
theorem digOf_le (c : Int) : -1 ≤ digOf c ∧ digOf c ≤ 9 := by
  unfold digOf
  repeat' split
  all_goals omega
def RowP (l : List Int) : Prop := l.length ≤ 6 ∧ ∀ x ∈ l, 0 ≤ x ∧ x ≤ 127
instance (l : List Int) : Decidable (RowP l) := by unfold RowP; infer_instance
theorem RowP.at {l : List Int} (h : RowP l) {j : Nat} (hj : j < l.length) : 0 ≤ l.getD j 0 ∧ l.getD j 0 ≤ 127 := by
  have : l.getD j 0 = l[j] := by simp [hj]
  rw [this]; exact h.2 _ (List.getElem_mem hj)
theorem RowP.of {l : List Int} (h0 : l.length ≤ 6) (h : ∀ j, j < l.length → 0 ≤ l.getD j 0 ∧ l.getD j 0 ≤ 127) : RowP l := ⟨h0, fun x hx => by
  obtain ⟨j, hj, rfl⟩ := List.getElem_of_mem hx
  have := h j hj
  simpa [hj] using this⟩
def cnt7 (n : Nat) : Nat := n % 2 + n / 2 % 2 + n / 4 % 2 + n / 8 % 2 + n / 16 % 2 + n / 32 % 2 + n / 64 % 2
def turn7 (n : Nat) : Nat := n / 8 % 2 + 2 * (n / 16 % 2) + 4 * (n / 32 % 2) + 8 * (n % 2) + 16 * (n / 2 % 2) + 32 * (n / 4 % 2) + 64 * (n / 64 % 2)
def mir7 (n : Nat) : Nat := n % 2 + 2 * (n / 32 % 2) + 4 * (n / 16 % 2) + 8 * (n / 8 % 2) + 16 * (n / 4 % 2) + 32 * (n / 2 % 2) + 64 * (n / 64 % 2)
def bars7 (n : Nat) : List UInt8 := ((List.range 7).filter (fun k => Nat.beq (n / 2 ^ k % 2) 1)).map fun k => UInt8.ofNat (97 + k)

set_option maxRecDepth 4000 in
theorem spec_l1In (x a b : Int) : PCalls Tryd.prog 39 [.int .i64 x, .int .i64 a, .int .i64 b] (· = [.val (.bool (decide (a ≤ x ∧ x ≤ b)))]) := by
  refine pcalls_of_code (n := 15) az Tryd.func39 (by kernel_rfl) rfl rfl (Nat.le_of_ble_eq_true rfl) (by intro t u h; simp [Tryd.f39] at h) ?_
  refine code_seq (fun K1 hK1 => ?_)
  refine code_region ?_
  refine list_cons rfl (op_q (q_assign rfl (by decide)) ?_)
  refine list_nil ?_
  refine hK1 _ ?_; clear hK1 K1
  refine code_seq (fun K2 hK2 => ?_)
  refine code_region ?_
  refine list_cons rfl (op_q (q_move rfl (by decide)) ?_)
  refine list_cons rfl (op_q (q_move rfl (by decide)) ?_)
  refine list_cons rfl (op_q (q_ge rfl rfl (by decide)) ?_)
  refine list_cons rfl (op_q (q_move rfl (by decide)) ?_)
  refine list_guard_d rfl rfl rfl rfl (by decide) rfl (by decide) (fun h1 => ?_) (fun h1 => ?_)
  · simp only [Bool.false_eq_true, if_true, if_false, Decidable.not_not] at h1
    refine id (op_q (q_move rfl (by decide)) ?_)
    refine list_guard_y rfl rfl rfl rfl (by decide) rfl ?_
    refine id (op_q (q_move rfl (by decide)) ?_)
    refine list_guard_y rfl rfl rfl rfl (by decide) rfl ?_
    refine id (op_q (q_le rfl rfl (by decide)) ?_)
    refine list_cons rfl (op_q (q_pick rfl rfl (by decide)) ?_)
    refine list_cons rfl (op_q (q_assign rfl (by decide)) ?_)
    refine list_nil ?_
    refine hK2 _ ?_; clear hK2 K2
    refine codeT.imp (σ' := [(0, _), (1, _), (2, _), (6, _)]) ?_ (imp_covers ⟨rfl, rfl, rfl, rfl, trivial⟩)
    refine code_ret ?_
    refine ends_ret (cs := []) rfl rfl rfl rfl trivial ?_
    simp [h1]
  simp only [Bool.false_eq_true, if_true, if_false, Decidable.not_not] at h1
  refine list_guard_n rfl rfl rfl rfl (by decide) rfl ?_
  refine list_guard_n rfl rfl rfl rfl (by decide) rfl ?_
  refine list_cons rfl (op_q (q_pick rfl rfl (by decide)) ?_)
  refine list_cons rfl (op_q (q_assign rfl (by decide)) ?_)
  refine list_nil ?_
  refine hK2 _ ?_; clear hK2 K2
  refine code_ret ?_
  refine ends_ret (cs := []) rfl rfl rfl rfl trivial ?_
  simp [h1]

set_option maxRecDepth 100000 in
theorem spec_l2Digit (c : Int) (h0 : 0 ≤ c) (h1 : c ≤ 9) : PCalls Tryd.prog 76 [.int .i64 c] (· = [.val (.int .i64 (digT.getD c.toNat 0))]) := by
  have h := below_int (p := fun i => oneInt (crun Tf.tf noExt 200 6 76 [.int .i64 (Int.ofNat i)]) (digT.getD i 0)) (k := 10) (by kernel_rfl) h0 (by omega)
  have e : Int.ofNat c.toNat = c := Int.toNat_of_nonneg h0
  rw [e] at h
  exact pcalls_run Tf.tf (oneInt_ok h)

set_option maxRecDepth 100000 in
theorem spec_l2Turn (c : Int) (h0 : 0 ≤ c) (h1 : c ≤ 127) : PCalls Tryd.prog 75 [.int .i64 c] (· = [.val (.int .i64 (((turn7 c.toNat : Nat) : Int)))]) := by
  have h := below_int (p := fun i => oneInt (crun Tf.tf noExt 200 6 75 [.int .i64 (Int.ofNat i)]) (((turn7 i : Nat) : Int))) (k := 128) (by kernel_rfl) h0 (by omega)
  have e : Int.ofNat c.toNat = c := Int.toNat_of_nonneg h0
  rw [e] at h
  exact pcalls_run Tf.tf (oneInt_ok h)

theorem foldl_take {α β : Type} (f : β → α → β) (d : α) (l : List α) (b : β) {k : Nat} (h : k < l.length) : (l.take (k + 1)).foldl f b = f ((l.take k).foldl f b) (l.getD k d) := by
  rw [take_snocI d l k h, List.foldl_append]; rfl
theorem map_take {α β : Type} (f : α → β) (d : α) (l : List α) {k : Nat} (h : k < l.length) : (l.take (k + 1)).map f = (l.take k).map f ++ [f (l.getD k d)] := by
  rw [take_snocI d l k h, List.map_append]; rfl
theorem rev_drop {α : Type} (d : α) (l : List α) {k : Nat} (h : k < l.length) : (l.drop k).reverse = (l.drop (k + 1)).reverse ++ [l.getD k d] := by
  rw [List.drop_eq_getElem_cons h, List.reverse_cons]; simp [h]
theorem xor7 {a b : Int} (ha : 0 ≤ a ∧ a ≤ 127) (hb : 0 ≤ b ∧ b ≤ 127) : ((a.toNat ^^^ b.toNat : Nat) : Int) ≤ 127 := by
  have := @Nat.xor_lt_two_pow a.toNat b.toNat 7 (by omega) (by omega)
  omega
theorem cnt7_le (n : Nat) : cnt7 n ≤ 7 := by unfold cnt7; omega
theorem turn7_le (n : Nat) : turn7 n ≤ 127 := by unfold turn7; omega
theorem mir7_le (n : Nat) : mir7 n ≤ 127 := by unfold mir7; omega
def turnC (x : Int) : Int := ((turn7 x.toNat : Nat) : Int)
def mirC (x : Int) : Int := ((mir7 x.toNat : Nat) : Int)
theorem turnC_cell (x : Int) : 0 ≤ turnC x ∧ turnC x ≤ 127 := by have := turn7_le x.toNat; unfold turnC; omega
theorem mirC_cell (x : Int) : 0 ≤ mirC x ∧ mirC x ≤ 127 := by have := mir7_le x.toNat; unfold mirC; omega
def turnL (l : List Int) : List Int := l.reverse.map turnC
def mirL (l : List Int) : List Int := l.reverse.map mirC
theorem turnL_len (l : List Int) : (turnL l).length = l.length := by simp [turnL]
theorem mirL_len (l : List Int) : (mirL l).length = l.length := by simp [mirL]
/-- The row of a number. -/
def rowN (n : Nat) : List Int := if h : n < 10 then [digT.getD n 0] else rowN (n / 10) ++ [digT.getD (n % 10) 0]
termination_by n
decreasing_by omega
theorem rowN_lt {n : Nat} (h : n < 10) : rowN n = [digT.getD n 0] := by rw [rowN, dif_pos h]
theorem rowN_ge {n : Nat} (h : ¬ n < 10) : rowN n = rowN (n / 10) ++ [digT.getD (n % 10) 0] := by rw [rowN, dif_neg h]
/-- What of the row stands ahead of its last cell. -/
def rowP (n : Nat) : List Int := if n < 10 then [] else rowN (n / 10)
theorem rowP_cat (n : Nat) : rowN n = rowP n ++ [digT.getD (n % 10) 0] := by
  unfold rowP
  by_cases h : n < 10
  · rw [if_pos h, rowN_lt h, Nat.mod_eq_of_lt h]; rfl
  · rw [if_neg h, rowN_ge h]
theorem rowN_len : ∀ (k n : Nat), 1 ≤ k → n < 10 ^ k → (rowN n).length ≤ k ∧ 1 ≤ (rowN n).length
  | 0, n, h, _ => by omega
  | k + 1, n, _, h => by
    by_cases hn : n < 10
    · rw [rowN_lt hn]; simp
    · rw [rowN_ge hn]
      have h1 : 1 ≤ k := by
        rcases Nat.eq_zero_or_pos k with e | e
        · subst e; simp at h; omega
        · exact e
      have h2 : n / 10 < 10 ^ k := by rw [Nat.pow_succ] at h; omega
      have := rowN_len k (n / 10) h1 h2
      simp; omega
theorem digT_cell (n : Nat) : 0 ≤ digT.getD n 0 ∧ digT.getD n 0 ≤ 127 := by
  by_cases h : n < 10
  · have : n = 0 ∨ n = 1 ∨ n = 2 ∨ n = 3 ∨ n = 4 ∨ n = 5 ∨ n = 6 ∨ n = 7 ∨ n = 8 ∨ n = 9 := by omega
    rcases this with rfl | rfl | rfl | rfl | rfl | rfl | rfl | rfl | rfl | rfl <;> decide
  · have : digT.getD n 0 = 0 := by unfold List.getD; rw [List.getElem?_eq_none (by simp [digT]; omega)]; rfl
    rw [this]; omega
theorem rowN_cells : ∀ (k n : Nat), n < k → ∀ x ∈ rowN n, 0 ≤ x ∧ x ≤ 127
  | 0, n, h => by omega
  | k + 1, n, h => by
    intro x hx
    by_cases hn : n < 10
    · rw [rowN_lt hn] at hx; simp only [List.mem_singleton] at hx; subst hx; exact digT_cell _
    · rw [rowN_ge hn] at hx
      rcases List.mem_append.1 hx with hx | hx
      · exact rowN_cells k (n / 10) (by omega) x hx
      · simp only [List.mem_singleton] at hx; subst hx; exact digT_cell _
theorem rowN_row {n : Nat} (h : n ≤ 999999) : RowP (rowN n) := ⟨(rowN_len 6 n (by omega) (by omega)).1, rowN_cells (n + 1) n (by omega)⟩
def DigsP (l : List Int) : Prop := ∀ x ∈ l, 0 ≤ digOf x
instance (l : List Int) : Decidable (DigsP l) := by unfold DigsP; infer_instance
def numF (l : List Int) : Int := l.foldl (fun n x => 10 * n + digOf x) 0
theorem DigsP.at {l : List Int} (h : DigsP l) {j : Nat} (hj : j < l.length) : 0 ≤ digOf (l.getD j 0) := by
  have : l.getD j 0 = l[j] := by simp [hj]
  rw [this]; exact h _ (List.getElem_mem hj)
theorem DigsP.of {l : List Int} (h : ∀ j, j < l.length → 0 ≤ digOf (l.getD j 0)) : DigsP l := fun x hx => by
  obtain ⟨j, hj, rfl⟩ := List.getElem_of_mem hx
  have := h j hj
  simpa [hj] using this
theorem pow10_le {i : Nat} (h : i ≤ 6) : 10 ^ i ≤ 1000000 := Nat.pow_le_pow_right (n := 10) (by omega) h
def litF (l : List Int) : Int := l.foldl (fun n x => n + ((cnt7 x.toNat : Nat) : Int)) 0
def cntAlike : Nat → Nat
  | 0 => if turnL (rowN 0) = rowN 0 then 1 else 0
  | k + 1 => cntAlike k + if turnL (rowN (k + 1)) = rowN (k + 1) then 1 else 0
def alikeTo (k : Nat) : Nat := ((List.range k).filter fun j => turnL (rowN j) = rowN j).length
theorem alikeTo_succ (k : Nat) : alikeTo (k + 1) = alikeTo k + if turnL (rowN k) = rowN k then 1 else 0 := by
  unfold alikeTo
  rw [List.range_succ, List.filter_append, List.length_append]
  by_cases h : turnL (rowN k) = rowN k <;> simp [h]
theorem alikeTo_le (k : Nat) : alikeTo k ≤ k := by
  have := List.length_filter_le (fun j => decide (turnL (rowN j) = rowN j)) (List.range k)
  simpa [alikeTo] using this

set_option maxRecDepth 4000 in
theorem spec_l2RowOf (n : Int) (h0 : 0 ≤ n) (h1 : n ≤ 999999) : PCalls Tryd.prog 42 [.int .i64 n] (· = [.own 0 3 1 (rowN n.toNat).length ((rowN n.toNat).map (.int .i64))]) := by
  refine pcalls_of_code (n := 19) az Tryd.func42 (by kernel_rfl) rfl rfl (Nat.le_of_ble_eq_true rfl) (by intro t u h; simp [Tryd.f42] at h) ?_
  have hlen := (rowN_len 6 n.toNat (by omega) (by omega)).1
  refine code_seq (fun K1 hK1 => ?_)
  refine code_region ?_
  refine list_cons rfl (op_q (q_assign rfl (by decide)) ?_)
  refine list_nil ?_
  refine hK1 _ ?_; clear hK1 K1
  refine code_seq (fun K2 hK2 => ?_)
  refine code_region ?_
  refine list_cons rfl (op_q (q_move rfl (by decide)) ?_)
  refine list_cons rfl (op_q (by first | exact q_remI rfl rfl (by decide) (by omega) (by omega) | exact q_rem rfl rfl (by omega) (by decide)) ?_)
  refine list_cons rfl (op_call _ (spec_l2Digit _ (by omega) (by omega)) rfl rfl (by decide) (by decide) (by decide) rfl ?_)
  rintro _ rfl
  refine list_cons rfl (op_buildSlice sl_36 (parts := [(0, .tmp 6)]) rfl rfl rfl (by decide) (by decide) (by decide) rfl ?_)
  refine list_cons rfl (op_q (q_assign rfl (by decide)) ?_)
  refine list_nil ?_
  refine hK2 _ ?_; clear hK2 K2
  refine codeT.imp (σ' := [(0, _), (2, _), (3, _)]) ?_ (imp_covers ⟨rfl, rfl, rfl, trivial⟩)
  refine code_seq (fun K3 hK3 => ?_)
  refine code_block ?_
  refine code_loop (X := Int × PV × Nat × List PV) (fun x => [(0, .val (.int .i64 x.1)), (2, .val x.2.1), (3, .own 7 3 1 x.2.2.1 x.2.2.2)]) (fun x => 0 ≤ x.1 ∧ x.1 ≤ 999999 ∧ ∃ l : List Int, x.2.2.1 = l.length ∧ x.2.2.2 = l.map (.int .i64) ∧ rowP x.1.toNat ++ l = rowN n.toNat) (fun x => x.1.toNat) (_, _, _, _) (imp_covers ⟨rfl, rfl, rfl, trivial⟩) ?_ ?_
  · (try dsimp only)
    refine ⟨by omega, by omega, [digT.getD (n % 10).toNat 0], rfl, rfl, ?_⟩
    rw [rowP_cat n.toNat, show (n % 10).toNat = n.toNat % 10 by omega]
  · intro x hI
    obtain ⟨n_, t2_p, out_n, out_c⟩ := x
    replace hI : 0 ≤ n_ ∧ n_ ≤ 999999 ∧ ∃ l : List Int, out_n = l.length ∧ out_c = l.map (.int .i64) ∧ rowP n_.toNat ++ l = rowN n.toNat := hI
    show codeT _ _ _ [(0, .val (.int .i64 n_)), (2, .val t2_p), (3, .own 7 3 1 out_n out_c)] _
    obtain ⟨i1, i2, l, rfl, rfl, i3⟩ := hI
    have hlen2 : l.length ≤ 6 := by have := congrArg List.length i3; simp at this; omega
    refine code_seq (fun K4 hK4 => ?_)
    refine code_seq (fun K5 hK5 => ?_)
    refine code_region ?_
    refine list_cons rfl (op_q (q_move rfl (by decide)) ?_)
    refine list_cons rfl (op_q (q_ge rfl rfl (by decide)) ?_)
    refine list_nil ?_
    refine hK5 _ ?_; clear hK5 K5
    refine code_cond_d rfl (fun h1 => ?_) (fun h1 => ?_)
    · skip
      (try simp only [Decidable.not_not] at h1)
      refine code_skip ?_
      refine hK4 _ ?_; clear hK4 K4
      refine code_block ?_
      refine code_seq (fun K6 hK6 => ?_)
      refine code_region ?_
      refine list_cons rfl (op_q (q_move rfl (by decide)) ?_)
      refine list_cons rfl (op_q (by first | exact q_quoI rfl rfl (by decide) (by omega) (by omega) (by omega) | exact q_quoT rfl rfl (by omega) (by decide) (by omega) (by omega) | exact q_quo rfl rfl (by omega) (by decide)) ?_)
      refine list_cons rfl (op_q (q_assign rfl (by decide)) ?_)
      refine list_nil ?_
      refine hK6 _ ?_; clear hK6 K6
      refine code_region ?_
      refine list_cons rfl (op_q (q_move rfl (by decide)) ?_)
      refine list_cons rfl (op_q (by first | exact q_remI rfl rfl (by decide) (by omega) (by omega) | exact q_rem rfl rfl (by omega) (by decide)) ?_)
      refine list_cons rfl (op_call _ (spec_l2Digit _ (by omega) (by omega)) rfl rfl (by decide) (by decide) (by decide) rfl ?_)
      rintro _ rfl
      refine list_cons rfl (op_buildSlice sl_36 (parts := [(0, .tmp 14)]) rfl rfl rfl (by decide) (by decide) (by decide) rfl ?_)
      refine list_cons rfl (op_q (q_move rfl (by decide)) ?_)
      refine list_cons rfl (op_append_gen sl_36 (l := 15) (.inl rfl) rfl rfl (l2 := none) (.inl ⟨rfl, (by first | rfl | exact flat_map _ (fun _ => rfl) _)⟩) (by simp) (by omega) (by decide) (by decide) (by decide) ?_)
      refine list_cons rfl (op_q (q_assign rfl (by decide)) ?_)
      refine list_nil ?_
      refine blk_n ?_
      refine then_n ⟨(_, _, _, _), (imp_covers (σ' := [(0, _), (2, _), (3, _)]) ⟨rfl, rfl, rfl, trivial⟩).trans ((imp_ren 15 7 (by decide) (by decide) rfl).trans (imp_covers ⟨rfl, rfl, rfl, trivial⟩)), ?_, ?_⟩
      · (try dsimp only)
        refine ⟨by omega, by omega, [digT.getD (n_ / 10 % 10).toNat 0] ++ l, by simp; omega, by simp; rfl, ?_⟩
        rw [← i3, show rowP n_.toNat = rowN (n_.toNat / 10) by unfold rowP; rw [if_neg (by omega)], rowP_cat (n_.toNat / 10), show (n_ / 10).toNat = n_.toNat / 10 by omega, show (n_ / 10 % 10).toNat = n_.toNat / 10 % 10 by omega]
        simp
      · (try dsimp only); omega
    (try simp only [Decidable.not_not] at h1)
    refine code_exit ?_
    refine then_x ?_; clear hK4 K4
    refine then_x ?_
    refine blk_hit ?_
    refine hK3 _ ?_; clear hK3 K3
    refine codeT.imp (σ' := [(0, _), (2, _), (3, _)]) ?_ (imp_covers ⟨rfl, rfl, rfl, trivial⟩)
    refine code_seq (fun K7 hK7 => ?_)
    refine code_region ?_
    refine list_cons rfl (op_q (q_move rfl (by decide)) ?_)
    refine list_cons rfl (op_q (q_assign rfl (by decide)) ?_)
    refine list_nil ?_
    refine hK7 _ ?_; clear hK7 K7
    refine code_ret ?_
    refine ends_ret (cs := []) rfl rfl rfl rfl trivial ?_
    have e : rowP n_.toNat = [] := by unfold rowP; rw [if_pos (by omega)]
    rw [e] at i3
    rw [← i3]; rfl

set_option maxRecDepth 4000 in
theorem spec_l2TurnRow (l : List Int) (hl : RowP l) : PCalls Tryd.prog 41 [.sl l.length (l.map (.int .i64))] (· = [.own 0 3 1 (turnL l).length ((turnL l).map (.int .i64))]) := by
  refine pcalls_of_code (n := 22) az Tryd.func41 (by kernel_rfl) rfl rfl (Nat.le_of_ble_eq_true rfl) (by intro t u h; simp [Tryd.f41] at h) ?_
  have hl6 := hl.1
  refine code_seq (fun K1 hK1 => ?_)
  refine code_region ?_
  refine list_cons rfl (op_q (q_assign rfl (by decide)) ?_)
  refine list_nil ?_
  refine hK1 _ ?_; clear hK1 K1
  refine code_seq (fun K2 hK2 => ?_)
  refine code_region ?_
  refine list_cons rfl (op_buildSlice sl_36 (parts := []) rfl rfl rfl (by decide) (by decide) (by decide) rfl ?_)
  refine list_cons rfl (op_q (q_assign rfl (by decide)) ?_)
  refine list_nil ?_
  refine hK2 _ ?_; clear hK2 K2
  refine code_seq (fun K3 hK3 => ?_)
  refine code_seq (fun K4 hK4 => ?_)
  refine code_region ?_
  refine list_cons rfl (op_q (q_move rfl (by decide)) ?_)
  refine list_cons rfl (op_q (q_len_sl Tryd.underlying36 rfl rfl (by decide)) ?_)
  refine list_cons rfl (op_q (by first | exact q_subI rfl rfl (by decide) (by omega) (by omega) | exact q_ib rfl rfl rfl (by decide)) ?_)
  refine list_cons rfl (op_q (q_assign rfl (by decide)) ?_)
  refine list_nil ?_
  refine hK4 _ ?_; clear hK4 K4
  refine code_block ?_
  refine code_loop (X := PV × Nat × List PV × Int) (fun x => [(0, .par 0 (.sl l.length (l.map (.int .i64)))), (2, .val x.1), (3, .own 5 3 1 x.2.1 x.2.2.1), (4, .val (.int .i64 x.2.2.2))]) (fun x => -1 ≤ x.2.2.2 ∧ x.2.2.2 < l.length ∧ x.2.1 = l.length - (x.2.2.2 + 1).toNat ∧ x.2.2.1 = ((l.drop (x.2.2.2 + 1).toNat).reverse.map turnC).map (.int .i64)) (fun x => (x.2.2.2 + 1).toNat) (_, _, _, _) (imp_covers ⟨rfl, rfl, rfl, rfl, trivial⟩) ?_ ?_
  · (try dsimp only)
    refine ⟨by omega, by omega, by omega, ?_⟩
    rw [List.drop_eq_nil_of_le (by omega)]; rfl
  · intro x hI
    obtain ⟨t2_p, out_n, out_c, i⟩ := x
    replace hI : -1 ≤ i ∧ i < l.length ∧ out_n = l.length - (i + 1).toNat ∧ out_c = ((l.drop (i + 1).toNat).reverse.map turnC).map (.int .i64) := hI
    show codeT _ _ _ [(0, .par 0 (.sl l.length (l.map (.int .i64)))), (2, .val t2_p), (3, .own 5 3 1 out_n out_c), (4, .val (.int .i64 i))] _
    obtain ⟨i1, i2, rfl, rfl⟩ := hI
    have hc := fun (k : 0 ≤ i) => hl.at (j := i.toNat) (by omega)
    refine code_seq (fun K5 hK5 => ?_)
    refine code_seq (fun K6 hK6 => ?_)
    refine code_region ?_
    refine list_cons rfl (op_q (q_move rfl (by decide)) ?_)
    refine list_cons rfl (op_q (q_ge rfl rfl (by decide)) ?_)
    refine list_nil ?_
    refine hK6 _ ?_; clear hK6 K6
    refine code_cond_d rfl (fun h1 => ?_) (fun h1 => ?_)
    · skip
      (try simp only [Decidable.not_not] at h1)
      refine code_skip ?_
      refine hK5 _ ?_; clear hK5 K5
      refine code_seq (fun K7 hK7 => ?_)
      refine code_block ?_
      refine code_region ?_
      refine list_cons rfl (op_q (q_move rfl (by decide)) ?_)
      refine list_cons rfl (op_q (q_move rfl (by decide)) ?_)
      refine list_cons rfl (op_q (q_move rfl (by decide)) ?_)
      refine list_cons rfl (op_q (q_indexAddr_rd sl_36 rfl (.inl ⟨_, rfl, rfl⟩) rfl (by omega) (by omega) (by decide)) ?_)
      refine list_cons rfl (op_q (q_load_rd one_3 rfl (.inl ⟨_, (by first | rfl | exact congrArg (SV.rpar _) (drop_map1 _ 0 _ (by first | omega | (simp; omega)))), rfl⟩) (by decide)) ?_)
      refine list_cons rfl (op_call _ (spec_l2Turn _ (hc (by omega)).1 (hc (by omega)).2) rfl rfl (by decide) (by decide) (by decide) rfl ?_)
      rintro _ rfl
      refine list_cons rfl (op_buildSlice sl_36 (parts := [(0, .tmp 18)]) rfl rfl rfl (by decide) (by decide) (by decide) rfl ?_)
      refine list_cons rfl (op_append_gen sl_36 (l := 5) (.inl rfl) rfl rfl (l2 := none) (.inl ⟨rfl, (by first | rfl | exact flat_map _ (fun _ => rfl) _)⟩) (by first | rfl | simp | omega) (by omega) (by decide) (by decide) (by decide) ?_)
      refine list_cons rfl (op_q (q_assign rfl (by decide)) ?_)
      refine list_nil ?_
      refine blk_n ?_
      refine hK7 _ ?_; clear hK7 K7
      refine codeT.imp (σ' := [(0, _), (2, _), (3, _), (4, _)]) ?_ (imp_covers ⟨rfl, rfl, rfl, rfl, trivial⟩)
      refine code_region ?_
      refine list_cons rfl (op_q (q_move rfl (by decide)) ?_)
      refine list_cons rfl (op_q (by first | exact q_subI rfl rfl (by decide) (by omega) (by omega) | exact q_ib rfl rfl rfl (by decide)) ?_)
      refine list_cons rfl (op_q (q_assign rfl (by decide)) ?_)
      refine list_nil ?_
      refine then_n ⟨(_, _, _, _), imp_covers ⟨rfl, rfl, rfl, rfl, trivial⟩, ?_, ?_⟩
      · (try dsimp only)
        refine ⟨by omega, by omega, by omega, ?_⟩
        rw [show (i - 1 + 1).toNat = i.toNat by omega, rev_drop 0 l (k := i.toNat) (by omega), show (i + 1).toNat = i.toNat + 1 by omega]
        simp; rfl
      · (try dsimp only); omega
    (try simp only [Decidable.not_not] at h1)
    refine code_exit ?_
    refine then_x ?_; clear hK5 K5
    refine then_x ?_
    refine blk_hit ?_
    refine hK3 _ ?_; clear hK3 K3
    refine code_seq (fun K8 hK8 => ?_)
    refine code_region ?_
    refine list_cons rfl (op_q (q_move rfl (by decide)) ?_)
    refine list_cons rfl (op_q (q_assign rfl (by decide)) ?_)
    refine list_nil ?_
    refine hK8 _ ?_; clear hK8 K8
    refine code_ret ?_
    refine ends_ret (cs := []) rfl rfl rfl rfl trivial ?_
    rw [show (i + 1).toNat = 0 by omega, List.drop_zero, Nat.sub_zero, ← turnL_len l]; rfl

theorem list_eqI {α : Type} (d : α) (a b : List α) (h : a.length = b.length) (k : ∀ j, j < a.length → a.getD j d = b.getD j d) : a = b := by
  apply List.ext_getElem h
  intro j h1 h2
  have := k j h1
  simpa [h1, h2] using this
/-- Letters of bars in order. -/
def OrdP (s : List UInt8) : Prop := ∀ i, i < s.length → 97 ≤ (s.getD i 0).toNat ∧ (s.getD i 0).toNat ≤ 103 ∧ (0 < i → (s.getD (i - 1) 0).toNat < (s.getD i 0).toNat)
instance (s : List UInt8) : Decidable (OrdP s) := by unfold OrdP; infer_instance
def orF (s : List UInt8) : Nat := s.foldl (fun c b => c ||| 2 ^ (b.toNat - 97)) 0
theorem orF_snoc (s : List UInt8) {k : Nat} (h : k < s.length) : orF (s.take (k + 1)) = orF (s.take k) ||| 2 ^ ((s.getD k 0).toNat - 97) := by
  unfold orF; rw [foldl_take _ 0 _ _ h]
theorem or7 {a k : Nat} (ha : a < 128) (hk : k ≤ 6) : a ||| 2 ^ k < 128 := by
  have : 2 ^ k < 2 ^ 7 := Nat.pow_lt_pow_right (by omega) (by omega)
  exact @Nat.or_lt_two_pow a (2 ^ k) 7 (by omega) this
theorem orF_lt (s : List UInt8) (h : OrdP s) : ∀ k, k ≤ s.length → orF (s.take k) < 128
  | 0, _ => by rw [List.take_zero]; decide
  | k + 1, hk => by
    rw [orF_snoc s (by omega)]
    have h1 := (h k (by omega)).2.1
    exact or7 (orF_lt s h k (by omega)) (by omega)
theorem orF_all {s : List UInt8} (h : OrdP s) : orF s < 128 := by have := orF_lt s h s.length (Nat.le_refl _); rwa [List.take_length] at this
def pieceT (x : Int) : List UInt8 := (if x = 0 then [45] else []) ++ bars7 x.toNat
def textG (l : List Int) : Nat → List UInt8
  | 0 => []
  | k + 1 => (if 0 < k then textG l k ++ [32] else []) ++ pieceT (l.getD k 0)
def textF (l : List Int) : List UInt8 := textG l l.length
theorem bars7_len (n : Nat) : (bars7 n).length ≤ 7 := by
  unfold bars7
  rw [List.length_map]
  exact Nat.le_trans (List.length_filter_le _ _) (by simp)
theorem textG_len (l : List Int) : ∀ k, (textG l k).length ≤ 9 * k
  | 0 => by simp [textG]
  | k + 1 => by
    have := textG_len l k
    have h2 := bars7_len (l.getD k 0).toNat
    rw [textG]
    by_cases hk : 0 < k
    · rw [if_pos hk]; unfold pieceT; split <;> simp only [List.length_append, List.length_cons, List.length_nil] <;> omega
    · rw [if_neg hk]; unfold pieceT; split <;> simp only [List.length_append, List.length_cons, List.length_nil] <;> omega


def ltrT : List Int := [119, 124, 57, 94, 121, 113, 116, 30, 56, 84, 92, 115, 80, 120, 28, 110]
def ltrS : List UInt8 := [97, 98, 99, 100, 101, 102, 104, 106, 108, 110, 111, 112, 114, 116, 117, 121]
/-- The place of a letter, and of a cell, or -1. -/
def plR (r : Int) : Int := if r = 97 then 0 else if r = 98 then 1 else if r = 99 then 2 else if r = 100 then 3 else if r = 101 then 4 else if r = 102 then 5 else if r = 104 then 6 else if r = 106 then 7 else if r = 108 then 8 else if r = 110 then 9 else if r = 111 then 10 else if r = 112 then 11 else if r = 114 then 12 else if r = 116 then 13 else if r = 117 then 14 else if r = 121 then 15 else -1
def rdC (c : Int) : Int := if c = 119 then 0 else if c = 124 then 1 else if c = 57 then 2 else if c = 94 then 3 else if c = 121 then 4 else if c = 113 then 5 else if c = 116 then 6 else if c = 30 then 7 else if c = 56 then 8 else if c = 84 then 9 else if c = 92 then 10 else if c = 115 then 11 else if c = 80 then 12 else if c = 120 then 13 else if c = 28 then 14 else if c = 110 then 15 else -1
def plB (b : UInt8) : Int := plR b.toNat
theorem plR_le (r : Int) : -1 ≤ plR r ∧ plR r ≤ 15 := by
  unfold plR
  repeat' split
  all_goals omega
theorem rdC_le (r : Int) : -1 ≤ rdC r ∧ rdC r ≤ 15 := by
  unfold rdC
  repeat' split
  all_goals omega
theorem plB_le (b : UInt8) : -1 ≤ plB b ∧ plB b ≤ 15 := plR_le _
theorem lt16 {k : Int} (h0 : 0 ≤ k) (h1 : k ≤ 15) : k = 0 ∨ k = 1 ∨ k = 2 ∨ k = 3 ∨ k = 4 ∨ k = 5 ∨ k = 6 ∨ k = 7 ∨ k = 8 ∨ k = 9 ∨ k = 10 ∨ k = 11 ∨ k = 12 ∨ k = 13 ∨ k = 14 ∨ k = 15 := by omega
theorem ltr_pl {k : Int} (h0 : 0 ≤ k) (h1 : k ≤ 15) : plR ((ltrS.getD k.toNat 0).toNat : Int) = k := by
  rcases lt16 h0 h1 with rfl | rfl | rfl | rfl | rfl | rfl | rfl | rfl | rfl | rfl | rfl | rfl | rfl | rfl | rfl | rfl <;> rfl
theorem ltr_rd {k : Int} (h0 : 0 ≤ k) (h1 : k ≤ 15) : rdC (ltrT.getD k.toNat 0) = k := by
  rcases lt16 h0 h1 with rfl | rfl | rfl | rfl | rfl | rfl | rfl | rfl | rfl | rfl | rfl | rfl | rfl | rfl | rfl | rfl <;> rfl
theorem plR_at {k r : Int} (h0 : 0 ≤ k) (h1 : k ≤ 15) (h : ((ltrS.getD k.toNat 0).toNat : Int) = r) : plR r = k := by subst h; exact ltr_pl h0 h1
theorem rdC_at {k c : Int} (h0 : 0 ≤ k) (h1 : k ≤ 15) (h : ltrT.getD k.toNat 0 = c) : rdC c = k := by subst h; exact ltr_rd h0 h1
theorem plR_cs {r k : Int} (hk : plR r = k) : (r = 97 ∧ k = 0) ∨ (r = 98 ∧ k = 1) ∨ (r = 99 ∧ k = 2) ∨ (r = 100 ∧ k = 3) ∨ (r = 101 ∧ k = 4) ∨ (r = 102 ∧ k = 5) ∨ (r = 104 ∧ k = 6) ∨ (r = 106 ∧ k = 7) ∨ (r = 108 ∧ k = 8) ∨ (r = 110 ∧ k = 9) ∨ (r = 111 ∧ k = 10) ∨ (r = 112 ∧ k = 11) ∨ (r = 114 ∧ k = 12) ∨ (r = 116 ∧ k = 13) ∨ (r = 117 ∧ k = 14) ∨ (r = 121 ∧ k = 15) ∨ k = -1 := by
  unfold plR at hk
  by_cases h : r = 97
  · rw [if_pos h] at hk; exact .inl ⟨h, hk.symm⟩
  rw [if_neg h] at hk; refine .inr ?_; clear h
  by_cases h : r = 98
  · rw [if_pos h] at hk; exact .inl ⟨h, hk.symm⟩
  rw [if_neg h] at hk; refine .inr ?_; clear h
  by_cases h : r = 99
  · rw [if_pos h] at hk; exact .inl ⟨h, hk.symm⟩
  rw [if_neg h] at hk; refine .inr ?_; clear h
  by_cases h : r = 100
  · rw [if_pos h] at hk; exact .inl ⟨h, hk.symm⟩
  rw [if_neg h] at hk; refine .inr ?_; clear h
  by_cases h : r = 101
  · rw [if_pos h] at hk; exact .inl ⟨h, hk.symm⟩
  rw [if_neg h] at hk; refine .inr ?_; clear h
  by_cases h : r = 102
  · rw [if_pos h] at hk; exact .inl ⟨h, hk.symm⟩
  rw [if_neg h] at hk; refine .inr ?_; clear h
  by_cases h : r = 104
  · rw [if_pos h] at hk; exact .inl ⟨h, hk.symm⟩
  rw [if_neg h] at hk; refine .inr ?_; clear h
  by_cases h : r = 106
  · rw [if_pos h] at hk; exact .inl ⟨h, hk.symm⟩
  rw [if_neg h] at hk; refine .inr ?_; clear h
  by_cases h : r = 108
  · rw [if_pos h] at hk; exact .inl ⟨h, hk.symm⟩
  rw [if_neg h] at hk; refine .inr ?_; clear h
  by_cases h : r = 110
  · rw [if_pos h] at hk; exact .inl ⟨h, hk.symm⟩
  rw [if_neg h] at hk; refine .inr ?_; clear h
  by_cases h : r = 111
  · rw [if_pos h] at hk; exact .inl ⟨h, hk.symm⟩
  rw [if_neg h] at hk; refine .inr ?_; clear h
  by_cases h : r = 112
  · rw [if_pos h] at hk; exact .inl ⟨h, hk.symm⟩
  rw [if_neg h] at hk; refine .inr ?_; clear h
  by_cases h : r = 114
  · rw [if_pos h] at hk; exact .inl ⟨h, hk.symm⟩
  rw [if_neg h] at hk; refine .inr ?_; clear h
  by_cases h : r = 116
  · rw [if_pos h] at hk; exact .inl ⟨h, hk.symm⟩
  rw [if_neg h] at hk; refine .inr ?_; clear h
  by_cases h : r = 117
  · rw [if_pos h] at hk; exact .inl ⟨h, hk.symm⟩
  rw [if_neg h] at hk; refine .inr ?_; clear h
  by_cases h : r = 121
  · rw [if_pos h] at hk; exact .inl ⟨h, hk.symm⟩
  rw [if_neg h] at hk; refine .inr ?_; clear h
  exact hk.symm
theorem rdC_cs {c k : Int} (hk : rdC c = k) : (c = 119 ∧ k = 0) ∨ (c = 124 ∧ k = 1) ∨ (c = 57 ∧ k = 2) ∨ (c = 94 ∧ k = 3) ∨ (c = 121 ∧ k = 4) ∨ (c = 113 ∧ k = 5) ∨ (c = 116 ∧ k = 6) ∨ (c = 30 ∧ k = 7) ∨ (c = 56 ∧ k = 8) ∨ (c = 84 ∧ k = 9) ∨ (c = 92 ∧ k = 10) ∨ (c = 115 ∧ k = 11) ∨ (c = 80 ∧ k = 12) ∨ (c = 120 ∧ k = 13) ∨ (c = 28 ∧ k = 14) ∨ (c = 110 ∧ k = 15) ∨ k = -1 := by
  unfold rdC at hk
  by_cases h : c = 119
  · rw [if_pos h] at hk; exact .inl ⟨h, hk.symm⟩
  rw [if_neg h] at hk; refine .inr ?_; clear h
  by_cases h : c = 124
  · rw [if_pos h] at hk; exact .inl ⟨h, hk.symm⟩
  rw [if_neg h] at hk; refine .inr ?_; clear h
  by_cases h : c = 57
  · rw [if_pos h] at hk; exact .inl ⟨h, hk.symm⟩
  rw [if_neg h] at hk; refine .inr ?_; clear h
  by_cases h : c = 94
  · rw [if_pos h] at hk; exact .inl ⟨h, hk.symm⟩
  rw [if_neg h] at hk; refine .inr ?_; clear h
  by_cases h : c = 121
  · rw [if_pos h] at hk; exact .inl ⟨h, hk.symm⟩
  rw [if_neg h] at hk; refine .inr ?_; clear h
  by_cases h : c = 113
  · rw [if_pos h] at hk; exact .inl ⟨h, hk.symm⟩
  rw [if_neg h] at hk; refine .inr ?_; clear h
  by_cases h : c = 116
  · rw [if_pos h] at hk; exact .inl ⟨h, hk.symm⟩
  rw [if_neg h] at hk; refine .inr ?_; clear h
  by_cases h : c = 30
  · rw [if_pos h] at hk; exact .inl ⟨h, hk.symm⟩
  rw [if_neg h] at hk; refine .inr ?_; clear h
  by_cases h : c = 56
  · rw [if_pos h] at hk; exact .inl ⟨h, hk.symm⟩
  rw [if_neg h] at hk; refine .inr ?_; clear h
  by_cases h : c = 84
  · rw [if_pos h] at hk; exact .inl ⟨h, hk.symm⟩
  rw [if_neg h] at hk; refine .inr ?_; clear h
  by_cases h : c = 92
  · rw [if_pos h] at hk; exact .inl ⟨h, hk.symm⟩
  rw [if_neg h] at hk; refine .inr ?_; clear h
  by_cases h : c = 115
  · rw [if_pos h] at hk; exact .inl ⟨h, hk.symm⟩
  rw [if_neg h] at hk; refine .inr ?_; clear h
  by_cases h : c = 80
  · rw [if_pos h] at hk; exact .inl ⟨h, hk.symm⟩
  rw [if_neg h] at hk; refine .inr ?_; clear h
  by_cases h : c = 120
  · rw [if_pos h] at hk; exact .inl ⟨h, hk.symm⟩
  rw [if_neg h] at hk; refine .inr ?_; clear h
  by_cases h : c = 28
  · rw [if_pos h] at hk; exact .inl ⟨h, hk.symm⟩
  rw [if_neg h] at hk; refine .inr ?_; clear h
  by_cases h : c = 110
  · rw [if_pos h] at hk; exact .inl ⟨h, hk.symm⟩
  rw [if_neg h] at hk; refine .inr ?_; clear h
  exact hk.symm
theorem pl_back {r : Int} (h : 0 ≤ plR r) : ((ltrS.getD (plR r).toNat 0).toNat : Int) = r := by
  rcases plR_cs (r := r) rfl with ⟨h1, h2⟩ | ⟨h1, h2⟩ | ⟨h1, h2⟩ | ⟨h1, h2⟩ | ⟨h1, h2⟩ | ⟨h1, h2⟩ | ⟨h1, h2⟩ | ⟨h1, h2⟩ | ⟨h1, h2⟩ | ⟨h1, h2⟩ | ⟨h1, h2⟩ | ⟨h1, h2⟩ | ⟨h1, h2⟩ | ⟨h1, h2⟩ | ⟨h1, h2⟩ | ⟨h1, h2⟩ | h2 <;> first | omega | (rw [h2, h1]; rfl)
theorem rd_back {c : Int} (h : 0 ≤ rdC c) : ltrT.getD (rdC c).toNat 0 = c := by
  rcases rdC_cs (c := c) rfl with ⟨h1, h2⟩ | ⟨h1, h2⟩ | ⟨h1, h2⟩ | ⟨h1, h2⟩ | ⟨h1, h2⟩ | ⟨h1, h2⟩ | ⟨h1, h2⟩ | ⟨h1, h2⟩ | ⟨h1, h2⟩ | ⟨h1, h2⟩ | ⟨h1, h2⟩ | ⟨h1, h2⟩ | ⟨h1, h2⟩ | ⟨h1, h2⟩ | ⟨h1, h2⟩ | ⟨h1, h2⟩ | h2 <;> first | omega | (rw [h2, h1]; rfl)
theorem plR_none {r : Int} (h : ∀ j : Nat, j < 16 → ((ltrS.getD j 0).toNat : Int) ≠ r) : plR r = -1 := by
  rcases Int.lt_or_le (plR r) 0 with k | k
  · have := plR_le r; omega
  · have h2 := plR_le r
    exact absurd (pl_back k) (h (plR r).toNat (by omega))
theorem rdC_none {c : Int} (h : ∀ j : Nat, j < 16 → ltrT.getD j 0 ≠ c) : rdC c = -1 := by
  rcases Int.lt_or_le (rdC c) 0 with k | k
  · have := rdC_le c; omega
  · have h2 := rdC_le c
    exact absurd (rd_back k) (h (rdC c).toNat (by omega))
theorem ltrT_cell (n : Nat) : 0 ≤ ltrT.getD n 0 ∧ ltrT.getD n 0 ≤ 127 := by
  by_cases h : n < 16
  · have : n = 0 ∨ n = 1 ∨ n = 2 ∨ n = 3 ∨ n = 4 ∨ n = 5 ∨ n = 6 ∨ n = 7 ∨ n = 8 ∨ n = 9 ∨ n = 10 ∨ n = 11 ∨ n = 12 ∨ n = 13 ∨ n = 14 ∨ n = 15 := by omega
    rcases this with rfl | rfl | rfl | rfl | rfl | rfl | rfl | rfl | rfl | rfl | rfl | rfl | rfl | rfl | rfl | rfl <;> decide
  · have : ltrT.getD n 0 = 0 := by unfold List.getD; rw [List.getElem?_eq_none (by simp [ltrT]; omega)]; rfl
    rw [this]; omega
def LtP (s : List UInt8) : Prop := ∀ b ∈ s, 0 ≤ plB b
instance (s : List UInt8) : Decidable (LtP s) := by unfold LtP; infer_instance
theorem LtP.at {s : List UInt8} (h : LtP s) {j : Nat} (hj : j < s.length) : 0 ≤ plB (s.getD j 0) := by
  have : s.getD j 0 = s[j] := by simp [hj]
  rw [this]; exact h _ (List.getElem_mem hj)
theorem LtP.of {s : List UInt8} (h : ∀ j, j < s.length → 0 ≤ plB (s.getD j 0)) : LtP s := fun x hx => by
  obtain ⟨j, hj, rfl⟩ := List.getElem_of_mem hx
  have := h j hj
  simpa [hj] using this
def WrdP (s : List UInt8) (m : Int) : Prop := (s.length : Int) ≤ m ∧ LtP s
instance (s : List UInt8) (m : Int) : Decidable (WrdP s m) := by unfold WrdP; infer_instance
def cellW (b : UInt8) : Int := ltrT.getD (plB b).toNat 0
def rowW (s : List UInt8) : List Int := s.map cellW
theorem rowW_len (s : List UInt8) : (rowW s).length = s.length := by simp [rowW]
theorem cellW_cell (b : UInt8) : 0 ≤ cellW b ∧ cellW b ≤ 127 := ltrT_cell _
theorem rowW_cells (s : List UInt8) : ∀ x ∈ rowW s, 0 ≤ x ∧ x ≤ 127 := fun x hx => by
  obtain ⟨b, _, rfl⟩ := List.mem_map.1 hx
  exact cellW_cell b
theorem rowW_row {s : List UInt8} (h : s.length ≤ 6) : RowP (rowW s) := ⟨by rw [rowW_len]; exact h, rowW_cells s⟩
theorem rowW_at (s : List UInt8) (j : Nat) : 0 ≤ (rowW s).getD j 0 ∧ (rowW s).getD j 0 ≤ 127 := by
  by_cases h : j < (rowW s).length
  · have : (rowW s).getD j 0 = (rowW s)[j] := by simp [h]
    rw [this]; exact rowW_cells s _ (List.getElem_mem h)
  · have : (rowW s).getD j 0 = 0 := by unfold List.getD; rw [List.getElem?_eq_none (by omega)]; rfl
    rw [this]; omega
def SpP (l : List Int) : Prop := ∀ x ∈ l, 0 ≤ rdC x
instance (l : List Int) : Decidable (SpP l) := by unfold SpP; infer_instance
theorem SpP.at {l : List Int} (h : SpP l) {j : Nat} (hj : j < l.length) : 0 ≤ rdC (l.getD j 0) := by
  have : l.getD j 0 = l[j] := by simp [hj]
  rw [this]; exact h _ (List.getElem_mem hj)
theorem SpP.of {l : List Int} (h : ∀ j, j < l.length → 0 ≤ rdC (l.getD j 0)) : SpP l := fun x hx => by
  obtain ⟨j, hj, rfl⟩ := List.getElem_of_mem hx
  have := h j hj
  simpa [hj] using this
def letC (c : Int) : UInt8 := ltrS.getD (rdC c).toNat 0
def spT (l : List Int) : List UInt8 := l.map letC
theorem spT_len (l : List Int) : (spT l).length = l.length := by simp [spT]
theorem cut1 (k : Nat) (h : k < 16) : (ltrS.drop k).take 1 = [ltrS.getD k 0] := by
  have : k = 0 ∨ k = 1 ∨ k = 2 ∨ k = 3 ∨ k = 4 ∨ k = 5 ∨ k = 6 ∨ k = 7 ∨ k = 8 ∨ k = 9 ∨ k = 10 ∨ k = 11 ∨ k = 12 ∨ k = 13 ∨ k = 14 ∨ k = 15 := by omega
  rcases this with rfl | rfl | rfl | rfl | rfl | rfl | rfl | rfl | rfl | rfl | rfl | rfl | rfl | rfl | rfl | rfl <;> rfl
theorem cutL {k : Int} (h0 : 0 ≤ k) (h1 : k ≤ 15) : (ltrS.drop k.toNat).take ((k + 1).toNat - k.toNat) = [ltrS.getD k.toNat 0] := by
  rw [show (k + 1).toNat - k.toNat = 1 by omega, cut1 _ (by omega)]
/-- A letter has all bars of a cell. -/
def hasC (k : Nat) (c : Int) : Bool := Nat.beq ((ltrT.getD k 0).toNat &&& c.toNat) c.toNat
def canI (c : Int) : Nat → List Int
  | 0 => []
  | k + 1 => if hasC k c = true then canI c k ++ [(k : Int)] else canI c k
theorem canI_succ (c : Int) (k : Nat) : canI c (k + 1) = if hasC k c = true then canI c k ++ [(k : Int)] else canI c k := rfl
theorem canI_len (c : Int) : ∀ k, (canI c k).length ≤ k
  | 0 => by simp [canI]
  | k + 1 => by
    have := canI_len c k
    unfold canI
    split <;> simp <;> omega
theorem canI_lt (c : Int) : ∀ k, ∀ x ∈ canI c k, 0 ≤ x ∧ x < k
  | 0, x, h => by simp [canI] at h
  | k + 1, x, h => by
    have ih := canI_lt c k
    unfold canI at h
    split at h
    · rcases List.mem_append.1 h with h | h
      · have := ih x h; omega
      · simp only [List.mem_singleton] at h; omega
    · have := ih x h; omega
theorem canI_at (c : Int) {j : Nat} (h : j < (canI c 16).length) : 0 ≤ (canI c 16).getD j 0 ∧ (canI c 16).getD j 0 ≤ 15 := by
  have : (canI c 16).getD j 0 = (canI c 16)[j] := by simp [h]
  rw [this]
  have := canI_lt c 16 _ (List.getElem_mem h); omega
/-- How many readings a row has. -/
def cntR : List Int → Nat
  | [] => 1
  | x :: r => (canI x 16).length * cntR r
theorem cntR_app : ∀ a b : List Int, cntR (a ++ b) = cntR a * cntR b
  | [], b => by show cntR b = 1 * cntR b; rw [Nat.one_mul]
  | x :: a, b => by
    show (canI x 16).length * cntR (a ++ b) = (canI x 16).length * cntR a * cntR b
    rw [cntR_app a b, Nat.mul_assoc]
theorem cntR_le : ∀ l : List Int, cntR l ≤ 16 ^ l.length
  | [] => Nat.le_refl _
  | x :: r => by
    have h1 := canI_len x 16
    have h2 := cntR_le r
    show (canI x 16).length * cntR r ≤ 16 ^ (r.length + 1)
    rw [Nat.pow_succ, Nat.mul_comm (16 ^ r.length)]
    exact Nat.mul_le_mul h1 h2
theorem pow16 {k : Nat} (h : k ≤ 6) : 16 ^ k ≤ 16777216 := Nat.pow_le_pow_right (n := 16) (by omega) h
theorem cntR_le6 {l : List Int} (h : l.length ≤ 6) : cntR l ≤ 16777216 := Nat.le_trans (cntR_le l) (pow16 h)
/-- The reading ahead of which there are k others. -/
def letN (n : Int) : UInt8 := ltrS.getD n.toNat 0
def rdT : List Int → Nat → List UInt8
  | [], _ => []
  | x :: r, k => letN ((canI x 16).getD (k / cntR r) 0) :: rdT r (k % cntR r)
theorem rdT_len : ∀ (l : List Int) (k : Nat), (rdT l k).length = l.length
  | [], _ => rfl
  | x :: r, k => by show (rdT r _).length + 1 = r.length + 1; rw [rdT_len r]
/-- The rows of a word that goes through a display. -/
def scC (r : List Int) (j : Int) : Int := if 0 ≤ j ∧ j < r.length then r.getD j.toNat 0 else 0
def scR (r : List Int) (k : Nat) (a : Int) : List Int := (List.range k).map fun (j : Nat) => scC r ((j : Int) - a)
def scL (r : List Int) (k : Nat) : List (List Int) := if r = [] then [] else (List.range (r.length + k - 1)).map fun (m : Nat) => scR r k ((k : Int) - 1 - m)
def qR (M : List (List Int)) : List PV := M.map fun r => .sl r.length (r.map (.int .i64))


set_option maxRecDepth 100000 in
theorem spec_l10Of (c : Int) (h0 : 0 ≤ c) (h1 : c ≤ 15) : PCalls Tryd.prog 35 [.int .i64 c] (· = [.val (.int .i64 (ltrT.getD c.toNat 0))]) := by
  have h := below_int (p := fun i => oneInt (crun Tf.tf noExt 200 6 35 [.int .i64 (Int.ofNat i)]) (ltrT.getD i 0)) (k := 16) (by kernel_rfl) h0 (by omega)
  have e : Int.ofNat c.toNat = c := Int.toNat_of_nonneg h0
  rw [e] at h
  exact pcalls_run Tf.tf (oneInt_ok h)

set_option maxRecDepth 4000 in
theorem spec_l10Read (c : Int) : PCalls Tryd.prog 74 [.int .i64 c] (· = [.val (.int .i64 (rdC c))]) := by
  refine pcalls_of_code (n := 13) az Tryd.func74 (by kernel_rfl) rfl rfl (Nat.le_of_ble_eq_true rfl) (by intro t u h; simp [Tryd.f74] at h) ?_
  refine code_seq (fun K1 hK1 => ?_)
  refine code_region ?_
  refine list_cons rfl (op_q (q_assign rfl (by decide)) ?_)
  refine list_nil ?_
  refine hK1 _ ?_; clear hK1 K1
  refine code_seq (fun K2 hK2 => ?_)
  refine code_seq (fun K3 hK3 => ?_)
  refine code_region ?_
  refine list_cons rfl (op_q (q_assign rfl (by decide)) ?_)
  refine list_nil ?_
  refine hK3 _ ?_; clear hK3 K3
  refine code_block ?_
  refine code_loop (X := Int × Int) (fun x => [(0, .val (.int .i64 c)), (2, .val (.int .i64 x.1)), (3, .val (.int .i64 x.2))]) (fun x => 0 ≤ x.2 ∧ x.2 ≤ 16 ∧ ∀ j : Nat, j < x.2.toNat → ltrT.getD j 0 ≠ c) (fun x => 16 - x.2.toNat) (_, _) (imp_covers ⟨rfl, rfl, rfl, trivial⟩) ?_ ?_
  · (try dsimp only)
    refine ⟨by omega, by omega, fun j hj => by simp at hj⟩
  · intro x hI
    obtain ⟨t2, k⟩ := x
    replace hI : 0 ≤ k ∧ k ≤ 16 ∧ ∀ j : Nat, j < k.toNat → ltrT.getD j 0 ≠ c := hI
    show codeT _ _ _ [(0, .val (.int .i64 c)), (2, .val (.int .i64 t2)), (3, .val (.int .i64 k))] _
    obtain ⟨i1, i2, i3⟩ := hI
    refine code_seq (fun K4 hK4 => ?_)
    refine code_seq (fun K5 hK5 => ?_)
    refine code_region ?_
    refine list_cons rfl (op_q (q_move rfl (by decide)) ?_)
    refine list_cons rfl (op_q (q_lt rfl rfl (by decide)) ?_)
    refine list_nil ?_
    refine hK5 _ ?_; clear hK5 K5
    refine code_cond_d rfl (fun h1 => ?_) (fun h1 => ?_)
    · skip
      (try simp only [Decidable.not_not] at h1)
      refine code_skip ?_
      refine hK4 _ ?_; clear hK4 K4
      refine code_seq (fun K6 hK6 => ?_)
      refine code_block ?_
      refine code_seq (fun K7 hK7 => ?_)
      refine code_region ?_
      refine list_cons rfl (op_q (q_move rfl (by decide)) ?_)
      refine list_cons rfl (op_call _ (spec_l10Of _ (by omega) (by omega)) rfl rfl (by decide) (by decide) (by decide) rfl ?_)
      rintro _ rfl
      refine list_cons rfl (op_q (q_move rfl (by decide)) ?_)
      refine list_cons rfl (op_q (q_eq rfl rfl (by decide)) ?_)
      refine list_nil ?_
      refine hK7 _ ?_; clear hK7 K7
      refine codeT.imp (σ' := [(0, _), (2, _), (3, _), (11, _)]) ?_ (imp_covers ⟨rfl, rfl, rfl, rfl, trivial⟩)
      refine code_cond_d rfl (fun h2 => ?_) (fun h2 => ?_)
      · skip
        (try simp only [Decidable.not_not] at h2)
        refine code_seq (fun K8 hK8 => ?_)
        refine code_region ?_
        refine list_cons rfl (op_q (q_move rfl (by decide)) ?_)
        refine list_cons rfl (op_q (q_assign rfl (by decide)) ?_)
        refine list_nil ?_
        refine hK8 _ ?_; clear hK8 K8
        refine code_ret ?_
        refine blk_r ?_
        refine then_r ?_; clear hK6 K6
        refine then_r ?_
        refine blk_r ?_
        refine then_r ?_; clear hK2 K2
        refine ends_ret (cs := []) rfl rfl rfl rfl trivial ?_
        first
          | (rw [rdC_at (by omega) (by omega) h2]; done)
          | (rw [rdC_none fun j hj => i3 j (by omega)]; done)
      (try simp only [Decidable.not_not] at h2)
      refine code_skip ?_
      refine blk_n ?_
      refine hK6 _ ?_; clear hK6 K6
      refine code_region ?_
      refine list_cons rfl (op_q (q_move rfl (by decide)) ?_)
      refine list_cons rfl (op_q (by first | exact q_addI rfl rfl (by decide) (by omega) (by omega) | exact q_ib rfl rfl rfl (by decide)) ?_)
      refine list_cons rfl (op_q (q_assign rfl (by decide)) ?_)
      refine list_nil ?_
      refine then_n ⟨(_, _), imp_covers ⟨rfl, rfl, rfl, trivial⟩, ?_, ?_⟩
      · (try dsimp only)
        refine ⟨by omega, by omega, fun j hj => ?_⟩
        by_cases e : j = k.toNat
        · subst e; exact h2
        · exact i3 j (by omega)
      · (try dsimp only); omega
    (try simp only [Decidable.not_not] at h1)
    refine code_exit ?_
    refine then_x ?_; clear hK4 K4
    refine then_x ?_
    refine blk_hit ?_
    refine hK2 _ ?_; clear hK2 K2
    refine code_seq (fun K9 hK9 => ?_)
    refine code_region ?_
    refine list_cons rfl (op_q (q_assign rfl (by decide)) ?_)
    refine list_nil ?_
    refine hK9 _ ?_; clear hK9 K9
    refine code_ret ?_
    refine ends_ret (cs := []) rfl rfl rfl rfl trivial ?_
    first
      | (rw [rdC_at (by omega) (by omega) h1]; done)
      | (rw [rdC_none fun j hj => i3 j (by omega)]; done)

set_option maxRecDepth 4000 in
theorem spec_l10Spelt (l : List Int) (hl : l.length ≤ 1000) : PCalls Tryd.prog 40 [.sl l.length (l.map (.int .i64))] (· = [.val (.str (if SpP l then spT l else [])), .val (.bool (decide (SpP l)))]) := by
  refine pcalls_of_code (n := 27) az Tryd.func40 (by kernel_rfl) rfl rfl (Nat.le_of_ble_eq_true rfl) (by intro t u h; simp [Tryd.f40] at h) ?_
  refine code_seq (fun K1 hK1 => ?_)
  refine code_region ?_
  refine list_cons rfl (op_q (q_assign rfl (by decide)) ?_)
  refine list_cons rfl (op_q (q_assign rfl (by decide)) ?_)
  refine list_nil ?_
  refine hK1 _ ?_; clear hK1 K1
  refine code_seq (fun K2 hK2 => ?_)
  refine code_region ?_
  refine list_cons rfl (op_q (q_assign rfl (by decide)) ?_)
  refine list_nil ?_
  refine hK2 _ ?_; clear hK2 K2
  refine code_seq (fun K3 hK3 => ?_)
  refine code_seq (fun K4 hK4 => ?_)
  refine code_region ?_
  refine list_cons rfl (op_q (q_assign rfl (by decide)) ?_)
  refine list_nil ?_
  refine hK4 _ ?_; clear hK4 K4
  refine code_block ?_
  refine code_loop (X := List UInt8 × Bool × List UInt8 × Int) (fun x => [(0, .par 0 (.sl l.length (l.map (.int .i64)))), (2, .val (.str x.1)), (3, .val (.bool x.2.1)), (4, .val (.str x.2.2.1)), (5, .val (.int .i64 x.2.2.2))]) (fun x => 0 ≤ x.2.2.2 ∧ x.2.2.2 ≤ l.length ∧ x.2.2.1 = spT (l.take x.2.2.2.toNat) ∧ ∀ j, j < x.2.2.2.toNat → 0 ≤ rdC (l.getD j 0)) (fun x => l.length - x.2.2.2.toNat) (_, _, _, _) (imp_covers ⟨rfl, rfl, rfl, rfl, rfl, trivial⟩) ?_ ?_
  · (try dsimp only)
    exact ⟨by omega, by omega, rfl, fun j hj => by simp at hj⟩
  · intro x hI
    obtain ⟨t2, t3, s, i⟩ := x
    replace hI : 0 ≤ i ∧ i ≤ l.length ∧ s = spT (l.take i.toNat) ∧ ∀ j, j < i.toNat → 0 ≤ rdC (l.getD j 0) := hI
    show codeT _ _ _ [(0, .par 0 (.sl l.length (l.map (.int .i64)))), (2, .val (.str t2)), (3, .val (.bool t3)), (4, .val (.str s)), (5, .val (.int .i64 i))] _
    obtain ⟨i1, i2, rfl, i3⟩ := hI
    have hrd := rdC_le (l.getD i.toNat 0)
    have hL : ltrS.length = 16 := rfl
    have hsl : (spT (l.take i.toNat)).length = i.toNat := by rw [spT_len, List.length_take]; omega
    refine code_seq (fun K5 hK5 => ?_)
    refine code_seq (fun K6 hK6 => ?_)
    refine code_region ?_
    refine list_cons rfl (op_q (q_move rfl (by decide)) ?_)
    refine list_cons rfl (op_q (q_move rfl (by decide)) ?_)
    refine list_cons rfl (op_q (q_len_sl Tryd.underlying36 rfl rfl (by decide)) ?_)
    refine list_cons rfl (op_q (q_lt rfl rfl (by decide)) ?_)
    refine list_nil ?_
    refine hK6 _ ?_; clear hK6 K6
    refine code_cond_d rfl (fun h1 => ?_) (fun h1 => ?_)
    · skip
      (try simp only [Decidable.not_not] at h1)
      refine code_skip ?_
      refine hK5 _ ?_; clear hK5 K5
      refine code_seq (fun K7 hK7 => ?_)
      refine code_block ?_
      refine code_seq (fun K8 hK8 => ?_)
      refine code_region ?_
      refine list_cons rfl (op_q (q_move rfl (by decide)) ?_)
      refine list_cons rfl (op_q (q_move rfl (by decide)) ?_)
      refine list_cons rfl (op_q (q_indexAddr_rd sl_36 rfl (.inl ⟨_, rfl, rfl⟩) rfl (by omega) (by omega) (by decide)) ?_)
      refine list_cons rfl (op_q (q_load_rd one_3 rfl (.inl ⟨_, (by first | rfl | exact congrArg (SV.rpar _) (drop_map1 _ 0 _ (by first | omega | (simp; omega)))), rfl⟩) (by decide)) ?_)
      refine list_cons rfl (op_call _ (spec_l10Read _) rfl rfl (by decide) (by decide) (by decide) rfl ?_)
      rintro _ rfl
      refine list_cons rfl (op_q (q_assign rfl (by decide)) ?_)
      refine list_nil ?_
      refine hK8 _ ?_; clear hK8 K8
      refine codeT.imp (σ' := [(0, _), (2, _), (3, _), (4, _), (5, _), (6, _)]) ?_ (imp_covers ⟨rfl, rfl, rfl, rfl, rfl, rfl, trivial⟩)
      refine code_seq (fun K9 hK9 => ?_)
      refine code_seq (fun K10 hK10 => ?_)
      refine code_region ?_
      refine list_cons rfl (op_q (q_move rfl (by decide)) ?_)
      refine list_cons rfl (op_q (q_lt rfl rfl (by decide)) ?_)
      refine list_nil ?_
      refine hK10 _ ?_; clear hK10 K10
      refine code_cond_d rfl (fun h2 => ?_) (fun h2 => ?_)
      · skip
        (try simp only [Decidable.not_not] at h2)
        refine code_seq (fun K11 hK11 => ?_)
        refine code_region ?_
        refine list_cons rfl (op_q (q_assign rfl (by decide)) ?_)
        refine list_cons rfl (op_q (q_assign rfl (by decide)) ?_)
        refine list_nil ?_
        refine hK11 _ ?_; clear hK11 K11
        refine code_ret ?_
        refine then_r ?_; clear hK9 K9
        refine blk_r ?_
        refine then_r ?_; clear hK7 K7
        refine then_r ?_
        refine blk_r ?_
        refine then_r ?_; clear hK3 K3
        refine ends_ret (cs := []) rfl rfl rfl rfl trivial ?_
        first
          | (have e : ¬ SpP l := fun e => by have := e.at (j := i.toNat) (by omega); omega
             simp only [if_neg e, decide_eq_false e]; done)
          | (have e : SpP l := SpP.of fun j hj => i3 j (by omega)
             simp only [if_pos e, decide_eq_true e, List.take_of_length_le (show l.length ≤ i.toNat by omega)]; done)
      (try simp only [Decidable.not_not] at h2)
      refine code_skip ?_
      refine hK9 _ ?_; clear hK9 K9
      refine code_region ?_
      refine list_cons rfl (op_q (q_move rfl (by decide)) ?_)
      refine list_cons rfl (op_q (q_move rfl (by decide)) ?_)
      refine list_cons rfl (op_q (q_move rfl (by decide)) ?_)
      refine list_cons rfl (op_q (by first | exact q_addI rfl rfl (by decide) (by omega) (by omega) | exact q_ib rfl rfl rfl (by decide)) ?_)
      refine list_cons rfl (op_q (q_slice_str Tryd.underlying9 rfl ⟨_, rfl⟩ ⟨_, rfl⟩ (by first | omega | (show _ ≤ ((16 : Nat) : Int); omega)) (by first | omega | (show _ ≤ ((16 : Nat) : Int); omega)) (by first | omega | (show _ ≤ ((16 : Nat) : Int); omega)) (by decide)) ?_)
      refine list_cons rfl (op_q (q_cat rfl rfl (by first | omega | (simp only [List.length_append, List.length_cons, List.length_nil]; omega) | (simp; omega)) (by decide)) ?_)
      refine list_cons rfl (op_q (q_assign rfl (by decide)) ?_)
      refine list_nil ?_
      refine blk_n ?_
      refine hK7 _ ?_; clear hK7 K7
      refine codeT.imp (σ' := [(0, _), (2, _), (3, _), (4, _), (5, _), (6, _)]) ?_ (imp_covers ⟨rfl, rfl, rfl, rfl, rfl, rfl, trivial⟩)
      refine code_region ?_
      refine list_cons rfl (op_q (q_move rfl (by decide)) ?_)
      refine list_cons rfl (op_q (by first | exact q_addI rfl rfl (by decide) (by omega) (by omega) | exact q_ib rfl rfl rfl (by decide)) ?_)
      refine list_cons rfl (op_q (q_assign rfl (by decide)) ?_)
      refine list_nil ?_
      refine then_n ⟨(_, _, _, _), imp_covers ⟨rfl, rfl, rfl, rfl, rfl, trivial⟩, ?_, ?_⟩
      · (try dsimp only)
        have hk0 : 0 ≤ rdC (l.getD i.toNat 0) := by omega
        refine ⟨by omega, by omega, ?_, fun j hj => ?_⟩
        · rw [show (i + 1).toNat = i.toNat + 1 by omega, show spT (l.take (i.toNat + 1)) = spT (l.take i.toNat) ++ [letC (l.getD i.toNat 0)] from map_take letC 0 l (by omega)]
          exact congrArg (spT (l.take i.toNat) ++ ·) (cutL hk0 hrd.2)
        · by_cases e : j = i.toNat
          · subst e; omega
          · exact i3 j (by omega)
      · (try dsimp only); omega
    (try simp only [Decidable.not_not] at h1)
    refine code_exit ?_
    refine then_x ?_; clear hK5 K5
    refine then_x ?_
    refine blk_hit ?_
    refine hK3 _ ?_; clear hK3 K3
    refine code_seq (fun K12 hK12 => ?_)
    refine code_region ?_
    refine list_cons rfl (op_q (q_move rfl (by decide)) ?_)
    refine list_cons rfl (op_q (q_assign rfl (by decide)) ?_)
    refine list_cons rfl (op_q (q_assign rfl (by decide)) ?_)
    refine list_nil ?_
    refine hK12 _ ?_; clear hK12 K12
    refine code_ret ?_
    refine ends_ret (cs := []) rfl rfl rfl rfl trivial ?_
    first
      | (have e : ¬ SpP l := fun e => by have := e.at (j := i.toNat) (by omega); omega
         simp only [if_neg e, decide_eq_false e]; done)
      | (have e : SpP l := SpP.of fun j hj => i3 j (by omega)
         simp only [if_pos e, decide_eq_true e, List.take_of_length_le (show l.length ≤ i.toNat by omega)]; done)

set_option maxRecDepth 4000 in
theorem spec_WordOfNumber (n : Int) : PCalls Tryd.prog 12 [.int .i64 n] (· = [.val (.str (if (0 ≤ n ∧ n ≤ 999999) ∧ SpP (turnL (rowN n.toNat)) then spT (turnL (rowN n.toNat)) else [])), .val (.bool (decide ((0 ≤ n ∧ n ≤ 999999) ∧ SpP (turnL (rowN n.toNat)))))]) := by
  refine pcalls_of_code (n := 13) az Tryd.func12 (by kernel_rfl) rfl rfl (Nat.le_of_ble_eq_true rfl) (by intro t u h; simp [Tryd.f12] at h) ?_
  refine code_seq (fun K1 hK1 => ?_)
  refine code_region ?_
  refine list_cons rfl (op_q (q_assign rfl (by decide)) ?_)
  refine list_cons rfl (op_q (q_assign rfl (by decide)) ?_)
  refine list_nil ?_
  refine hK1 _ ?_; clear hK1 K1
  refine code_seq (fun K2 hK2 => ?_)
  refine code_seq (fun K3 hK3 => ?_)
  refine code_region ?_
  refine list_cons rfl (op_q (q_move rfl (by decide)) ?_)
  refine list_cons rfl (op_call _ (spec_l1In _ _ _) rfl rfl (by decide) (by decide) (by decide) rfl ?_)
  rintro _ rfl
  refine list_cons rfl (op_q (by first | exact q_notd rfl (by decide) | exact q_not rfl (by decide)) ?_)
  refine list_nil ?_
  refine hK3 _ ?_; clear hK3 K3
  refine codeT.imp (σ' := [(0, _), (2, _), (3, _), (6, _)]) ?_ (imp_covers ⟨rfl, rfl, rfl, rfl, trivial⟩)
  refine code_cond_d rfl (fun h1 => ?_) (fun h1 => ?_)
  · skip
    (try simp only [Decidable.not_not] at h1)
    refine code_seq (fun K4 hK4 => ?_)
    refine code_region ?_
    refine list_cons rfl (op_q (q_assign rfl (by decide)) ?_)
    refine list_cons rfl (op_q (q_assign rfl (by decide)) ?_)
    refine list_nil ?_
    refine hK4 _ ?_; clear hK4 K4
    refine code_ret ?_
    refine then_r ?_; clear hK2 K2
    refine ends_ret (cs := []) rfl rfl rfl rfl trivial ?_
    rw [if_neg (fun k => h1 k.1), decide_eq_false (fun k => h1 k.1)]
  (try simp only [Decidable.not_not] at h1)
  refine code_skip ?_
  refine hK2 _ ?_; clear hK2 K2
  refine code_seq (fun K5 hK5 => ?_)
  refine code_region ?_
  refine list_cons rfl (op_q (q_move rfl (by decide)) ?_)
  refine list_cons rfl (op_call _ (spec_l2RowOf _ (by omega) (by omega)) rfl rfl (by decide) (by decide) (by decide) rfl ?_)
  rintro _ rfl
  refine list_cons rfl (op_call _ (spec_l2TurnRow _ (rowN_row (by omega))) rfl rfl (by decide) (by decide) (by decide) rfl ?_)
  rintro _ rfl
  refine list_cons rfl (op_call _ (spec_l10Spelt _ (by rw [turnL_len]; have := (rowN_row (n := n.toNat) (by omega)).1; omega)) rfl rfl (by decide) (by decide) (by decide) rfl ?_)
  rintro _ rfl
  refine list_cons rfl (op_q (q_extract rfl rfl (by decide)) ?_)
  refine list_cons rfl (op_q (q_extract rfl rfl (by decide)) ?_)
  refine list_cons rfl (op_q (q_assign rfl (by decide)) ?_)
  refine list_cons rfl (op_q (q_assign rfl (by decide)) ?_)
  refine list_nil ?_
  refine hK5 _ ?_; clear hK5 K5
  refine codeT.imp (σ' := [(0, _), (2, _), (3, _)]) ?_ (imp_covers ⟨rfl, rfl, rfl, trivial⟩)
  refine code_ret ?_
  refine ends_ret (cs := []) rfl rfl rfl rfl trivial ?_
  simp only [h1, true_and, and_self]

end Go.Proofs.YtgpgjaebhfhjoabDoor
