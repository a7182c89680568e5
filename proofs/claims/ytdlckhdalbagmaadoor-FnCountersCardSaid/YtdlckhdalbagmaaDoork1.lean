/- Contracts of functions, walked over the pure layer; each says for which arguments. -/
import Derived.Test.YtdlckhdalbagmaaDoork1Ty
import Derived.Test.YtdlckhdalbagmaaDoorTf
namespace Go.Proofs.YtdlckhdalbagmaaDoor
open Go.RowKit k1Ty
set_option linter.unusedVariables false
set_option linter.unusedSimpArgs false

theorem list_eq_ofI {α : Type} (d : α) (a b : List α) (h : a.length = b.length) (k : ∀ j, j < a.length → a.getD j d = b.getD j d) : a = b := by
  apply List.ext_getElem h
  intro j h1 h2
  have := k j h1
  simpa [h1, h2] using this
theorem take_snocI {α : Type} (d : α) (l : List α) (k : Nat) (h : k < l.length) : l.take (k + 1) = l.take k ++ [l.getD k d] := by
  rw [List.take_succ_eq_append_getElem h]; simp [h]
theorem fill_mapI {α : Type} (f : α → PV) (d : α) (a : List α) {k : Nat} (h : k < a.length) : putAt ((a.take k ++ List.replicate (a.length - k) d).map f) (k * 1) [f (a.getD k d)] = (a.take (k + 1) ++ List.replicate (a.length - (k + 1)) d).map f := by
  rw [put_map1 f _ (by simp; omega), take_snocI d a k h, List.set_append_right _ _ (by simp; omega), show k - (a.take k).length = 0 by simp; omega, show a.length - k = a.length - (k + 1) + 1 by omega, List.replicate_succ, List.set_cons_zero]
  simp
theorem list_ne_ofI {α : Type} (d : α) {a b : List α} (j : Nat) (k : a.getD j d ≠ b.getD j d) : a ≠ b := fun h => k (by rw [h])
def markI (n : Nat) (k : Int) : List Int := (List.range n).map fun (j : Nat) => k + j
theorem markI_len (n : Nat) (k : Int) : (markI n k).length = n := by simp [markI]
theorem markI_get (n : Nat) (k : Int) {j : Nat} (h : j < n) : (markI n k).getD j 0 = k + j := by
  simp [markI, h]
theorem markI_fill (l : List Int) (k : Int) {j : Nat} (h : j < l.length) : putAt ((markI j k ++ l.drop j).map (.int .i64)) (j * 1) [PV.int .i64 (k + j)] = (markI (j + 1) k ++ l.drop (j + 1)).map (.int .i64) := by
  rw [put_map1 (PV.int .i64) _ (by simp [markI]; omega), List.set_append_right _ _ (by simp [markI]), show j - (markI j k).length = 0 by simp [markI], List.drop_eq_getElem_cons h, List.set_cons_zero]
  simp [markI, List.range_succ]

def digT : List Int := [63, 6, 91, 79, 102, 109, 125, 7, 127, 111]
def digOf (c : Int) : Int := if c = 63 then 0 else if c = 6 then 1 else if c = 91 then 2 else if c = 79 then 3 else if c = 102 then 4 else if c = 109 then 5 else if c = 125 then 6 else if c = 7 then 7 else if c = 127 then 8 else if c = 111 then 9 else -1
theorem digOf_at {d : Int} {c : Int} (h0 : 0 ≤ d) (h1 : d ≤ 9) (h : digT.getD d.toNat 0 = c) : digOf c = d := by
  have : d = 0 ∨ d = 1 ∨ d = 2 ∨ d = 3 ∨ d = 4 ∨ d = 5 ∨ d = 6 ∨ d = 7 ∨ d = 8 ∨ d = 9 := by omega
  subst h
  rcases this with rfl | rfl | rfl | rfl | rfl | rfl | rfl | rfl | rfl | rfl <;> rfl
theorem digOf_none {c : Int} (h : ∀ j : Nat, j < 10 → digT.getD j 0 ≠ c) : digOf c = -1 := by
  have k0 := h 0 (by omega); have k1 := h 1 (by omega); have k2 := h 2 (by omega); have k3 := h 3 (by omega); have k4 := h 4 (by omega)
  have k5 := h 5 (by omega); have k6 := h 6 (by omega); have k7 := h 7 (by omega); have k8 := h 8 (by omega); have k9 := h 9 (by omega)
  simp [digT] at k0 k1 k2 k3 k4 k5 k6 k7 k8 k9
  unfold digOf
  repeat rw [if_neg (by omega)]
theorem digOf_le (c : Int) : -1 ≤ digOf c ∧ digOf c ≤ 9 := by
  unfold digOf
  repeat' split
  all_goals omega
def RowP (l : List Int) : Prop := l.length ≤ 6 ∧ ∀ x ∈ l, 0 ≤ x ∧ x ≤ 127
instance (l : List Int) : Decidable (RowP l) := by unfold RowP; infer_instance
theorem RowP.at {l : List Int} (h : RowP l) {j : Nat} (hj : j < l.length) : 0 ≤ l.getD j 0 ∧ l.getD j 0 ≤ 127 := by
  have : l.getD j 0 = l[j] := by simp [hj]
  rw [this]; exact h.2 _ (List.getElem_mem hj)
theorem RowP.of {l : List Int} (h0 : l.length ≤ 6) (h : ∀ j, j < l.length → 0 ≤ l.getD j 0 ∧ l.getD j 0 ≤ 127) : RowP l := ⟨h0, fun x hx => by
  obtain ⟨j, hj, rfl⟩ := List.getElem_of_mem hx
  have := h j hj
  simpa [hj] using this⟩
def cnt7 (n : Nat) : Nat := n % 2 + n / 2 % 2 + n / 4 % 2 + n / 8 % 2 + n / 16 % 2 + n / 32 % 2 + n / 64 % 2
def turn7 (n : Nat) : Nat := n / 8 % 2 + 2 * (n / 16 % 2) + 4 * (n / 32 % 2) + 8 * (n % 2) + 16 * (n / 2 % 2) + 32 * (n / 4 % 2) + 64 * (n / 64 % 2)
def mir7 (n : Nat) : Nat := n % 2 + 2 * (n / 32 % 2) + 4 * (n / 16 % 2) + 8 * (n / 8 % 2) + 16 * (n / 4 % 2) + 32 * (n / 2 % 2) + 64 * (n / 64 % 2)
def bars7 (n : Nat) : List UInt8 := ((List.range 7).filter (fun k => Nat.beq (n / 2 ^ k % 2) 1)).map fun k => UInt8.ofNat (97 + k)

set_option maxRecDepth 4000 in
theorem spec_l1In (x a b : Int) : PCalls Tryd.prog 101 [.int .i64 x, .int .i64 a, .int .i64 b] (· = [.val (.bool (decide (a ≤ x ∧ x ≤ b)))]) := by
  refine pcalls_of_code (n := 15) az Tryd.func101 (by kernel_rfl) rfl rfl (Nat.le_of_ble_eq_true rfl) (by intro t u h; simp [Tryd.f101] at h) ?_
  refine code_seq (fun K1 hK1 => ?_)
  refine code_region ?_
  refine list_cons rfl (op_q (q_assign rfl (by decide)) ?_)
  refine list_nil ?_
  refine hK1 _ ?_; clear hK1 K1
  refine code_seq (fun K2 hK2 => ?_)
  refine code_region ?_
  refine list_cons rfl (op_q (q_move rfl (by decide)) ?_)
  refine list_cons rfl (op_q (q_move rfl (by decide)) ?_)
  refine list_cons rfl (op_q (q_ge rfl rfl (by decide)) ?_)
  refine list_cons rfl (op_q (q_move rfl (by decide)) ?_)
  refine list_guard_d rfl rfl rfl rfl (by decide) rfl (by decide) (fun h1 => ?_) (fun h1 => ?_)
  · simp only [Bool.false_eq_true, if_true, if_false, Decidable.not_not] at h1
    refine id (op_q (q_move rfl (by decide)) ?_)
    refine list_guard_y rfl rfl rfl rfl (by decide) rfl ?_
    refine id (op_q (q_move rfl (by decide)) ?_)
    refine list_guard_y rfl rfl rfl rfl (by decide) rfl ?_
    refine id (op_q (q_le rfl rfl (by decide)) ?_)
    refine list_cons rfl (op_q (q_pick rfl rfl (by decide)) ?_)
    refine list_cons rfl (op_q (q_assign rfl (by decide)) ?_)
    refine list_nil ?_
    refine hK2 _ ?_; clear hK2 K2
    refine codeT.imp (σ' := [(0, _), (1, _), (2, _), (6, _)]) ?_ (imp_covers ⟨rfl, rfl, rfl, rfl, trivial⟩)
    refine code_ret ?_
    refine ends_ret (cs := []) rfl rfl rfl rfl trivial ?_
    simp [h1]
  simp only [Bool.false_eq_true, if_true, if_false, Decidable.not_not] at h1
  refine list_guard_n rfl rfl rfl rfl (by decide) rfl ?_
  refine list_guard_n rfl rfl rfl rfl (by decide) rfl ?_
  refine list_cons rfl (op_q (q_pick rfl rfl (by decide)) ?_)
  refine list_cons rfl (op_q (q_assign rfl (by decide)) ?_)
  refine list_nil ?_
  refine hK2 _ ?_; clear hK2 K2
  refine code_ret ?_
  refine ends_ret (cs := []) rfl rfl rfl rfl trivial ?_
  simp [h1]

set_option maxRecDepth 4000 in
theorem spec_l1Most (a b : Int) : PCalls Tryd.prog 143 [.int .i64 a, .int .i64 b] (· = [.val (.int .i64 (if b < a then a else b))]) := by
  refine pcalls_of_code (n := 10) az Tryd.func143 (by kernel_rfl) rfl rfl (Nat.le_of_ble_eq_true rfl) (by intro t u h; simp [Tryd.f143] at h) ?_
  refine code_seq (fun K1 hK1 => ?_)
  refine code_region ?_
  refine list_cons rfl (op_q (q_assign rfl (by decide)) ?_)
  refine list_nil ?_
  refine hK1 _ ?_; clear hK1 K1
  refine code_seq (fun K2 hK2 => ?_)
  refine code_seq (fun K3 hK3 => ?_)
  refine code_region ?_
  refine list_cons rfl (op_q (q_move rfl (by decide)) ?_)
  refine list_cons rfl (op_q (q_move rfl (by decide)) ?_)
  refine list_cons rfl (op_q (q_gt rfl rfl (by decide)) ?_)
  refine list_nil ?_
  refine hK3 _ ?_; clear hK3 K3
  refine code_cond_d rfl (fun h1 => ?_) (fun h1 => ?_)
  · skip
    (try simp only [Decidable.not_not] at h1)
    refine code_seq (fun K4 hK4 => ?_)
    refine code_region ?_
    refine list_cons rfl (op_q (q_move rfl (by decide)) ?_)
    refine list_cons rfl (op_q (q_assign rfl (by decide)) ?_)
    refine list_nil ?_
    refine hK4 _ ?_; clear hK4 K4
    refine code_ret ?_
    refine then_r ?_; clear hK2 K2
    refine ends_ret (cs := []) rfl rfl rfl rfl trivial ?_
    rw [if_pos h1]
  (try simp only [Decidable.not_not] at h1)
  refine code_skip ?_
  refine hK2 _ ?_; clear hK2 K2
  refine code_seq (fun K5 hK5 => ?_)
  refine code_region ?_
  refine list_cons rfl (op_q (q_move rfl (by decide)) ?_)
  refine list_cons rfl (op_q (q_assign rfl (by decide)) ?_)
  refine list_nil ?_
  refine hK5 _ ?_; clear hK5 K5
  refine code_ret ?_
  refine ends_ret (cs := []) rfl rfl rfl rfl trivial ?_
  rw [if_neg h1]

set_option maxRecDepth 100000 in
theorem spec_l2Digit (c : Int) (h0 : 0 ≤ c) (h1 : c ≤ 9) : PCalls Tryd.prog 148 [.int .i64 c] (· = [.val (.int .i64 (digT.getD c.toNat 0))]) := by
  have h := below_int (p := fun i => oneInt (crun Tf.tf noExt 200 6 148 [.int .i64 (Int.ofNat i)]) (digT.getD i 0)) (k := 10) (by kernel_rfl) h0 (by omega)
  have e : Int.ofNat c.toNat = c := Int.toNat_of_nonneg h0
  rw [e] at h
  exact pcalls_run Tf.tf (oneInt_ok h)

set_option maxRecDepth 100000 in
theorem spec_l2Count (c : Int) (h0 : 0 ≤ c) (h1 : c ≤ 127) : PCalls Tryd.prog 93 [.int .i64 c] (· = [.val (.int .i64 (((cnt7 c.toNat : Nat) : Int)))]) := by
  have h := below_int (p := fun i => oneInt (crun Tf.tf noExt 200 6 93 [.int .i64 (Int.ofNat i)]) (((cnt7 i : Nat) : Int))) (k := 128) (by kernel_rfl) h0 (by omega)
  have e : Int.ofNat c.toNat = c := Int.toNat_of_nonneg h0
  rw [e] at h
  exact pcalls_run Tf.tf (oneInt_ok h)

theorem foldl_take {α β : Type} (f : β → α → β) (d : α) (l : List α) (b : β) {k : Nat} (h : k < l.length) : (l.take (k + 1)).foldl f b = f ((l.take k).foldl f b) (l.getD k d) := by
  rw [take_snocI d l k h, List.foldl_append]; rfl
theorem map_take {α β : Type} (f : α → β) (d : α) (l : List α) {k : Nat} (h : k < l.length) : (l.take (k + 1)).map f = (l.take k).map f ++ [f (l.getD k d)] := by
  rw [take_snocI d l k h, List.map_append]; rfl
theorem rev_drop {α : Type} (d : α) (l : List α) {k : Nat} (h : k < l.length) : (l.drop k).reverse = (l.drop (k + 1)).reverse ++ [l.getD k d] := by
  rw [List.drop_eq_getElem_cons h, List.reverse_cons]; simp [h]
theorem xor7 {a b : Int} (ha : 0 ≤ a ∧ a ≤ 127) (hb : 0 ≤ b ∧ b ≤ 127) : ((a.toNat ^^^ b.toNat : Nat) : Int) ≤ 127 := by
  have := @Nat.xor_lt_two_pow a.toNat b.toNat 7 (by omega) (by omega)
  omega
theorem cnt7_le (n : Nat) : cnt7 n ≤ 7 := by unfold cnt7; omega
theorem turn7_le (n : Nat) : turn7 n ≤ 127 := by unfold turn7; omega
theorem mir7_le (n : Nat) : mir7 n ≤ 127 := by unfold mir7; omega
def turnC (x : Int) : Int := ((turn7 x.toNat : Nat) : Int)
def mirC (x : Int) : Int := ((mir7 x.toNat : Nat) : Int)
theorem turnC_cell (x : Int) : 0 ≤ turnC x ∧ turnC x ≤ 127 := by have := turn7_le x.toNat; unfold turnC; omega
theorem mirC_cell (x : Int) : 0 ≤ mirC x ∧ mirC x ≤ 127 := by have := mir7_le x.toNat; unfold mirC; omega
def turnL (l : List Int) : List Int := l.reverse.map turnC
def mirL (l : List Int) : List Int := l.reverse.map mirC
theorem turnL_len (l : List Int) : (turnL l).length = l.length := by simp [turnL]
theorem mirL_len (l : List Int) : (mirL l).length = l.length := by simp [mirL]
/-- The row of a number. -/
def rowN (n : Nat) : List Int := if h : n < 10 then [digT.getD n 0] else rowN (n / 10) ++ [digT.getD (n % 10) 0]
termination_by n
decreasing_by omega
theorem rowN_lt {n : Nat} (h : n < 10) : rowN n = [digT.getD n 0] := by rw [rowN, dif_pos h]
theorem rowN_ge {n : Nat} (h : ¬ n < 10) : rowN n = rowN (n / 10) ++ [digT.getD (n % 10) 0] := by rw [rowN, dif_neg h]
/-- What of the row stands ahead of its last cell. -/
def rowP (n : Nat) : List Int := if n < 10 then [] else rowN (n / 10)
theorem rowP_cat (n : Nat) : rowN n = rowP n ++ [digT.getD (n % 10) 0] := by
  unfold rowP
  by_cases h : n < 10
  · rw [if_pos h, rowN_lt h, Nat.mod_eq_of_lt h]; rfl
  · rw [if_neg h, rowN_ge h]
theorem rowN_len : ∀ (k n : Nat), 1 ≤ k → n < 10 ^ k → (rowN n).length ≤ k ∧ 1 ≤ (rowN n).length
  | 0, n, h, _ => by omega
  | k + 1, n, _, h => by
    by_cases hn : n < 10
    · rw [rowN_lt hn]; simp
    · rw [rowN_ge hn]
      have h1 : 1 ≤ k := by
        rcases Nat.eq_zero_or_pos k with e | e
        · subst e; simp at h; omega
        · exact e
      have h2 : n / 10 < 10 ^ k := by rw [Nat.pow_succ] at h; omega
      have := rowN_len k (n / 10) h1 h2
      simp; omega
theorem digT_cell (n : Nat) : 0 ≤ digT.getD n 0 ∧ digT.getD n 0 ≤ 127 := by
  by_cases h : n < 10
  · have : n = 0 ∨ n = 1 ∨ n = 2 ∨ n = 3 ∨ n = 4 ∨ n = 5 ∨ n = 6 ∨ n = 7 ∨ n = 8 ∨ n = 9 := by omega
    rcases this with rfl | rfl | rfl | rfl | rfl | rfl | rfl | rfl | rfl | rfl <;> decide
  · have : digT.getD n 0 = 0 := by unfold List.getD; rw [List.getElem?_eq_none (by simp [digT]; omega)]; rfl
    rw [this]; omega
theorem rowN_cells : ∀ (k n : Nat), n < k → ∀ x ∈ rowN n, 0 ≤ x ∧ x ≤ 127
  | 0, n, h => by omega
  | k + 1, n, h => by
    intro x hx
    by_cases hn : n < 10
    · rw [rowN_lt hn] at hx; simp only [List.mem_singleton] at hx; subst hx; exact digT_cell _
    · rw [rowN_ge hn] at hx
      rcases List.mem_append.1 hx with hx | hx
      · exact rowN_cells k (n / 10) (by omega) x hx
      · simp only [List.mem_singleton] at hx; subst hx; exact digT_cell _
theorem rowN_row {n : Nat} (h : n ≤ 999999) : RowP (rowN n) := ⟨(rowN_len 6 n (by omega) (by omega)).1, rowN_cells (n + 1) n (by omega)⟩
def DigsP (l : List Int) : Prop := ∀ x ∈ l, 0 ≤ digOf x
instance (l : List Int) : Decidable (DigsP l) := by unfold DigsP; infer_instance
def numF (l : List Int) : Int := l.foldl (fun n x => 10 * n + digOf x) 0
theorem DigsP.at {l : List Int} (h : DigsP l) {j : Nat} (hj : j < l.length) : 0 ≤ digOf (l.getD j 0) := by
  have : l.getD j 0 = l[j] := by simp [hj]
  rw [this]; exact h _ (List.getElem_mem hj)
theorem DigsP.of {l : List Int} (h : ∀ j, j < l.length → 0 ≤ digOf (l.getD j 0)) : DigsP l := fun x hx => by
  obtain ⟨j, hj, rfl⟩ := List.getElem_of_mem hx
  have := h j hj
  simpa [hj] using this
theorem pow10_le {i : Nat} (h : i ≤ 6) : 10 ^ i ≤ 1000000 := Nat.pow_le_pow_right (n := 10) (by omega) h
def litF (l : List Int) : Int := l.foldl (fun n x => n + ((cnt7 x.toNat : Nat) : Int)) 0
def cntAlike : Nat → Nat
  | 0 => if turnL (rowN 0) = rowN 0 then 1 else 0
  | k + 1 => cntAlike k + if turnL (rowN (k + 1)) = rowN (k + 1) then 1 else 0
def alikeTo (k : Nat) : Nat := ((List.range k).filter fun j => turnL (rowN j) = rowN j).length
theorem alikeTo_succ (k : Nat) : alikeTo (k + 1) = alikeTo k + if turnL (rowN k) = rowN k then 1 else 0 := by
  unfold alikeTo
  rw [List.range_succ, List.filter_append, List.length_append]
  by_cases h : turnL (rowN k) = rowN k <;> simp [h]
theorem alikeTo_le (k : Nat) : alikeTo k ≤ k := by
  have := List.length_filter_le (fun j => decide (turnL (rowN j) = rowN j)) (List.range k)
  simpa [alikeTo] using this

set_option maxRecDepth 4000 in
theorem spec_l2Far (a b : Int) (ha : 0 ≤ a ∧ a ≤ 127) (hb : 0 ≤ b ∧ b ≤ 127) : PCalls Tryd.prog 160 [.int .i64 a, .int .i64 b] (· = [.val (.int .i64 (((cnt7 (a.toNat ^^^ b.toNat) : Nat) : Int)))]) := by
  refine pcalls_of_code (n := 9) az Tryd.func160 (by kernel_rfl) rfl rfl (Nat.le_of_ble_eq_true rfl) (by intro t u h; simp [Tryd.f160] at h) ?_
  refine code_seq (fun K1 hK1 => ?_)
  refine code_region ?_
  refine list_cons rfl (op_q (q_assign rfl (by decide)) ?_)
  refine list_nil ?_
  refine hK1 _ ?_; clear hK1 K1
  refine code_seq (fun K2 hK2 => ?_)
  refine code_region ?_
  refine list_cons rfl (op_q (q_move rfl (by decide)) ?_)
  refine list_cons rfl (op_q (q_move rfl (by decide)) ?_)
  refine list_cons rfl (op_q (by first | exact q_xorI rfl rfl (by decide) (by omega) (by omega) (by omega) (by omega) | exact q_ib rfl rfl rfl (by decide)) ?_)
  refine list_cons rfl (op_call _ (spec_l2Count _ (by omega) (xor7 ha hb)) rfl rfl (by decide) (by decide) (by decide) rfl ?_)
  rintro _ rfl
  refine list_cons rfl (op_q (q_assign rfl (by decide)) ?_)
  refine list_nil ?_
  refine hK2 _ ?_; clear hK2 K2
  refine codeT.imp (σ' := [(0, _), (1, _), (4, _)]) ?_ (imp_covers ⟨rfl, rfl, rfl, trivial⟩)
  refine code_ret ?_
  refine ends_ret (cs := []) rfl rfl rfl rfl trivial ?_
  rfl

set_option maxRecDepth 4000 in
theorem spec_l2RowOf (n : Int) (h0 : 0 ≤ n) (h1 : n ≤ 999999) : PCalls Tryd.prog 147 [.int .i64 n] (· = [.own 0 3 1 (rowN n.toNat).length ((rowN n.toNat).map (.int .i64))]) := by
  refine pcalls_of_code (n := 19) az Tryd.func147 (by kernel_rfl) rfl rfl (Nat.le_of_ble_eq_true rfl) (by intro t u h; simp [Tryd.f147] at h) ?_
  have hlen := (rowN_len 6 n.toNat (by omega) (by omega)).1
  refine code_seq (fun K1 hK1 => ?_)
  refine code_region ?_
  refine list_cons rfl (op_q (q_assign rfl (by decide)) ?_)
  refine list_nil ?_
  refine hK1 _ ?_; clear hK1 K1
  refine code_seq (fun K2 hK2 => ?_)
  refine code_region ?_
  refine list_cons rfl (op_q (q_move rfl (by decide)) ?_)
  refine list_cons rfl (op_q (by first | exact q_remI rfl rfl (by decide) (by omega) (by omega) | exact q_rem rfl rfl (by omega) (by decide)) ?_)
  refine list_cons rfl (op_call _ (spec_l2Digit _ (by omega) (by omega)) rfl rfl (by decide) (by decide) (by decide) rfl ?_)
  rintro _ rfl
  refine list_cons rfl (op_buildSlice sl_35 (parts := [(0, .tmp 6)]) rfl rfl rfl (by decide) (by decide) (by decide) rfl ?_)
  refine list_cons rfl (op_q (q_assign rfl (by decide)) ?_)
  refine list_nil ?_
  refine hK2 _ ?_; clear hK2 K2
  refine codeT.imp (σ' := [(0, _), (2, _), (3, _)]) ?_ (imp_covers ⟨rfl, rfl, rfl, trivial⟩)
  refine code_seq (fun K3 hK3 => ?_)
  refine code_block ?_
  refine code_loop (X := Int × PV × Nat × List PV) (fun x => [(0, .val (.int .i64 x.1)), (2, .val x.2.1), (3, .own 7 3 1 x.2.2.1 x.2.2.2)]) (fun x => 0 ≤ x.1 ∧ x.1 ≤ 999999 ∧ ∃ l : List Int, x.2.2.1 = l.length ∧ x.2.2.2 = l.map (.int .i64) ∧ rowP x.1.toNat ++ l = rowN n.toNat) (fun x => x.1.toNat) (_, _, _, _) (imp_covers ⟨rfl, rfl, rfl, trivial⟩) ?_ ?_
  · (try dsimp only)
    refine ⟨by omega, by omega, [digT.getD (n % 10).toNat 0], rfl, rfl, ?_⟩
    rw [rowP_cat n.toNat, show (n % 10).toNat = n.toNat % 10 by omega]
  · intro x hI
    obtain ⟨n_, t2_p, out_n, out_c⟩ := x
    replace hI : 0 ≤ n_ ∧ n_ ≤ 999999 ∧ ∃ l : List Int, out_n = l.length ∧ out_c = l.map (.int .i64) ∧ rowP n_.toNat ++ l = rowN n.toNat := hI
    show codeT _ _ _ [(0, .val (.int .i64 n_)), (2, .val t2_p), (3, .own 7 3 1 out_n out_c)] _
    obtain ⟨i1, i2, l, rfl, rfl, i3⟩ := hI
    have hlen2 : l.length ≤ 6 := by have := congrArg List.length i3; simp at this; omega
    refine code_seq (fun K4 hK4 => ?_)
    refine code_seq (fun K5 hK5 => ?_)
    refine code_region ?_
    refine list_cons rfl (op_q (q_move rfl (by decide)) ?_)
    refine list_cons rfl (op_q (q_ge rfl rfl (by decide)) ?_)
    refine list_nil ?_
    refine hK5 _ ?_; clear hK5 K5
    refine code_cond_d rfl (fun h1 => ?_) (fun h1 => ?_)
    · skip
      (try simp only [Decidable.not_not] at h1)
      refine code_skip ?_
      refine hK4 _ ?_; clear hK4 K4
      refine code_block ?_
      refine code_seq (fun K6 hK6 => ?_)
      refine code_region ?_
      refine list_cons rfl (op_q (q_move rfl (by decide)) ?_)
      refine list_cons rfl (op_q (by first | exact q_quoI rfl rfl (by decide) (by omega) (by omega) (by omega) | exact q_quoT rfl rfl (by omega) (by decide) (by omega) (by omega) | exact q_quo rfl rfl (by omega) (by decide)) ?_)
      refine list_cons rfl (op_q (q_assign rfl (by decide)) ?_)
      refine list_nil ?_
      refine hK6 _ ?_; clear hK6 K6
      refine code_region ?_
      refine list_cons rfl (op_q (q_move rfl (by decide)) ?_)
      refine list_cons rfl (op_q (by first | exact q_remI rfl rfl (by decide) (by omega) (by omega) | exact q_rem rfl rfl (by omega) (by decide)) ?_)
      refine list_cons rfl (op_call _ (spec_l2Digit _ (by omega) (by omega)) rfl rfl (by decide) (by decide) (by decide) rfl ?_)
      rintro _ rfl
      refine list_cons rfl (op_buildSlice sl_35 (parts := [(0, .tmp 14)]) rfl rfl rfl (by decide) (by decide) (by decide) rfl ?_)
      refine list_cons rfl (op_q (q_move rfl (by decide)) ?_)
      refine list_cons rfl (op_append_gen sl_35 (l := 15) (.inl rfl) rfl rfl (l2 := none) (.inl ⟨rfl, (by first | rfl | exact flat_map _ (fun _ => rfl) _)⟩) (by simp) (by omega) (by decide) (by decide) (by decide) ?_)
      refine list_cons rfl (op_q (q_assign rfl (by decide)) ?_)
      refine list_nil ?_
      refine blk_n ?_
      refine then_n ⟨(_, _, _, _), (imp_covers (σ' := [(0, _), (2, _), (3, _)]) ⟨rfl, rfl, rfl, trivial⟩).trans ((imp_ren 15 7 (by decide) (by decide) rfl).trans (imp_covers ⟨rfl, rfl, rfl, trivial⟩)), ?_, ?_⟩
      · (try dsimp only)
        refine ⟨by omega, by omega, [digT.getD (n_ / 10 % 10).toNat 0] ++ l, by simp; omega, by simp; rfl, ?_⟩
        rw [← i3, show rowP n_.toNat = rowN (n_.toNat / 10) by unfold rowP; rw [if_neg (by omega)], rowP_cat (n_.toNat / 10), show (n_ / 10).toNat = n_.toNat / 10 by omega, show (n_ / 10 % 10).toNat = n_.toNat / 10 % 10 by omega]
        simp
      · (try dsimp only); omega
    (try simp only [Decidable.not_not] at h1)
    refine code_exit ?_
    refine then_x ?_; clear hK4 K4
    refine then_x ?_
    refine blk_hit ?_
    refine hK3 _ ?_; clear hK3 K3
    refine codeT.imp (σ' := [(0, _), (2, _), (3, _)]) ?_ (imp_covers ⟨rfl, rfl, rfl, trivial⟩)
    refine code_seq (fun K7 hK7 => ?_)
    refine code_region ?_
    refine list_cons rfl (op_q (q_move rfl (by decide)) ?_)
    refine list_cons rfl (op_q (q_assign rfl (by decide)) ?_)
    refine list_nil ?_
    refine hK7 _ ?_; clear hK7 K7
    refine code_ret ?_
    refine ends_ret (cs := []) rfl rfl rfl rfl trivial ?_
    have e : rowP n_.toNat = [] := by unfold rowP; rw [if_pos (by omega)]
    rw [e] at i3
    rw [← i3]; rfl

theorem list_eqI {α : Type} (d : α) (a b : List α) (h : a.length = b.length) (k : ∀ j, j < a.length → a.getD j d = b.getD j d) : a = b := by
  apply List.ext_getElem h
  intro j h1 h2
  have := k j h1
  simpa [h1, h2] using this
/-- Letters of bars in order. -/
def OrdP (s : List UInt8) : Prop := ∀ i, i < s.length → 97 ≤ (s.getD i 0).toNat ∧ (s.getD i 0).toNat ≤ 103 ∧ (0 < i → (s.getD (i - 1) 0).toNat < (s.getD i 0).toNat)
instance (s : List UInt8) : Decidable (OrdP s) := by unfold OrdP; infer_instance
def orF (s : List UInt8) : Nat := s.foldl (fun c b => c ||| 2 ^ (b.toNat - 97)) 0
theorem orF_snoc (s : List UInt8) {k : Nat} (h : k < s.length) : orF (s.take (k + 1)) = orF (s.take k) ||| 2 ^ ((s.getD k 0).toNat - 97) := by
  unfold orF; rw [foldl_take _ 0 _ _ h]
theorem or7 {a k : Nat} (ha : a < 128) (hk : k ≤ 6) : a ||| 2 ^ k < 128 := by
  have : 2 ^ k < 2 ^ 7 := Nat.pow_lt_pow_right (by omega) (by omega)
  exact @Nat.or_lt_two_pow a (2 ^ k) 7 (by omega) this
theorem orF_lt (s : List UInt8) (h : OrdP s) : ∀ k, k ≤ s.length → orF (s.take k) < 128
  | 0, _ => by rw [List.take_zero]; decide
  | k + 1, hk => by
    rw [orF_snoc s (by omega)]
    have h1 := (h k (by omega)).2.1
    exact or7 (orF_lt s h k (by omega)) (by omega)
theorem orF_all {s : List UInt8} (h : OrdP s) : orF s < 128 := by have := orF_lt s h s.length (Nat.le_refl _); rwa [List.take_length] at this
def pieceT (x : Int) : List UInt8 := (if x = 0 then [45] else []) ++ bars7 x.toNat
def textG (l : List Int) : Nat → List UInt8
  | 0 => []
  | k + 1 => (if 0 < k then textG l k ++ [32] else []) ++ pieceT (l.getD k 0)
def textF (l : List Int) : List UInt8 := textG l l.length
theorem bars7_len (n : Nat) : (bars7 n).length ≤ 7 := by
  unfold bars7
  rw [List.length_map]
  exact Nat.le_trans (List.length_filter_le _ _) (by simp)
theorem textG_len (l : List Int) : ∀ k, (textG l k).length ≤ 9 * k
  | 0 => by simp [textG]
  | k + 1 => by
    have := textG_len l k
    have h2 := bars7_len (l.getD k 0).toNat
    rw [textG]
    by_cases hk : 0 < k
    · rw [if_pos hk]; unfold pieceT; split <;> simp only [List.length_append, List.length_cons, List.length_nil] <;> omega
    · rw [if_neg hk]; unfold pieceT; split <;> simp only [List.length_append, List.length_cons, List.length_nil] <;> omega


def top4 (k : Int) : Int := ((10 ^ k.toNat : Nat) : Int)
theorem top4_le {k : Int} (h0 : 0 ≤ k) (h : k ≤ 6) : 1 ≤ top4 k ∧ top4 k ≤ 1000000 := by
  unfold top4
  have := pow10_le (i := k.toNat) (by omega)
  have h1 : 0 < 10 ^ k.toNat := Nat.pow_pos (by omega)
  omega
/-- A counter of k cells shows n. -/
def Cn (n k : Int) : Prop := (1 ≤ k ∧ k ≤ 6) ∧ 0 ≤ n ∧ n ≤ top4 k - 1
instance (n k : Int) : Decidable (Cn n k) := by unfold Cn; infer_instance
theorem Cn_bd {n k : Int} (h : Cn n k) : 1 ≤ k ∧ k ≤ 6 ∧ 0 ≤ n ∧ n ≤ 999999 := by
  have ht := top4_le (k := k) (by have := h.1; omega) h.1.2
  have := h.1; have := h.2; omega
/-- The row of a counter of so many cells. -/
def rowK : Nat → Nat → List Int
  | 0, _ => []
  | k + 1, n => rowK k (n / 10) ++ [digT.getD (n % 10) 0]
theorem rowK_len : ∀ k n, (rowK k n).length = k
  | 0, _ => rfl
  | k + 1, n => by simp [rowK, rowK_len k]
theorem rowK_cells : ∀ k n, ∀ x ∈ rowK k n, 0 ≤ x ∧ x ≤ 127
  | 0, _, x, h => by cases h
  | k + 1, n, x, h => by
    simp only [rowK, List.mem_append, List.mem_singleton] at h
    rcases h with h | rfl
    · exact rowK_cells k _ x h
    · exact digT_cell _
theorem rowK_zero : ∀ k, rowK k 0 = List.replicate k (digT.getD 0 0)
  | 0 => rfl
  | k + 1 => by rw [rowK, show 0 / 10 = 0 from rfl, rowK_zero k, List.replicate_succ']
theorem rowK_pad : ∀ k n, 1 ≤ k → n < 10 ^ k → rowK k n = List.replicate (k - (rowN n).length) (digT.getD 0 0) ++ rowN n
  | 0, _, h, _ => by omega
  | k + 1, n, _, h => by
    rw [rowK]
    by_cases hn : n < 10
    · rw [rowN_lt hn, show n / 10 = 0 by omega, rowK_zero, Nat.mod_eq_of_lt hn]; simp
    · have h1 : 1 ≤ k := by
        rcases Nat.eq_zero_or_pos k with e | e
        · subst e; simp at h; omega
        · exact e
      rw [rowN_ge hn, rowK_pad k (n / 10) h1 (by rw [Nat.pow_succ] at h; omega)]
      simp
theorem rowK_at {k n i : Nat} (h : i < k) : 0 ≤ (rowK k n).getD i 0 ∧ (rowK k n).getD i 0 ≤ 127 := by
  have hl := rowK_len k n
  have : (rowK k n).getD i 0 = (rowK k n)[i] := by simp [hl, h]
  rw [this]; exact rowK_cells k n _ (List.getElem_mem _)
/-- The changes between the first i cells of two rows. -/
def chgK (a b : List Int) : Nat → Int
  | 0 => 0
  | i + 1 => chgK a b i + ((cnt7 ((a.getD i 0).toNat ^^^ (b.getD i 0).toNat) : Nat) : Int)
theorem chgK_le (a b : List Int) : ∀ i : Nat, 0 ≤ chgK a b i ∧ chgK a b i ≤ 7 * i
  | 0 => by simp [chgK]
  | i + 1 => by
    have := chgK_le a b i
    have h := cnt7_le ((a.getD i 0).toNat ^^^ (b.getD i 0).toNat)
    unfold chgK; omega
/-- The number behind a step. -/
def nextC (n k : Int) : Int := (n + 1) % top4 k
theorem nextC_ok {n k : Int} (h : Cn n k) : Cn (nextC n k) k := by
  have ht := top4_le (k := k) (by have := h.1; omega) h.1.2
  refine ⟨h.1, ?_⟩
  unfold nextC
  have := Int.emod_nonneg (n + 1) (b := top4 k) (by omega)
  have := Int.emod_lt_of_pos (n + 1) (b := top4 k) (by omega)
  omega
theorem nextC_in {n k : Int} (h : Cn n k) (h1 : n + 1 < top4 k) : nextC n k = n + 1 := by
  unfold nextC; exact Int.emod_eq_of_lt (by have := h.2; omega) h1
theorem nextC_top {n k : Int} (h : Cn n k) (h1 : ¬ n + 1 < top4 k) : nextC n k = 0 := by
  have : n + 1 = top4 k := by have := h.2; omega
  unfold nextC; rw [this]; exact Int.emod_self
def rowC (n k : Int) : List Int := rowK k.toNat n.toNat
theorem rowC_len (n : Int) {k : Int} (h : 0 ≤ k) : ((rowC n k).length : Int) = k := by unfold rowC; rw [rowK_len]; omega
def stepC (n k : Int) : Int := chgK (rowC n k) (rowC (nextC n k) k) k.toNat
theorem stepC_le {n k : Int} (h : k ≤ 6) : 0 ≤ stepC n k ∧ stepC n k ≤ 42 := by
  have := chgK_le (rowC n k) (rowC (nextC n k) k) k.toNat
  unfold stepC; omega
/-- The number at which a counter stands behind i steps. -/
def atC (n k : Int) (i : Nat) : Int := (n + i) % top4 k
theorem atC_ok {n k : Int} (h : Cn n k) (i : Nat) : Cn (atC n k i) k := by
  have ht := top4_le (k := k) (by have := h.1; omega) h.1.2
  refine ⟨h.1, ?_⟩
  unfold atC
  have := Int.emod_nonneg (n + i) (b := top4 k) (by omega)
  have := Int.emod_lt_of_pos (n + i) (b := top4 k) (by omega)
  omega
theorem atC_0 {n k : Int} (h : Cn n k) : atC n k 0 = n := by
  unfold atC; rw [show n + ((0 : Nat) : Int) = n by omega]; exact Int.emod_eq_of_lt h.2.1 (by have := h.2; omega)
theorem atC_succ (n k : Int) (i : Nat) : atC n k (i + 1) = nextC (atC n k i) k := by
  unfold atC nextC
  rw [Int.emod_add_emod, show n + ((i + 1 : Nat) : Int) = n + (i : Int) + 1 by omega]
/-- The changes of so many steps. -/
def runC (n k : Int) : Nat → Int
  | 0 => 0
  | i + 1 => runC n k i + stepC (atC n k i) k
/-- How many bars light in i rows from n on. -/
def lightC (n k : Int) : Nat → Int
  | 0 => 0
  | i + 1 => lightC n k i + litF (rowC (atC n k i) k)
theorem litF_le : ∀ l : List Int, 0 ≤ litF l ∧ litF l ≤ 7 * l.length := by
  have key : ∀ (l : List Int) (b : Int), b ≤ l.foldl (fun n x => n + ((cnt7 x.toNat : Nat) : Int)) b ∧ l.foldl (fun n x => n + ((cnt7 x.toNat : Nat) : Int)) b ≤ b + 7 * l.length := by
    intro l
    induction l with
    | nil => intro b; simp
    | cons x l ih =>
      intro b
      have h1 := ih (b + ((cnt7 x.toNat : Nat) : Int))
      have h2 := cnt7_le x.toNat
      simp only [List.foldl_cons, List.length_cons]
      omega
  intro l
  have := key l 0
  unfold litF
  omega
theorem litF_take (l : List Int) {i : Nat} (h : i < l.length) : litF (l.take (i + 1)) = litF (l.take i) + ((cnt7 (l.getD i 0).toNat : Nat) : Int) := by
  unfold litF; rw [foldl_take _ 0 l 0 h]
theorem lightC_le {n k : Int} (h0 : 0 ≤ k) (h : k ≤ 6) : ∀ i : Nat, 0 ≤ lightC n k i ∧ lightC n k i ≤ 42 * i
  | 0 => by simp [lightC]
  | i + 1 => by
    have := lightC_le (n := n) h0 h i
    have h2 := litF_le (rowC (atC n k i) k)
    have h3 := rowC_len (atC n k i) h0
    unfold lightC; omega
theorem rowC_row {n k : Int} (h : k ≤ 6) : RowP (rowC n k) := ⟨by unfold rowC; rw [rowK_len]; omega, rowK_cells _ _⟩
/-- The first number of steps whose changes are enough. -/
def overC (n k ch : Int) : Option Nat := (List.range 1001).find? fun i => decide (ch ≤ runC n k i)
theorem overC_some {n k ch : Int} {i : Nat} (h : i ≤ 1000) (h1 : ch ≤ runC n k i) (h2 : ∀ j, j < i → ¬ ch ≤ runC n k j) : overC n k ch = some i := by
  unfold overC
  rw [List.find?_eq_some_iff_getElem]
  refine ⟨by simpa using h1, i, by simp; omega, by simp, fun j hj => by simp; have := h2 j hj; omega⟩
theorem overC_none {n k ch : Int} (h2 : ∀ j, j ≤ 1000 → ¬ ch ≤ runC n k j) : overC n k ch = none := by
  unfold overC
  rw [List.find?_eq_none]
  intro i hi
  have := h2 i (by have := List.mem_range.1 hi; omega)
  simpa using this
def overV (o : Option Nat) : Int := match o with | some i => i | none => 0
theorem runC_le {n k : Int} (h : k ≤ 6) : ∀ i : Nat, 0 ≤ runC n k i ∧ runC n k i ≤ 42 * i
  | 0 => by simp [runC]
  | i + 1 => by
    have := runC_le (n := n) h i
    have h2 := stepC_le (n := atC n k i) h
    unfold runC; omega

set_option maxRecDepth 4000 in
theorem spec_l4Top (k : Int) (h0 : 0 ≤ k) (h1 : k ≤ 6) : PCalls Tryd.prog 91 [.int .i64 k] (· = [.val (.int .i64 (top4 k))]) := by
  refine pcalls_of_code (n := 13) az Tryd.func91 (by kernel_rfl) rfl rfl (Nat.le_of_ble_eq_true rfl) (by intro t u h; simp [Tryd.f91] at h) ?_
  refine code_seq (fun K1 hK1 => ?_)
  refine code_region ?_
  refine list_cons rfl (op_q (q_assign rfl (by decide)) ?_)
  refine list_nil ?_
  refine hK1 _ ?_; clear hK1 K1
  refine code_seq (fun K2 hK2 => ?_)
  refine code_region ?_
  refine list_cons rfl (op_q (q_assign rfl (by decide)) ?_)
  refine list_nil ?_
  refine hK2 _ ?_; clear hK2 K2
  refine code_seq (fun K3 hK3 => ?_)
  refine code_seq (fun K4 hK4 => ?_)
  refine code_region ?_
  refine list_cons rfl (op_q (q_assign rfl (by decide)) ?_)
  refine list_nil ?_
  refine hK4 _ ?_; clear hK4 K4
  refine code_block ?_
  refine code_loop (X := Int × Int × Int) (fun x => [(0, .val (.int .i64 k)), (2, .val (.int .i64 x.1)), (3, .val (.int .i64 x.2.1)), (4, .val (.int .i64 x.2.2))]) (fun x => 0 ≤ x.2.2 ∧ x.2.2 ≤ k ∧ x.2.1 = top4 x.2.2) (fun x => (k - x.2.2).toNat) (_, _, _) (imp_covers ⟨rfl, rfl, rfl, rfl, trivial⟩) ?_ ?_
  · (try dsimp only)
    exact ⟨by omega, by omega, rfl⟩
  · intro x hI
    obtain ⟨t2, n, i⟩ := x
    replace hI : 0 ≤ i ∧ i ≤ k ∧ n = top4 i := hI
    show codeT _ _ _ [(0, .val (.int .i64 k)), (2, .val (.int .i64 t2)), (3, .val (.int .i64 n)), (4, .val (.int .i64 i))] _
    obtain ⟨i1, i2, rfl⟩ := hI
    have ht := top4_le i1 (by omega)
    refine code_seq (fun K5 hK5 => ?_)
    refine code_seq (fun K6 hK6 => ?_)
    refine code_region ?_
    refine list_cons rfl (op_q (q_move rfl (by decide)) ?_)
    refine list_cons rfl (op_q (q_move rfl (by decide)) ?_)
    refine list_cons rfl (op_q (q_lt rfl rfl (by decide)) ?_)
    refine list_nil ?_
    refine hK6 _ ?_; clear hK6 K6
    refine code_cond_d rfl (fun h1 => ?_) (fun h1 => ?_)
    · skip
      (try simp only [Decidable.not_not] at h1)
      refine code_skip ?_
      refine hK5 _ ?_; clear hK5 K5
      refine code_seq (fun K7 hK7 => ?_)
      refine code_block ?_
      refine code_region ?_
      refine list_cons rfl (op_q (q_move rfl (by decide)) ?_)
      refine list_cons rfl (op_q (by first | exact q_mulI rfl rfl (by decide) (by omega) (by omega) | exact q_ib rfl rfl rfl (by decide)) ?_)
      refine list_cons rfl (op_q (q_assign rfl (by decide)) ?_)
      refine list_nil ?_
      refine blk_n ?_
      refine hK7 _ ?_; clear hK7 K7
      refine code_region ?_
      refine list_cons rfl (op_q (q_move rfl (by decide)) ?_)
      refine list_cons rfl (op_q (by first | exact q_addI rfl rfl (by decide) (by omega) (by omega) | exact q_ib rfl rfl rfl (by decide)) ?_)
      refine list_cons rfl (op_q (q_assign rfl (by decide)) ?_)
      refine list_nil ?_
      refine then_n ⟨(_, _, _), imp_covers ⟨rfl, rfl, rfl, rfl, trivial⟩, ?_, ?_⟩
      · (try dsimp only)
        refine ⟨by omega, by omega, ?_⟩
        unfold top4
        rw [show (i + 1).toNat = i.toNat + 1 by omega, Nat.pow_succ]; omega
      · (try dsimp only); omega
    (try simp only [Decidable.not_not] at h1)
    refine code_exit ?_
    refine then_x ?_; clear hK5 K5
    refine then_x ?_
    refine blk_hit ?_
    refine hK3 _ ?_; clear hK3 K3
    refine code_seq (fun K8 hK8 => ?_)
    refine code_region ?_
    refine list_cons rfl (op_q (q_move rfl (by decide)) ?_)
    refine list_cons rfl (op_q (q_assign rfl (by decide)) ?_)
    refine list_nil ?_
    refine hK8 _ ?_; clear hK8 K8
    refine code_ret ?_
    refine ends_ret (cs := []) rfl rfl rfl rfl trivial ?_
    rw [show i = k by omega]

set_option maxRecDepth 4000 in
theorem spec_l4Good (n s k : Int) : PCalls Tryd.prog 87 [.int .i64 n, .int .i64 s, .int .i64 k] (· = [.val (.bool (decide ((1 ≤ k ∧ k ≤ 6) ∧ (0 ≤ n ∧ n ≤ top4 k - 1) ∧ (0 ≤ s ∧ s ≤ 1000))))]) := by
  refine pcalls_of_code (n := 20) az Tryd.func87 (by kernel_rfl) rfl rfl (Nat.le_of_ble_eq_true rfl) (by intro t u h; simp [Tryd.f87] at h) ?_
  refine code_seq (fun K1 hK1 => ?_)
  refine code_region ?_
  refine list_cons rfl (op_q (q_assign rfl (by decide)) ?_)
  refine list_nil ?_
  refine hK1 _ ?_; clear hK1 K1
  refine code_seq (fun K2 hK2 => ?_)
  refine code_region ?_
  refine list_cons rfl (op_q (q_move rfl (by decide)) ?_)
  refine list_cons rfl (op_call _ (spec_l1In _ _ _) rfl rfl (by decide) (by decide) (by decide) rfl ?_)
  rintro _ rfl
  refine list_cons rfl (op_q (q_move rfl (by decide)) ?_)
  refine list_guard_d rfl rfl rfl rfl (by decide) rfl (by decide) (fun h1 => ?_) (fun h1 => ?_)
  · simp only [Bool.false_eq_true, if_true, if_false, Decidable.not_not] at h1
    refine id (op_q (q_move rfl (by decide)) ?_)
    refine list_guard_y rfl rfl rfl rfl (by decide) rfl ?_
    refine id (op_q (q_move rfl (by decide)) ?_)
    refine list_guard_y rfl rfl rfl rfl (by decide) rfl ?_
    refine id (op_call _ (spec_l4Top k (by omega) (by omega)) rfl rfl (by decide) (by decide) (by decide) rfl ?_)
    rintro _ rfl; have ht := top4_le (k := k) (by omega) (by omega)
    refine list_guard_y rfl rfl rfl rfl (by decide) rfl ?_
    refine id (op_q (by first | exact q_subI rfl rfl (by decide) (by omega) (by omega) | exact q_ib rfl rfl rfl (by decide)) ?_)
    refine list_guard_y rfl rfl rfl rfl (by decide) rfl ?_
    refine id (op_call _ (spec_l1In _ _ _) rfl rfl (by decide) (by decide) (by decide) rfl ?_)
    rintro _ rfl
    refine list_cons rfl (op_q (q_pick rfl rfl (by decide)) ?_)
    refine list_cons rfl (op_q (q_move rfl (by decide)) ?_)
    refine list_guard_d rfl rfl rfl rfl (by decide) rfl (by decide) (fun h2 => ?_) (fun h2 => ?_)
    · simp only [Bool.false_eq_true, if_true, if_false, Decidable.not_not] at h2
      refine id (op_q (q_move rfl (by decide)) ?_)
      refine list_guard_y rfl rfl rfl rfl (by decide) rfl ?_
      refine id (op_call _ (spec_l1In _ _ _) rfl rfl (by decide) (by decide) (by decide) rfl ?_)
      rintro _ rfl
      refine list_cons rfl (op_q (q_pick rfl rfl (by decide)) ?_)
      refine list_cons rfl (op_q (q_assign rfl (by decide)) ?_)
      refine list_nil ?_
      refine hK2 _ ?_; clear hK2 K2
      refine codeT.imp (σ' := [(0, _), (1, _), (2, _), (6, _)]) ?_ (imp_covers ⟨rfl, rfl, rfl, rfl, trivial⟩)
      refine code_ret ?_
      refine ends_ret (cs := []) rfl rfl rfl rfl trivial ?_
      first | (simp only [List.cons.injEq, SV.val.injEq, PV.bool.injEq, and_true, decide_eq_decide]; omega) | (have e : ¬ ((1 ≤ k ∧ k ≤ 6) ∧ (0 ≤ n ∧ n ≤ top4 k - 1) ∧ (0 ≤ s ∧ s ≤ 1000)) := (by omega); simp only [decide_eq_false e])
    simp only [Bool.false_eq_true, if_true, if_false, Decidable.not_not] at h2
    refine list_guard_n rfl rfl rfl rfl (by decide) rfl ?_
    refine list_cons rfl (op_q (q_pick rfl rfl (by decide)) ?_)
    refine list_cons rfl (op_q (q_assign rfl (by decide)) ?_)
    refine list_nil ?_
    refine hK2 _ ?_; clear hK2 K2
    refine codeT.imp (σ' := [(0, _), (1, _), (2, _), (6, _)]) ?_ (imp_covers ⟨rfl, rfl, rfl, rfl, trivial⟩)
    refine code_ret ?_
    refine ends_ret (cs := []) rfl rfl rfl rfl trivial ?_
    first | (simp only [List.cons.injEq, SV.val.injEq, PV.bool.injEq, and_true, decide_eq_decide]; omega) | (have e : ¬ ((1 ≤ k ∧ k ≤ 6) ∧ (0 ≤ n ∧ n ≤ top4 k - 1) ∧ (0 ≤ s ∧ s ≤ 1000)) := (by omega); simp only [decide_eq_false e])
  simp only [Bool.false_eq_true, if_true, if_false, Decidable.not_not] at h1
  refine list_guard_n rfl rfl rfl rfl (by decide) rfl ?_
  refine list_guard_n rfl rfl rfl rfl (by decide) rfl ?_
  refine list_guard_n rfl rfl rfl rfl (by decide) rfl ?_
  refine list_guard_n rfl rfl rfl rfl (by decide) rfl ?_
  refine list_cons rfl (op_q (q_pick rfl rfl (by decide)) ?_)
  refine list_cons rfl (op_q (q_move rfl (by decide)) ?_)
  refine list_guard_n rfl rfl rfl rfl (by decide) rfl ?_
  refine list_guard_n rfl rfl rfl rfl (by decide) rfl ?_
  refine list_cons rfl (op_q (q_pick rfl rfl (by decide)) ?_)
  refine list_cons rfl (op_q (q_assign rfl (by decide)) ?_)
  refine list_nil ?_
  refine hK2 _ ?_; clear hK2 K2
  refine code_ret ?_
  refine ends_ret (cs := []) rfl rfl rfl rfl trivial ?_
  first | (simp only [List.cons.injEq, SV.val.injEq, PV.bool.injEq, and_true, decide_eq_decide]; omega) | (have e : ¬ ((1 ≤ k ∧ k ≤ 6) ∧ (0 ≤ n ∧ n ≤ top4 k - 1) ∧ (0 ≤ s ∧ s ≤ 1000)) := (by omega); simp only [decide_eq_false e])

set_option maxRecDepth 4000 in
theorem spec_l4Row (n k : Int) (h : Cn n k) : PCalls Tryd.prog 92 [.int .i64 n, .int .i64 k] (· = [.own 0 3 1 (rowC n k).length ((rowC n k).map (.int .i64))]) := by
  refine pcalls_of_code (n := 17) az Tryd.func92 (by kernel_rfl) rfl rfl (Nat.le_of_ble_eq_true rfl) (by intro t u h; simp [Tryd.f92] at h) ?_
  obtain ⟨⟨h1, h2⟩, h3, h4⟩ := h
  have ht := top4_le (k := k) (by omega) (by omega)
  have hp := rowK_pad k.toNat n.toNat (by omega) (by unfold top4 at h4; omega)
  have hl := rowN_len k.toNat n.toNat (by omega) (by unfold top4 at h4; omega)
  refine code_seq (fun K1 hK1 => ?_)
  refine code_region ?_
  refine list_cons rfl (op_q (q_assign rfl (by decide)) ?_)
  refine list_nil ?_
  refine hK1 _ ?_; clear hK1 K1
  refine code_seq (fun K2 hK2 => ?_)
  refine code_region ?_
  refine list_cons rfl (op_q (q_move rfl (by decide)) ?_)
  refine list_cons rfl (op_call _ (spec_l2RowOf _ (by omega) (by omega)) rfl rfl (by decide) (by decide) (by decide) rfl ?_)
  rintro _ rfl
  refine list_cons rfl (op_q (q_assign rfl (by decide)) ?_)
  refine list_nil ?_
  refine hK2 _ ?_; clear hK2 K2
  refine codeT.imp (σ' := [(0, _), (1, _), (4, _), (5, _)]) ?_ (imp_covers ⟨rfl, rfl, rfl, rfl, trivial⟩)
  refine code_seq (fun K3 hK3 => ?_)
  refine code_block ?_
  refine code_loop (X := PV × Nat × List PV) (fun x => [(0, .val (.int .i64 n)), (1, .val (.int .i64 k)), (4, .val x.1), (5, .own 7 3 1 x.2.1 x.2.2)]) (fun x => ∃ j : Nat, (rowN n.toNat).length + j ≤ k.toNat ∧ x.2.1 = (rowN n.toNat).length + j ∧ x.2.2 = (List.replicate j (digT.getD 0 0) ++ rowN n.toNat).map (.int .i64)) (fun x => k.toNat - x.2.1) (_, _, _) (imp_covers ⟨rfl, rfl, rfl, rfl, trivial⟩) ?_ ?_
  · (try dsimp only)
    exact ⟨0, by omega, by omega, by simp⟩
  · intro x hI
    obtain ⟨t4_p, out_n, out_c⟩ := x
    replace hI : ∃ j : Nat, (rowN n.toNat).length + j ≤ k.toNat ∧ out_n = (rowN n.toNat).length + j ∧ out_c = (List.replicate j (digT.getD 0 0) ++ rowN n.toNat).map (.int .i64) := hI
    show codeT _ _ _ [(0, .val (.int .i64 n)), (1, .val (.int .i64 k)), (4, .val t4_p), (5, .own 7 3 1 out_n out_c)] _
    obtain ⟨j, i1, rfl, rfl⟩ := hI
    refine code_seq (fun K4 hK4 => ?_)
    refine code_seq (fun K5 hK5 => ?_)
    refine code_region ?_
    refine list_cons rfl (op_q (q_move rfl (by decide)) ?_)
    refine list_cons rfl (op_q (q_len_sl Tryd.underlying35 rfl rfl (by decide)) ?_)
    refine list_cons rfl (op_q (q_move rfl (by decide)) ?_)
    refine list_cons rfl (op_q (q_lt rfl rfl (by decide)) ?_)
    refine list_nil ?_
    refine hK5 _ ?_; clear hK5 K5
    refine code_cond_d rfl (fun h1 => ?_) (fun h1 => ?_)
    · skip
      (try simp only [Decidable.not_not] at h1)
      refine code_skip ?_
      refine hK4 _ ?_; clear hK4 K4
      refine code_block ?_
      refine code_region ?_
      refine list_cons rfl (op_call _ (spec_l2Digit _ (by omega) (by omega)) rfl rfl (by decide) (by decide) (by decide) rfl ?_)
      rintro _ rfl
      refine list_cons rfl (op_buildSlice sl_35 (parts := [(0, .tmp 12)]) rfl rfl rfl (by decide) (by decide) (by decide) rfl ?_)
      refine list_cons rfl (op_q (q_move rfl (by decide)) ?_)
      refine list_cons rfl (op_append_gen sl_35 (l := 13) (.inl rfl) rfl rfl (l2 := none) (.inl ⟨rfl, (by first | rfl | exact flat_map _ (fun _ => rfl) _)⟩) (by first | (simp; done) | (simp; omega)) (by omega) (by decide) (by decide) (by decide) ?_)
      refine list_cons rfl (op_q (q_assign rfl (by decide)) ?_)
      refine list_nil ?_
      refine blk_n ?_
      refine then_n ⟨(_, _, _), (imp_covers (σ' := [(0, _), (1, _), (4, _), (5, _)]) ⟨rfl, rfl, rfl, rfl, trivial⟩).trans ((imp_ren 13 7 (by decide) (by decide) rfl).trans (imp_covers ⟨rfl, rfl, rfl, rfl, trivial⟩)), ?_, ?_⟩
      · (try dsimp only)
        exact ⟨j + 1, by omega, by omega, by rw [List.replicate_succ]; rfl⟩
      · (try dsimp only); omega
    (try simp only [Decidable.not_not] at h1)
    refine code_exit ?_
    refine then_x ?_; clear hK4 K4
    refine then_x ?_
    refine blk_hit ?_
    refine hK3 _ ?_; clear hK3 K3
    refine codeT.imp (σ' := [(0, _), (1, _), (4, _), (5, _)]) ?_ (imp_covers ⟨rfl, rfl, rfl, rfl, trivial⟩)
    refine code_seq (fun K6 hK6 => ?_)
    refine code_region ?_
    refine list_cons rfl (op_q (q_move rfl (by decide)) ?_)
    refine list_cons rfl (op_q (q_assign rfl (by decide)) ?_)
    refine list_nil ?_
    refine hK6 _ ?_; clear hK6 K6
    refine code_ret ?_
    refine ends_ret (cs := []) rfl rfl rfl rfl trivial ?_
    unfold rowC
    have ej : k.toNat - (rowN n.toNat).length = j := by omega
    rw [hp, ej, Nat.add_comm (rowN n.toNat).length j]
    simp

set_option maxRecDepth 4000 in
theorem spec_CounterRow (n k : Int) : PCalls Tryd.prog 28 [.int .i64 n, .int .i64 k] (· = [.own 0 3 1 (if Cn n k then rowC n k else []).length ((if Cn n k then rowC n k else []).map (.int .i64)), .val (.bool (decide (Cn n k)))]) := by
  refine pcalls_of_code (n := 14) az Tryd.func28 (by kernel_rfl) rfl rfl (Nat.le_of_ble_eq_true rfl) (by intro t u h; simp [Tryd.f28] at h) ?_
  refine code_seq (fun K1 hK1 => ?_)
  refine code_region ?_
  refine list_cons rfl (op_q (q_assign rfl (by decide)) ?_)
  refine list_cons rfl (op_q (q_assign rfl (by decide)) ?_)
  refine list_nil ?_
  refine hK1 _ ?_; clear hK1 K1
  refine code_seq (fun K2 hK2 => ?_)
  refine code_seq (fun K3 hK3 => ?_)
  refine code_region ?_
  refine list_cons rfl (op_q (q_move rfl (by decide)) ?_)
  refine list_cons rfl (op_q (q_move rfl (by decide)) ?_)
  refine list_cons rfl (op_call _ (spec_l4Good _ _ _) rfl rfl (by decide) (by decide) (by decide) rfl ?_)
  rintro _ rfl
  refine list_cons rfl (op_q (by first | exact q_notd rfl (by decide) | exact q_not rfl (by decide)) ?_)
  refine list_nil ?_
  refine hK3 _ ?_; clear hK3 K3
  refine codeT.imp (σ' := [(0, _), (1, _), (4, _), (5, _), (9, _)]) ?_ (imp_covers ⟨rfl, rfl, rfl, rfl, rfl, trivial⟩)
  refine code_cond_d rfl (fun h1 => ?_) (fun h1 => ?_)
  · skip
    (try simp only [Decidable.not_not] at h1)
    refine code_seq (fun K4 hK4 => ?_)
    refine code_region ?_
    refine list_cons rfl (op_buildSlice sl_35 (parts := []) rfl rfl rfl (by decide) (by decide) (by decide) rfl ?_)
    refine list_cons rfl (op_q (q_assign rfl (by decide)) ?_)
    refine list_cons rfl (op_q (q_assign rfl (by decide)) ?_)
    refine list_nil ?_
    refine hK4 _ ?_; clear hK4 K4
    refine code_ret ?_
    refine then_r ?_; clear hK2 K2
    refine ends_ret (cs := []) rfl rfl rfl rfl trivial ?_
    first
      | (have e : ¬ Cn n k := by unfold Cn; omega
         simp only [if_neg e, decide_eq_false e]; rfl)
      | (have e : Cn n k := by unfold Cn; omega
         simp only [if_pos e, decide_eq_true e])
  (try simp only [Decidable.not_not] at h1)
  refine code_skip ?_
  refine hK2 _ ?_; clear hK2 K2
  refine code_seq (fun K5 hK5 => ?_)
  refine code_region ?_
  refine list_cons rfl (op_q (q_move rfl (by decide)) ?_)
  refine list_cons rfl (op_q (q_move rfl (by decide)) ?_)
  refine list_cons rfl (op_call _ (spec_l4Row n k (by unfold Cn; omega)) rfl rfl (by decide) (by decide) (by decide) rfl ?_)
  rintro _ rfl
  refine list_cons rfl (op_q (q_assign rfl (by decide)) ?_)
  refine list_cons rfl (op_q (q_assign rfl (by decide)) ?_)
  refine list_nil ?_
  refine hK5 _ ?_; clear hK5 K5
  refine codeT.imp (σ' := [(0, _), (1, _), (4, _), (5, _)]) ?_ (imp_covers ⟨rfl, rfl, rfl, rfl, trivial⟩)
  refine code_ret ?_
  refine ends_ret (cs := []) rfl rfl rfl rfl trivial ?_
  first
    | (have e : ¬ Cn n k := by unfold Cn; omega
       simp only [if_neg e, decide_eq_false e]; rfl)
    | (have e : Cn n k := by unfold Cn; omega
       simp only [if_pos e, decide_eq_true e])

set_option maxRecDepth 4000 in
theorem spec_l4Changes (a b : List Int) (hl : a.length ≤ b.length) (hl6 : a.length ≤ 6) (ha : ∀ i, i < a.length → 0 ≤ a.getD i 0 ∧ a.getD i 0 ≤ 127) (hb : ∀ i, i < a.length → 0 ≤ b.getD i 0 ∧ b.getD i 0 ≤ 127) : PCalls Tryd.prog 130 [.sl a.length (a.map (.int .i64)), .sl b.length (b.map (.int .i64))] (· = [.val (.int .i64 (chgK a b a.length))]) := by
  refine pcalls_of_code (n := 25) az Tryd.func130 (by kernel_rfl) rfl rfl (Nat.le_of_ble_eq_true rfl) (by intro t u h; simp [Tryd.f130] at h) ?_
  refine code_seq (fun K1 hK1 => ?_)
  refine code_region ?_
  refine list_cons rfl (op_q (q_assign rfl (by decide)) ?_)
  refine list_nil ?_
  refine hK1 _ ?_; clear hK1 K1
  refine code_seq (fun K2 hK2 => ?_)
  refine code_region ?_
  refine list_cons rfl (op_q (q_assign rfl (by decide)) ?_)
  refine list_nil ?_
  refine hK2 _ ?_; clear hK2 K2
  refine code_seq (fun K3 hK3 => ?_)
  refine code_seq (fun K4 hK4 => ?_)
  refine code_region ?_
  refine list_cons rfl (op_q (q_assign rfl (by decide)) ?_)
  refine list_nil ?_
  refine hK4 _ ?_; clear hK4 K4
  refine code_block ?_
  refine code_loop (X := Int × Int × Int) (fun x => [(0, .par 0 (.sl a.length (a.map (.int .i64)))), (1, .par 1 (.sl b.length (b.map (.int .i64)))), (4, .val (.int .i64 x.1)), (5, .val (.int .i64 x.2.1)), (6, .val (.int .i64 x.2.2))]) (fun x => 0 ≤ x.2.2 ∧ x.2.2 ≤ a.length ∧ x.2.1 = chgK a b x.2.2.toNat) (fun x => (a.length - x.2.2).toNat) (_, _, _) (imp_covers ⟨rfl, rfl, rfl, rfl, rfl, trivial⟩) ?_ ?_
  · (try dsimp only)
    exact ⟨by omega, by omega, rfl⟩
  · intro x hI
    obtain ⟨t4, sum, i⟩ := x
    replace hI : 0 ≤ i ∧ i ≤ a.length ∧ sum = chgK a b i.toNat := hI
    show codeT _ _ _ [(0, .par 0 (.sl a.length (a.map (.int .i64)))), (1, .par 1 (.sl b.length (b.map (.int .i64)))), (4, .val (.int .i64 t4)), (5, .val (.int .i64 sum)), (6, .val (.int .i64 i))] _
    obtain ⟨i1, i2, rfl⟩ := hI
    have hc := chgK_le a b i.toNat
    have hd := cnt7_le ((a.getD i.toNat 0).toNat ^^^ (b.getD i.toNat 0).toNat)
    refine code_seq (fun K5 hK5 => ?_)
    refine code_seq (fun K6 hK6 => ?_)
    refine code_region ?_
    refine list_cons rfl (op_q (q_move rfl (by decide)) ?_)
    refine list_cons rfl (op_q (q_move rfl (by decide)) ?_)
    refine list_cons rfl (op_q (q_len_sl Tryd.underlying35 rfl rfl (by decide)) ?_)
    refine list_cons rfl (op_q (q_lt rfl rfl (by decide)) ?_)
    refine list_nil ?_
    refine hK6 _ ?_; clear hK6 K6
    refine code_cond_d rfl (fun h1 => ?_) (fun h1 => ?_)
    · skip
      (try simp only [Decidable.not_not] at h1)
      refine code_skip ?_
      refine hK5 _ ?_; clear hK5 K5
      refine code_seq (fun K7 hK7 => ?_)
      refine code_block ?_
      refine code_draw (by kernel_rfl) (by kernel_rfl) ?_
      refine draw_q rfl (q_move rfl (by decide)) ?_
      refine draw_q rfl (q_move rfl (by decide)) ?_
      refine draw_q rfl (q_move rfl (by decide)) ?_
      refine draw_q rfl (q_indexAddr_rd sl_35 rfl (.inl ⟨_, rfl, rfl⟩) rfl (by omega) (by omega) (by decide)) ?_
      refine draw_q rfl (q_load_rd one_3 rfl (.inl ⟨_, (by first | rfl | exact congrArg (SV.rpar _) (drop_map1 _ 0 _ (by first | omega | (simp; omega)))), rfl⟩) (by decide)) ?_
      refine draw_q rfl (q_move rfl (by decide)) ?_
      refine draw_q rfl (q_move rfl (by decide)) ?_
      refine draw_q rfl (q_indexAddr_rd sl_35 rfl (.inl ⟨_, rfl, rfl⟩) rfl (by omega) (by omega) (by decide)) ?_
      refine draw_q rfl (q_load_rd one_3 rfl (.inl ⟨_, (by first | rfl | exact congrArg (SV.rpar _) (drop_map1 _ 0 _ (by first | omega | (simp; omega)))), rfl⟩) (by decide)) ?_
      refine draw_call _ (spec_l2Far _ _ (ha i.toNat (by omega)) (hb i.toNat (by omega))) rfl rfl rfl (by decide) ?_
      refine draw_q rfl (by first | exact q_addI rfl rfl (by decide) (by omega) (by omega) | exact q_ib rfl rfl rfl (by decide)) ?_
      refine draw_q rfl (q_assign rfl (by decide)) ?_
      refine draw_nil ?_
      refine blk_n ?_
      refine hK7 _ ?_; clear hK7 K7
      refine codeT.imp (σ' := [(0, _), (1, _), (4, _), (5, _), (6, _)]) ?_ (imp_covers ⟨rfl, rfl, rfl, rfl, rfl, trivial⟩)
      refine code_region ?_
      refine list_cons rfl (op_q (q_move rfl (by decide)) ?_)
      refine list_cons rfl (op_q (by first | exact q_addI rfl rfl (by decide) (by omega) (by omega) | exact q_ib rfl rfl rfl (by decide)) ?_)
      refine list_cons rfl (op_q (q_assign rfl (by decide)) ?_)
      refine list_nil ?_
      refine then_n ⟨(_, _, _), imp_covers ⟨rfl, rfl, rfl, rfl, rfl, trivial⟩, ?_, ?_⟩
      · (try dsimp only)
        refine ⟨by omega, by omega, ?_⟩
        rw [show (i + 1).toNat = i.toNat + 1 by omega, chgK]
      · (try dsimp only); omega
    (try simp only [Decidable.not_not] at h1)
    refine code_exit ?_
    refine then_x ?_; clear hK5 K5
    refine then_x ?_
    refine blk_hit ?_
    refine hK3 _ ?_; clear hK3 K3
    refine code_seq (fun K8 hK8 => ?_)
    refine code_region ?_
    refine list_cons rfl (op_q (q_move rfl (by decide)) ?_)
    refine list_cons rfl (op_q (q_assign rfl (by decide)) ?_)
    refine list_nil ?_
    refine hK8 _ ?_; clear hK8 K8
    refine code_ret ?_
    refine ends_ret (cs := []) rfl rfl rfl rfl trivial ?_
    rw [show i.toNat = a.length by omega]

theorem spec_l4ChangesC (n m k : Int) (h0 : 0 ≤ k) (h : k ≤ 6) : PCalls Tryd.prog 130 [.sl (rowC n k).length ((rowC n k).map (.int .i64)), .sl (rowC m k).length ((rowC m k).map (.int .i64))] (· = [.val (.int .i64 (chgK (rowC n k) (rowC m k) k.toNat))]) := by
  have h1 := rowK_len k.toNat n.toNat
  have h2 := rowK_len k.toNat m.toNat
  have := spec_l4Changes (rowC n k) (rowC m k) (by unfold rowC; omega) (by unfold rowC; omega) (fun i hi => rowK_at (by unfold rowC at hi; omega)) (fun i hi => rowK_at (by unfold rowC at hi; omega))
  have e : (rowC n k).length = k.toNat := h1
  rw [e] at this ⊢
  exact this

set_option maxRecDepth 4000 in
theorem spec_l4Step (n k : Int) (h : Cn n k) : PCalls Tryd.prog 96 [.int .i64 n, .int .i64 k] (· = [.val (.int .i64 (stepC n k))]) := by
  refine pcalls_of_code (n := 16) az Tryd.func96 (by kernel_rfl) rfl rfl (Nat.le_of_ble_eq_true rfl) (by intro t u h; simp [Tryd.f96] at h) ?_
  have hn := nextC_ok h
  have h0 := h
  obtain ⟨⟨h1, h2⟩, h3, h4⟩ := h0
  have ht := top4_le (k := k) (by omega) (by omega)
  refine code_seq (fun K1 hK1 => ?_)
  refine code_region ?_
  refine list_cons rfl (op_q (q_assign rfl (by decide)) ?_)
  refine list_nil ?_
  refine hK1 _ ?_; clear hK1 K1
  refine code_seq (fun K2 hK2 => ?_)
  refine code_region ?_
  refine list_cons rfl (op_q (q_move rfl (by decide)) ?_)
  refine list_cons rfl (op_q (q_move rfl (by decide)) ?_)
  refine list_cons rfl (op_call _ (spec_l4Row _ _ h) rfl rfl (by decide) (by decide) (by decide) rfl ?_)
  rintro _ rfl
  refine list_cons rfl (op_q (q_move rfl (by decide)) ?_)
  refine list_cons rfl (op_q (by first | exact q_addI rfl rfl (by decide) (by omega) (by omega) | exact q_ib rfl rfl rfl (by decide)) ?_)
  refine list_cons rfl (op_q (q_move rfl (by decide)) ?_)
  refine list_cons rfl (op_call _ (spec_l4Top _ (by omega) (by omega)) rfl rfl (by decide) (by decide) (by decide) rfl ?_)
  rintro _ rfl
  refine list_cons rfl (op_q (by first | exact q_remI rfl rfl (by decide) (by omega) (by omega) | exact q_rem rfl rfl (by omega) (by decide)) ?_)
  refine list_cons rfl (op_q (q_move rfl (by decide)) ?_)
  refine list_cons rfl (op_call _ (spec_l4Row (nextC n k) _ hn) rfl rfl (by decide) (by decide) (by decide) rfl ?_)
  rintro _ rfl
  refine list_cons rfl (op_call _ (spec_l4ChangesC n (nextC n k) k (by omega) (by omega)) rfl rfl (by decide) (by decide) (by decide) rfl ?_)
  rintro _ rfl
  refine list_cons rfl (op_q (q_assign rfl (by decide)) ?_)
  refine list_nil ?_
  refine hK2 _ ?_; clear hK2 K2
  refine codeT.imp (σ' := [(0, _), (1, _), (4, _)]) ?_ (imp_covers ⟨rfl, rfl, rfl, trivial⟩)
  refine code_ret ?_
  refine ends_ret (cs := []) rfl rfl rfl rfl trivial ?_
  rfl

set_option maxRecDepth 4000 in
theorem spec_StepChanges (n k : Int) : PCalls Tryd.prog 26 [.int .i64 n, .int .i64 k] (· = [.val (.int .i64 (if Cn n k then stepC n k else 0)), .val (.bool (decide (Cn n k)))]) := by
  refine pcalls_of_code (n := 13) az Tryd.func26 (by kernel_rfl) rfl rfl (Nat.le_of_ble_eq_true rfl) (by intro t u h; simp [Tryd.f26] at h) ?_
  refine code_seq (fun K1 hK1 => ?_)
  refine code_region ?_
  refine list_cons rfl (op_q (q_assign rfl (by decide)) ?_)
  refine list_cons rfl (op_q (q_assign rfl (by decide)) ?_)
  refine list_nil ?_
  refine hK1 _ ?_; clear hK1 K1
  refine code_seq (fun K2 hK2 => ?_)
  refine code_seq (fun K3 hK3 => ?_)
  refine code_region ?_
  refine list_cons rfl (op_q (q_move rfl (by decide)) ?_)
  refine list_cons rfl (op_q (q_move rfl (by decide)) ?_)
  refine list_cons rfl (op_call _ (spec_l4Good _ _ _) rfl rfl (by decide) (by decide) (by decide) rfl ?_)
  rintro _ rfl
  refine list_cons rfl (op_q (by first | exact q_notd rfl (by decide) | exact q_not rfl (by decide)) ?_)
  refine list_nil ?_
  refine hK3 _ ?_; clear hK3 K3
  refine codeT.imp (σ' := [(0, _), (1, _), (4, _), (5, _), (9, _)]) ?_ (imp_covers ⟨rfl, rfl, rfl, rfl, rfl, trivial⟩)
  refine code_cond_d rfl (fun h1 => ?_) (fun h1 => ?_)
  · skip
    (try simp only [Decidable.not_not] at h1)
    refine code_seq (fun K4 hK4 => ?_)
    refine code_region ?_
    refine list_cons rfl (op_q (q_assign rfl (by decide)) ?_)
    refine list_cons rfl (op_q (q_assign rfl (by decide)) ?_)
    refine list_nil ?_
    refine hK4 _ ?_; clear hK4 K4
    refine code_ret ?_
    refine then_r ?_; clear hK2 K2
    refine ends_ret (cs := []) rfl rfl rfl rfl trivial ?_
    first
      | (have e : ¬ Cn n k := by unfold Cn; omega
         simp only [if_neg e, decide_eq_false e])
      | (have e : Cn n k := by unfold Cn; omega
         simp only [if_pos e, decide_eq_true e])
  (try simp only [Decidable.not_not] at h1)
  refine code_skip ?_
  refine hK2 _ ?_; clear hK2 K2
  refine code_seq (fun K5 hK5 => ?_)
  refine code_region ?_
  refine list_cons rfl (op_q (q_move rfl (by decide)) ?_)
  refine list_cons rfl (op_q (q_move rfl (by decide)) ?_)
  refine list_cons rfl (op_call _ (spec_l4Step n k (by unfold Cn; omega)) rfl rfl (by decide) (by decide) (by decide) rfl ?_)
  rintro _ rfl
  refine list_cons rfl (op_q (q_assign rfl (by decide)) ?_)
  refine list_cons rfl (op_q (q_assign rfl (by decide)) ?_)
  refine list_nil ?_
  refine hK5 _ ?_; clear hK5 K5
  refine codeT.imp (σ' := [(0, _), (1, _), (4, _), (5, _)]) ?_ (imp_covers ⟨rfl, rfl, rfl, rfl, trivial⟩)
  refine code_ret ?_
  refine ends_ret (cs := []) rfl rfl rfl rfl trivial ?_
  first
    | (have e : ¬ Cn n k := by unfold Cn; omega
       simp only [if_neg e, decide_eq_false e])
    | (have e : Cn n k := by unfold Cn; omega
       simp only [if_pos e, decide_eq_true e])

set_option maxRecDepth 4000 in
theorem spec_l4Run (n s k : Int) (h : Cn n k) (h0 : 0 ≤ s) (h1 : s ≤ 1000) : PCalls Tryd.prog 88 [.int .i64 n, .int .i64 s, .int .i64 k] (· = [.val (.int .i64 (runC n k s.toNat))]) := by
  refine pcalls_of_code (n := 25) az Tryd.func88 (by kernel_rfl) rfl rfl (Nat.le_of_ble_eq_true rfl) (by intro t u h; simp [Tryd.f88] at h) ?_
  have hh := h
  obtain ⟨⟨g1, g2⟩, g3, g4⟩ := hh
  have ht := top4_le (k := k) (by omega) (by omega)
  refine code_seq (fun K1 hK1 => ?_)
  refine code_region ?_
  refine list_cons rfl (op_q (q_assign rfl (by decide)) ?_)
  refine list_nil ?_
  refine hK1 _ ?_; clear hK1 K1
  refine code_seq (fun K2 hK2 => ?_)
  refine code_region ?_
  refine list_cons rfl (op_q (q_assign rfl (by decide)) ?_)
  refine list_nil ?_
  refine hK2 _ ?_; clear hK2 K2
  refine code_seq (fun K3 hK3 => ?_)
  refine code_seq (fun K4 hK4 => ?_)
  refine code_region ?_
  refine list_cons rfl (op_q (q_assign rfl (by decide)) ?_)
  refine list_nil ?_
  refine hK4 _ ?_; clear hK4 K4
  refine code_block ?_
  refine code_loop (X := Int × Int × Int) (fun x => [(0, .val (.int .i64 n)), (1, .val (.int .i64 s)), (2, .val (.int .i64 k)), (6, .val (.int .i64 x.1)), (7, .val (.int .i64 x.2.1)), (8, .val (.int .i64 x.2.2))]) (fun x => 0 ≤ x.2.2 ∧ x.2.2 ≤ s ∧ x.2.1 = runC n k x.2.2.toNat) (fun x => (s - x.2.2).toNat) (_, _, _) (imp_covers ⟨rfl, rfl, rfl, rfl, rfl, rfl, trivial⟩) ?_ ?_
  · (try dsimp only)
    exact ⟨by omega, by omega, rfl⟩
  · intro x hI
    obtain ⟨t6, sum, i⟩ := x
    replace hI : 0 ≤ i ∧ i ≤ s ∧ sum = runC n k i.toNat := hI
    show codeT _ _ _ [(0, .val (.int .i64 n)), (1, .val (.int .i64 s)), (2, .val (.int .i64 k)), (6, .val (.int .i64 t6)), (7, .val (.int .i64 sum)), (8, .val (.int .i64 i))] _
    obtain ⟨i1, i2, rfl⟩ := hI
    have hc := runC_le (n := n) (k := k) (by omega) i.toNat
    have hs := stepC_le (n := atC n k i.toNat) (k := k) (by omega)
    have ha := atC_ok h i.toNat
    have hi : atC n k i.toNat = (n + i) % top4 k := by unfold atC; rw [Int.toNat_of_nonneg i1]
    refine code_seq (fun K5 hK5 => ?_)
    refine code_seq (fun K6 hK6 => ?_)
    refine code_region ?_
    refine list_cons rfl (op_q (q_move rfl (by decide)) ?_)
    refine list_cons rfl (op_q (q_move rfl (by decide)) ?_)
    refine list_cons rfl (op_q (q_lt rfl rfl (by decide)) ?_)
    refine list_nil ?_
    refine hK6 _ ?_; clear hK6 K6
    refine code_cond_d rfl (fun h1 => ?_) (fun h1 => ?_)
    · skip
      (try simp only [Decidable.not_not] at h1)
      refine code_skip ?_
      refine hK5 _ ?_; clear hK5 K5
      refine code_seq (fun K7 hK7 => ?_)
      refine code_block ?_
      refine code_region ?_
      refine list_cons rfl (op_q (q_move rfl (by decide)) ?_)
      refine list_cons rfl (op_q (q_move rfl (by decide)) ?_)
      refine list_cons rfl (op_q (q_move rfl (by decide)) ?_)
      refine list_cons rfl (op_q (by first | exact q_addI rfl rfl (by decide) (by omega) (by omega) | exact q_ib rfl rfl rfl (by decide)) ?_)
      refine list_cons rfl (op_q (q_move rfl (by decide)) ?_)
      refine list_cons rfl (op_call _ (spec_l4Top _ (by omega) (by omega)) rfl rfl (by decide) (by decide) (by decide) rfl ?_)
      rintro _ rfl
      refine list_cons rfl (op_q (by first | exact q_remI rfl rfl (by decide) (by omega) (by omega) | exact q_rem rfl rfl (by omega) (by decide)) ?_)
      refine list_cons rfl (op_q (q_move rfl (by decide)) ?_)
      refine list_cons rfl (op_call _ ((by rw [← hi]; exact spec_l4Step _ _ ha)) rfl rfl (by decide) (by decide) (by decide) rfl ?_)
      rintro _ rfl
      refine list_cons rfl (op_q (by first | exact q_addI rfl rfl (by decide) (by omega) (by omega) | exact q_ib rfl rfl rfl (by decide)) ?_)
      refine list_cons rfl (op_q (q_assign rfl (by decide)) ?_)
      refine list_nil ?_
      refine blk_n ?_
      refine hK7 _ ?_; clear hK7 K7
      refine codeT.imp (σ' := [(0, _), (1, _), (2, _), (6, _), (7, _), (8, _)]) ?_ (imp_covers ⟨rfl, rfl, rfl, rfl, rfl, rfl, trivial⟩)
      refine code_region ?_
      refine list_cons rfl (op_q (q_move rfl (by decide)) ?_)
      refine list_cons rfl (op_q (by first | exact q_addI rfl rfl (by decide) (by omega) (by omega) | exact q_ib rfl rfl rfl (by decide)) ?_)
      refine list_cons rfl (op_q (q_assign rfl (by decide)) ?_)
      refine list_nil ?_
      refine then_n ⟨(_, _, _), imp_covers ⟨rfl, rfl, rfl, rfl, rfl, rfl, trivial⟩, ?_, ?_⟩
      · (try dsimp only)
        refine ⟨by omega, by omega, ?_⟩
        rw [show (i + 1).toNat = i.toNat + 1 by omega, runC]
      · (try dsimp only); omega
    (try simp only [Decidable.not_not] at h1)
    refine code_exit ?_
    refine then_x ?_; clear hK5 K5
    refine then_x ?_
    refine blk_hit ?_
    refine hK3 _ ?_; clear hK3 K3
    refine code_seq (fun K8 hK8 => ?_)
    refine code_region ?_
    refine list_cons rfl (op_q (q_move rfl (by decide)) ?_)
    refine list_cons rfl (op_q (q_assign rfl (by decide)) ?_)
    refine list_nil ?_
    refine hK8 _ ?_; clear hK8 K8
    refine code_ret ?_
    refine ends_ret (cs := []) rfl rfl rfl rfl trivial ?_
    rw [show i.toNat = s.toNat by omega]

set_option maxRecDepth 4000 in
theorem spec_RunChanges (n s k : Int) : PCalls Tryd.prog 18 [.int .i64 n, .int .i64 s, .int .i64 k] (· = [.val (.int .i64 (if Cn n k ∧ 0 ≤ s ∧ s ≤ 1000 then runC n k s.toNat else 0)), .val (.bool (decide (Cn n k ∧ 0 ≤ s ∧ s ≤ 1000)))]) := by
  refine pcalls_of_code (n := 17) az Tryd.func18 (by kernel_rfl) rfl rfl (Nat.le_of_ble_eq_true rfl) (by intro t u h; simp [Tryd.f18] at h) ?_
  refine code_seq (fun K1 hK1 => ?_)
  refine code_region ?_
  refine list_cons rfl (op_q (q_assign rfl (by decide)) ?_)
  refine list_cons rfl (op_q (q_assign rfl (by decide)) ?_)
  refine list_nil ?_
  refine hK1 _ ?_; clear hK1 K1
  refine code_seq (fun K2 hK2 => ?_)
  refine code_seq (fun K3 hK3 => ?_)
  refine code_region ?_
  refine list_cons rfl (op_q (q_move rfl (by decide)) ?_)
  refine list_cons rfl (op_q (q_move rfl (by decide)) ?_)
  refine list_cons rfl (op_q (q_move rfl (by decide)) ?_)
  refine list_cons rfl (op_call _ (spec_l4Good _ _ _) rfl rfl (by decide) (by decide) (by decide) rfl ?_)
  rintro _ rfl
  refine list_cons rfl (op_q (by first | exact q_notd rfl (by decide) | exact q_not rfl (by decide)) ?_)
  refine list_nil ?_
  refine hK3 _ ?_; clear hK3 K3
  refine codeT.imp (σ' := [(0, _), (1, _), (2, _), (6, _), (7, _), (12, _)]) ?_ (imp_covers ⟨rfl, rfl, rfl, rfl, rfl, rfl, trivial⟩)
  refine code_cond_d rfl (fun h1 => ?_) (fun h1 => ?_)
  · skip
    (try simp only [Decidable.not_not] at h1)
    refine code_seq (fun K4 hK4 => ?_)
    refine code_region ?_
    refine list_cons rfl (op_q (q_assign rfl (by decide)) ?_)
    refine list_cons rfl (op_q (q_assign rfl (by decide)) ?_)
    refine list_nil ?_
    refine hK4 _ ?_; clear hK4 K4
    refine code_ret ?_
    refine then_r ?_; clear hK2 K2
    refine ends_ret (cs := []) rfl rfl rfl rfl trivial ?_
    first
      | (have e : ¬ (Cn n k ∧ 0 ≤ s ∧ s ≤ 1000) := by unfold Cn; omega
         simp only [if_neg e, decide_eq_false e])
      | (have e : Cn n k ∧ 0 ≤ s ∧ s ≤ 1000 := by unfold Cn; omega
         simp only [if_pos e, decide_eq_true e])
  (try simp only [Decidable.not_not] at h1)
  refine code_skip ?_
  refine hK2 _ ?_; clear hK2 K2
  refine code_seq (fun K5 hK5 => ?_)
  refine code_region ?_
  refine list_cons rfl (op_q (q_move rfl (by decide)) ?_)
  refine list_cons rfl (op_q (q_move rfl (by decide)) ?_)
  refine list_cons rfl (op_q (q_move rfl (by decide)) ?_)
  refine list_cons rfl (op_call _ (spec_l4Run n s k (by unfold Cn; omega) (by omega) (by omega)) rfl rfl (by decide) (by decide) (by decide) rfl ?_)
  rintro _ rfl
  refine list_cons rfl (op_q (q_assign rfl (by decide)) ?_)
  refine list_cons rfl (op_q (q_assign rfl (by decide)) ?_)
  refine list_nil ?_
  refine hK5 _ ?_; clear hK5 K5
  refine codeT.imp (σ' := [(0, _), (1, _), (2, _), (6, _), (7, _)]) ?_ (imp_covers ⟨rfl, rfl, rfl, rfl, rfl, trivial⟩)
  refine code_ret ?_
  refine ends_ret (cs := []) rfl rfl rfl rfl trivial ?_
  first
    | (have e : ¬ (Cn n k ∧ 0 ≤ s ∧ s ≤ 1000) := by unfold Cn; omega
       simp only [if_neg e, decide_eq_false e])
    | (have e : Cn n k ∧ 0 ≤ s ∧ s ≤ 1000 := by unfold Cn; omega
       simp only [if_pos e, decide_eq_true e])

set_option maxRecDepth 4000 in
theorem spec_LightOf (n s k : Int) : PCalls Tryd.prog 23 [.int .i64 n, .int .i64 s, .int .i64 k] (· = [.val (.int .i64 (if (Cn n k ∧ 0 ≤ s ∧ s ≤ 1000) ∧ s ≠ 0 then lightC n k s.toNat else 0)), .val (.bool (decide ((Cn n k ∧ 0 ≤ s ∧ s ≤ 1000) ∧ s ≠ 0)))]) := by
  refine pcalls_of_code (n := 47) az Tryd.func23 (by kernel_rfl) rfl rfl (Nat.le_of_ble_eq_true rfl) (by intro t u h; simp [Tryd.f23] at h) ?_
  refine code_seq (fun K1 hK1 => ?_)
  refine code_region ?_
  refine list_cons rfl (op_q (q_assign rfl (by decide)) ?_)
  refine list_cons rfl (op_q (q_assign rfl (by decide)) ?_)
  refine list_nil ?_
  refine hK1 _ ?_; clear hK1 K1
  refine code_seq (fun K2 hK2 => ?_)
  refine code_seq (fun K3 hK3 => ?_)
  refine code_region ?_
  refine list_cons rfl (op_q (q_move rfl (by decide)) ?_)
  refine list_cons rfl (op_q (q_move rfl (by decide)) ?_)
  refine list_cons rfl (op_q (q_move rfl (by decide)) ?_)
  refine list_cons rfl (op_call _ (spec_l4Good _ _ _) rfl rfl (by decide) (by decide) (by decide) rfl ?_)
  rintro _ rfl
  refine list_cons rfl (op_q (by first | exact q_notd rfl (by decide) | exact q_not rfl (by decide)) ?_)
  refine list_cons rfl (op_q (q_move rfl (by decide)) ?_)
  refine list_guard_d rfl rfl rfl rfl (by decide) rfl (by decide) (fun h1 => ?_) (fun h1 => ?_)
  · simp only [Bool.false_eq_true, if_true, if_false, Decidable.not_not] at h1
    refine id (op_q (q_move rfl (by decide)) ?_)
    refine list_guard_y rfl rfl rfl rfl (by decide) rfl ?_
    refine id (op_q (q_eq rfl rfl (by decide)) ?_)
    refine list_cons rfl (op_q (q_pick rfl rfl (by decide)) ?_)
    refine list_nil ?_
    refine hK3 _ ?_; clear hK3 K3
    refine codeT.imp (σ' := [(0, _), (1, _), (2, _), (6, _), (7, _), (20, _)]) ?_ (imp_covers ⟨rfl, rfl, rfl, rfl, rfl, rfl, trivial⟩)
    refine code_cond_d rfl (fun h2 => ?_) (fun h2 => ?_)
    · skip
      (try simp only [Decidable.not_not] at h2)
      refine code_seq (fun K4 hK4 => ?_)
      refine code_region ?_
      refine list_cons rfl (op_q (q_assign rfl (by decide)) ?_)
      refine list_cons rfl (op_q (q_assign rfl (by decide)) ?_)
      refine list_nil ?_
      refine hK4 _ ?_; clear hK4 K4
      refine code_ret ?_
      refine then_r ?_; clear hK2 K2
      refine ends_ret (cs := []) rfl rfl rfl rfl trivial ?_
      first
        | (have e : ¬ ((Cn n k ∧ 0 ≤ s ∧ s ≤ 1000) ∧ s ≠ 0) := by unfold Cn; omega
           simp only [if_neg e, decide_eq_false e])
        | (have e : (Cn n k ∧ 0 ≤ s ∧ s ≤ 1000) ∧ s ≠ 0 := ⟨⟨hc, by omega, by omega⟩, by omega⟩
           simp only [if_pos e, decide_eq_true e]
           rw [show i.toNat = s.toNat by omega])
    (try simp only [Decidable.not_not] at h2)
    refine code_skip ?_
    refine hK2 _ ?_; clear hK2 K2
    refine code_seq (fun K5 hK5 => ?_)
    refine code_region ?_
    refine list_cons rfl (op_q (q_assign rfl (by decide)) ?_)
    refine list_nil ?_
    refine hK5 _ ?_; clear hK5 K5
    refine code_seq (fun K6 hK6 => ?_)
    refine code_seq (fun K7 hK7 => ?_)
    refine code_region ?_
    refine list_cons rfl (op_q (q_assign rfl (by decide)) ?_)
    refine list_nil ?_
    refine hK7 _ ?_; clear hK7 K7
    refine code_block ?_
    refine code_loop (X := Int × Bool × Int × Int) (fun x => [(0, .val (.int .i64 n)), (1, .val (.int .i64 s)), (2, .val (.int .i64 k)), (6, .val (.int .i64 x.1)), (7, .val (.bool x.2.1)), (8, .val (.int .i64 x.2.2.1)), (9, .val (.int .i64 x.2.2.2))]) (fun x => 0 ≤ x.2.2.2 ∧ x.2.2.2 ≤ s ∧ Cn n k ∧ s ≤ 1000 ∧ s ≠ 0 ∧ x.2.2.1 = lightC n k x.2.2.2.toNat) (fun x => (s - x.2.2.2).toNat) (_, _, _, _) (imp_covers ⟨rfl, rfl, rfl, rfl, rfl, rfl, rfl, trivial⟩) ?_ ?_
    · (try dsimp only)
      exact ⟨by omega, by omega, by unfold Cn; omega, by omega, by omega, rfl⟩
    · intro x hI
      obtain ⟨t6, t7, sum, i⟩ := x
      replace hI : 0 ≤ i ∧ i ≤ s ∧ Cn n k ∧ s ≤ 1000 ∧ s ≠ 0 ∧ sum = lightC n k i.toNat := hI
      show codeT _ _ _ [(0, .val (.int .i64 n)), (1, .val (.int .i64 s)), (2, .val (.int .i64 k)), (6, .val (.int .i64 t6)), (7, .val (.bool t7)), (8, .val (.int .i64 sum)), (9, .val (.int .i64 i))] _
      obtain ⟨i1, i2, hc, i3, i4, rfl⟩ := hI
      have hk := Cn_bd hc
      have ht := top4_le (k := k) (by omega) (by omega)
      have ha := atC_ok hc i.toNat
      have hi : atC n k i.toNat = (n + i) % top4 k := by unfold atC; rw [Int.toNat_of_nonneg i1]
      have hl := lightC_le (n := n) (k := k) (by omega) (by omega) i.toNat
      have hrl : (rowC (atC n k i.toNat) k).length = k.toNat := rowK_len _ _
      have hlt := litF_le (rowC (atC n k i.toNat) k)
      refine code_seq (fun K8 hK8 => ?_)
      refine code_seq (fun K9 hK9 => ?_)
      refine code_region ?_
      refine list_cons rfl (op_q (q_move rfl (by decide)) ?_)
      refine list_cons rfl (op_q (q_move rfl (by decide)) ?_)
      refine list_cons rfl (op_q (q_lt rfl rfl (by decide)) ?_)
      refine list_nil ?_
      refine hK9 _ ?_; clear hK9 K9
      refine code_cond_d rfl (fun h3 => ?_) (fun h3 => ?_)
      · skip
        (try simp only [Decidable.not_not] at h3)
        refine code_skip ?_
        refine hK8 _ ?_; clear hK8 K8
        refine code_seq (fun K10 hK10 => ?_)
        refine code_block ?_
        refine code_seq (fun K11 hK11 => ?_)
        refine code_region ?_
        refine list_cons rfl (op_q (q_move rfl (by decide)) ?_)
        refine list_cons rfl (op_q (q_move rfl (by decide)) ?_)
        refine list_cons rfl (op_q (by first | exact q_addI rfl rfl (by decide) (by omega) (by omega) | exact q_ib rfl rfl rfl (by decide)) ?_)
        refine list_cons rfl (op_q (q_move rfl (by decide)) ?_)
        refine list_cons rfl (op_call _ (spec_l4Top _ (by omega) (by omega)) rfl rfl (by decide) (by decide) (by decide) rfl ?_)
        rintro _ rfl
        refine list_cons rfl (op_q (by first | exact q_remI rfl rfl (by decide) (by omega) (by omega) | exact q_rem rfl rfl (by omega) (by decide)) ?_)
        refine list_cons rfl (op_q (q_move rfl (by decide)) ?_)
        refine list_cons rfl (op_call _ ((by rw [← hi]; exact spec_l4Row _ _ ha)) rfl rfl (by decide) (by decide) (by decide) rfl ?_)
        rintro _ rfl
        refine list_cons rfl (op_q (q_assign rfl (by decide)) ?_)
        refine list_nil ?_
        refine hK11 _ ?_; clear hK11 K11
        refine codeT.imp (σ' := [(0, _), (1, _), (2, _), (6, _), (7, _), (8, _), (9, _), (10, _)]) ?_ (imp_covers ⟨rfl, rfl, rfl, rfl, rfl, rfl, rfl, rfl, trivial⟩)
        refine code_seq (fun K12 hK12 => ?_)
        refine code_region ?_
        refine list_cons rfl (op_q (q_assign rfl (by decide)) ?_)
        refine list_nil ?_
        refine hK12 _ ?_; clear hK12 K12
        refine code_block ?_
        refine code_loop (X := Int × Bool × Int × Nat × List PV × Int) (fun x => [(0, .val (.int .i64 n)), (1, .val (.int .i64 s)), (2, .val (.int .i64 k)), (6, .val (.int .i64 x.1)), (7, .val (.bool x.2.1)), (8, .val (.int .i64 x.2.2.1)), (9, .val (.int .i64 i)), (10, .own 33 3 1 x.2.2.2.1 x.2.2.2.2.1), (11, .val (.int .i64 x.2.2.2.2.2))]) (fun x => 0 ≤ x.2.2.2.2.2 ∧ x.2.2.2.2.2 ≤ k ∧ x.2.2.1 = lightC n k i.toNat + litF ((rowC (atC n k i.toNat) k).take x.2.2.2.2.2.toNat) ∧ x.2.2.2.1 = k.toNat ∧ x.2.2.2.2.1 = (rowC (atC n k i.toNat) k).map (.int .i64)) (fun x => (k - x.2.2.2.2.2).toNat) (_, _, _, _, _, _) (imp_covers ⟨rfl, rfl, rfl, rfl, rfl, rfl, rfl, rfl, rfl, trivial⟩) ?_ ?_
        · (try dsimp only)
          exact ⟨by omega, by omega, (by show _ = _ + litF ((rowC (atC n k i.toNat) k).take 0); simp [litF]), hrl, rfl⟩
        · intro x hI
          obtain ⟨t6, t7, sum, r_n, r_c, x_⟩ := x
          replace hI : 0 ≤ x_ ∧ x_ ≤ k ∧ sum = lightC n k i.toNat + litF ((rowC (atC n k i.toNat) k).take x_.toNat) ∧ r_n = k.toNat ∧ r_c = (rowC (atC n k i.toNat) k).map (.int .i64) := hI
          show codeT _ _ _ [(0, .val (.int .i64 n)), (1, .val (.int .i64 s)), (2, .val (.int .i64 k)), (6, .val (.int .i64 t6)), (7, .val (.bool t7)), (8, .val (.int .i64 sum)), (9, .val (.int .i64 i)), (10, .own 33 3 1 r_n r_c), (11, .val (.int .i64 x_))] _
          obtain ⟨j1, j2, j3, rfl, rfl⟩ := hI
          have hx : x_ < k → _ := fun h => litF_take (rowC (atC n k i.toNat) k) (i := x_.toNat) (by omega)
          have hcl : x_ < k → 0 ≤ (rowC (atC n k i.toNat) k).getD x_.toNat 0 ∧ (rowC (atC n k i.toNat) k).getD x_.toNat 0 ≤ 127 := fun h => rowK_at (by omega)
          have hcc := cnt7_le ((rowC (atC n k i.toNat) k).getD x_.toNat 0).toNat
          have hlk := litF_le ((rowC (atC n k i.toNat) k).take x_.toNat)
          have hll : ((rowC (atC n k i.toNat) k).take x_.toNat).length ≤ 6 := by simp; omega
          refine code_seq (fun K13 hK13 => ?_)
          refine code_seq (fun K14 hK14 => ?_)
          refine code_region ?_
          refine list_cons rfl (op_q (q_move rfl (by decide)) ?_)
          refine list_cons rfl (op_q (q_move rfl (by decide)) ?_)
          refine list_cons rfl (op_q (q_lt rfl rfl (by decide)) ?_)
          refine list_nil ?_
          refine hK14 _ ?_; clear hK14 K14
          refine code_cond_d rfl (fun h4 => ?_) (fun h4 => ?_)
          · skip
            (try simp only [Decidable.not_not] at h4)
            refine code_skip ?_
            refine hK13 _ ?_; clear hK13 K13
            refine code_seq (fun K15 hK15 => ?_)
            refine code_block ?_
            refine code_region ?_
            refine list_cons rfl (op_q (q_move rfl (by decide)) ?_)
            refine list_cons rfl (op_q (q_move rfl (by decide)) ?_)
            refine list_cons rfl (op_q (q_move rfl (by decide)) ?_)
            refine list_cons rfl (op_q (q_indexAddr_own sl_35 rfl rfl (by omega) (by omega) (by decide)) ?_)
            refine list_cons rfl (op_q (q_load one_3 10 rfl rfl rfl (by first | rfl | exact get_map1 _ 0 _ (by first | omega | (simp; omega))) (by decide)) ?_)
            refine list_cons rfl (op_call _ (spec_l2Count _ (hcl (by omega)).1 (hcl (by omega)).2) rfl rfl (by decide) (by decide) (by decide) rfl ?_)
            rintro _ rfl
            refine list_cons rfl (op_q (by first | exact q_addI rfl rfl (by decide) (by omega) (by omega) | exact q_ib rfl rfl rfl (by decide)) ?_)
            refine list_cons rfl (op_q (q_assign rfl (by decide)) ?_)
            refine list_nil ?_
            refine blk_n ?_
            refine hK15 _ ?_; clear hK15 K15
            refine codeT.imp (σ' := [(0, _), (1, _), (2, _), (6, _), (7, _), (8, _), (9, _), (10, _), (11, _)]) ?_ (imp_covers ⟨rfl, rfl, rfl, rfl, rfl, rfl, rfl, rfl, rfl, trivial⟩)
            refine code_region ?_
            refine list_cons rfl (op_q (q_move rfl (by decide)) ?_)
            refine list_cons rfl (op_q (by first | exact q_addI rfl rfl (by decide) (by omega) (by omega) | exact q_ib rfl rfl rfl (by decide)) ?_)
            refine list_cons rfl (op_q (q_assign rfl (by decide)) ?_)
            refine list_nil ?_
            refine then_n ⟨(_, _, _, _, _, _), imp_covers ⟨rfl, rfl, rfl, rfl, rfl, rfl, rfl, rfl, rfl, trivial⟩, ?_, ?_⟩
            · (try dsimp only)
              refine ⟨by omega, by omega, ?_, rfl, rfl⟩
              rw [show (x_ + 1).toNat = x_.toNat + 1 by omega, hx (by omega), j3]; omega
            · (try dsimp only); omega
          (try simp only [Decidable.not_not] at h4)
          refine code_exit ?_
          refine then_x ?_; clear hK13 K13
          refine then_x ?_
          refine blk_hit ?_
          refine blk_n ?_
          refine hK10 _ ?_; clear hK10 K10
          refine code_region ?_
          refine list_cons rfl (op_q (q_move rfl (by decide)) ?_)
          refine list_cons rfl (op_q (by first | exact q_addI rfl rfl (by decide) (by omega) (by omega) | exact q_ib rfl rfl rfl (by decide)) ?_)
          refine list_cons rfl (op_q (q_assign rfl (by decide)) ?_)
          refine list_nil ?_
          refine then_n ⟨(_, _, _, _), imp_covers ⟨rfl, rfl, rfl, rfl, rfl, rfl, rfl, trivial⟩, ?_, ?_⟩
          · (try dsimp only)
            refine ⟨by omega, by omega, hc, i3, i4, ?_⟩
            rw [show (i + 1).toNat = i.toNat + 1 by omega, lightC, j3, List.take_of_length_le (by omega)]
          · (try dsimp only); omega
      (try simp only [Decidable.not_not] at h3)
      refine code_exit ?_
      refine then_x ?_; clear hK8 K8
      refine then_x ?_
      refine blk_hit ?_
      refine hK6 _ ?_; clear hK6 K6
      refine code_seq (fun K16 hK16 => ?_)
      refine code_region ?_
      refine list_cons rfl (op_q (q_move rfl (by decide)) ?_)
      refine list_cons rfl (op_q (q_assign rfl (by decide)) ?_)
      refine list_cons rfl (op_q (q_assign rfl (by decide)) ?_)
      refine list_nil ?_
      refine hK16 _ ?_; clear hK16 K16
      refine code_ret ?_
      refine ends_ret (cs := []) rfl rfl rfl rfl trivial ?_
      first
        | (have e : ¬ ((Cn n k ∧ 0 ≤ s ∧ s ≤ 1000) ∧ s ≠ 0) := by unfold Cn; omega
           simp only [if_neg e, decide_eq_false e])
        | (have e : (Cn n k ∧ 0 ≤ s ∧ s ≤ 1000) ∧ s ≠ 0 := ⟨⟨hc, by omega, by omega⟩, by omega⟩
           simp only [if_pos e, decide_eq_true e]
           rw [show i.toNat = s.toNat by omega])
  simp only [Bool.false_eq_true, if_true, if_false, Decidable.not_not] at h1
  refine list_guard_n rfl rfl rfl rfl (by decide) rfl ?_
  refine list_cons rfl (op_q (q_pick rfl rfl (by decide)) ?_)
  refine list_nil ?_
  refine hK3 _ ?_; clear hK3 K3
  refine code_cond_t rfl ?_
  refine code_seq (fun K17 hK17 => ?_)
  refine code_region ?_
  refine list_cons rfl (op_q (q_assign rfl (by decide)) ?_)
  refine list_cons rfl (op_q (q_assign rfl (by decide)) ?_)
  refine list_nil ?_
  refine hK17 _ ?_; clear hK17 K17
  refine codeT.imp (σ' := [(0, _), (1, _), (2, _), (6, _), (7, _)]) ?_ (imp_covers ⟨rfl, rfl, rfl, rfl, rfl, trivial⟩)
  refine code_ret ?_
  refine then_r ?_; clear hK2 K2
  refine ends_ret (cs := []) rfl rfl rfl rfl trivial ?_
  first
    | (have e : ¬ ((Cn n k ∧ 0 ≤ s ∧ s ≤ 1000) ∧ s ≠ 0) := by unfold Cn; omega
       simp only [if_neg e, decide_eq_false e])
    | (have e : (Cn n k ∧ 0 ≤ s ∧ s ≤ 1000) ∧ s ≠ 0 := ⟨⟨hc, by omega, by omega⟩, by omega⟩
       simp only [if_pos e, decide_eq_true e]
       rw [show i.toNat = s.toNat by omega])

set_option maxRecDepth 4000 in
theorem spec_FirstOver (n k ch : Int) : PCalls Tryd.prog 35 [.int .i64 n, .int .i64 k, .int .i64 ch] (· = [.val (.int .i64 (if Cn n k ∧ 0 ≤ ch then overV (overC n k ch) else 0)), .val (.bool (decide (Cn n k ∧ 0 ≤ ch ∧ (overC n k ch).isSome = true)))]) := by
  refine pcalls_of_code (n := 36) az Tryd.func35 (by kernel_rfl) rfl rfl (Nat.le_of_ble_eq_true rfl) (by intro t u h; simp [Tryd.f35] at h) ?_
  refine code_seq (fun K1 hK1 => ?_)
  refine code_region ?_
  refine list_cons rfl (op_q (q_assign rfl (by decide)) ?_)
  refine list_cons rfl (op_q (q_assign rfl (by decide)) ?_)
  refine list_nil ?_
  refine hK1 _ ?_; clear hK1 K1
  refine code_seq (fun K2 hK2 => ?_)
  refine code_seq (fun K3 hK3 => ?_)
  refine code_region ?_
  refine list_cons rfl (op_q (q_move rfl (by decide)) ?_)
  refine list_cons rfl (op_q (q_move rfl (by decide)) ?_)
  refine list_cons rfl (op_call _ (spec_l4Good _ _ _) rfl rfl (by decide) (by decide) (by decide) rfl ?_)
  rintro _ rfl
  refine list_cons rfl (op_q (by first | exact q_notd rfl (by decide) | exact q_not rfl (by decide)) ?_)
  refine list_cons rfl (op_q (q_move rfl (by decide)) ?_)
  refine list_guard_d rfl rfl rfl rfl (by decide) rfl (by decide) (fun h1 => ?_) (fun h1 => ?_)
  · simp only [Bool.false_eq_true, if_true, if_false, Decidable.not_not] at h1
    refine id (op_q (q_move rfl (by decide)) ?_)
    refine list_guard_y rfl rfl rfl rfl (by decide) rfl ?_
    refine id (op_q (q_lt rfl rfl (by decide)) ?_)
    refine list_cons rfl (op_q (q_pick rfl rfl (by decide)) ?_)
    refine list_nil ?_
    refine hK3 _ ?_; clear hK3 K3
    refine codeT.imp (σ' := [(0, _), (1, _), (2, _), (6, _), (7, _), (17, _)]) ?_ (imp_covers ⟨rfl, rfl, rfl, rfl, rfl, rfl, trivial⟩)
    refine code_cond_d rfl (fun h2 => ?_) (fun h2 => ?_)
    · skip
      (try simp only [Decidable.not_not] at h2)
      refine code_seq (fun K4 hK4 => ?_)
      refine code_region ?_
      refine list_cons rfl (op_q (q_assign rfl (by decide)) ?_)
      refine list_cons rfl (op_q (q_assign rfl (by decide)) ?_)
      refine list_nil ?_
      refine hK4 _ ?_; clear hK4 K4
      refine code_ret ?_
      refine then_r ?_; clear hK2 K2
      refine ends_ret (cs := []) rfl rfl rfl rfl trivial ?_
      first
        | (have e : ¬ (Cn n k ∧ 0 ≤ ch) := by unfold Cn; omega
           have e2 : ¬ (Cn n k ∧ 0 ≤ ch ∧ (overC n k ch).isSome = true) := fun h => e ⟨h.1, h.2.1⟩
           simp only [if_neg e, decide_eq_false e2]; done)
        | (have e := overC_some (n := n) (k := k) (i := steps.toNat) (by omega) (by omega) i4
           have e3 : Cn n k ∧ 0 ≤ ch := ⟨hc, i3⟩
           have e2 : Cn n k ∧ 0 ≤ ch ∧ (overC n k ch).isSome = true := ⟨hc, i3, by rw [e]; rfl⟩
           rw [if_pos e3, decide_eq_true e2, e]
           simp only [overV]
           rw [show ((steps.toNat : Nat) : Int) = steps by omega]; done)
        | (have e := overC_none (n := n) (k := k) (ch := ch) (fun j hj => i4 j (by omega))
           have e3 : Cn n k ∧ 0 ≤ ch := ⟨hc, i3⟩
           have e2 : ¬ (Cn n k ∧ 0 ≤ ch ∧ (overC n k ch).isSome = true) := fun h => by rw [e] at h; exact absurd h.2.2 (by simp)
           rw [if_pos e3, decide_eq_false e2, e]; rfl)
    (try simp only [Decidable.not_not] at h2)
    refine code_skip ?_
    refine hK2 _ ?_; clear hK2 K2
    refine code_seq (fun K5 hK5 => ?_)
    refine code_region ?_
    refine list_cons rfl (op_q (q_assign rfl (by decide)) ?_)
    refine list_nil ?_
    refine hK5 _ ?_; clear hK5 K5
    refine code_seq (fun K6 hK6 => ?_)
    refine code_seq (fun K7 hK7 => ?_)
    refine code_region ?_
    refine list_cons rfl (op_q (q_assign rfl (by decide)) ?_)
    refine list_nil ?_
    refine hK7 _ ?_; clear hK7 K7
    refine code_block ?_
    refine code_loop (X := Int × Bool × Int × Int) (fun x => [(0, .val (.int .i64 n)), (1, .val (.int .i64 k)), (2, .val (.int .i64 ch)), (6, .val (.int .i64 x.1)), (7, .val (.bool x.2.1)), (8, .val (.int .i64 x.2.2.1)), (9, .val (.int .i64 x.2.2.2))]) (fun x => 0 ≤ x.2.2.2 ∧ x.2.2.2 ≤ 1001 ∧ Cn n k ∧ 0 ≤ ch ∧ x.2.2.1 = runC n k x.2.2.2.toNat ∧ ∀ j, j < x.2.2.2.toNat → ¬ ch ≤ runC n k j) (fun x => (1001 - x.2.2.2).toNat) (_, _, _, _) (imp_covers ⟨rfl, rfl, rfl, rfl, rfl, rfl, rfl, trivial⟩) ?_ ?_
    · (try dsimp only)
      exact ⟨by omega, by omega, by unfold Cn; omega, by omega, rfl, fun j hj => absurd hj (by simp)⟩
    · intro x hI
      obtain ⟨t6, t7, sum, steps⟩ := x
      replace hI : 0 ≤ steps ∧ steps ≤ 1001 ∧ Cn n k ∧ 0 ≤ ch ∧ sum = runC n k steps.toNat ∧ ∀ j, j < steps.toNat → ¬ ch ≤ runC n k j := hI
      show codeT _ _ _ [(0, .val (.int .i64 n)), (1, .val (.int .i64 k)), (2, .val (.int .i64 ch)), (6, .val (.int .i64 t6)), (7, .val (.bool t7)), (8, .val (.int .i64 sum)), (9, .val (.int .i64 steps))] _
      obtain ⟨i1, i2, hc, i3, rfl, i4⟩ := hI
      have hk := Cn_bd hc
      have ht := top4_le (k := k) (by omega) (by omega)
      have ha := atC_ok hc steps.toNat
      have hi : atC n k steps.toNat = (n + steps) % top4 k := by unfold atC; rw [Int.toNat_of_nonneg i1]
      have hr := runC_le (n := n) (k := k) (by omega) steps.toNat
      have hs := stepC_le (n := atC n k steps.toNat) (k := k) (by omega)
      refine code_seq (fun K8 hK8 => ?_)
      refine code_seq (fun K9 hK9 => ?_)
      refine code_region ?_
      refine list_cons rfl (op_q (q_move rfl (by decide)) ?_)
      refine list_cons rfl (op_q (q_le rfl rfl (by decide)) ?_)
      refine list_nil ?_
      refine hK9 _ ?_; clear hK9 K9
      refine code_cond_d rfl (fun h3 => ?_) (fun h3 => ?_)
      · skip
        (try simp only [Decidable.not_not] at h3)
        refine code_skip ?_
        refine hK8 _ ?_; clear hK8 K8
        refine code_seq (fun K10 hK10 => ?_)
        refine code_block ?_
        refine code_seq (fun K11 hK11 => ?_)
        refine code_seq (fun K12 hK12 => ?_)
        refine code_region ?_
        refine list_cons rfl (op_q (q_move rfl (by decide)) ?_)
        refine list_cons rfl (op_q (q_move rfl (by decide)) ?_)
        refine list_cons rfl (op_q (q_ge rfl rfl (by decide)) ?_)
        refine list_nil ?_
        refine hK12 _ ?_; clear hK12 K12
        refine code_cond_d rfl (fun h4 => ?_) (fun h4 => ?_)
        · skip
          (try simp only [Decidable.not_not] at h4)
          refine code_seq (fun K13 hK13 => ?_)
          refine code_region ?_
          refine list_cons rfl (op_q (q_move rfl (by decide)) ?_)
          refine list_cons rfl (op_q (q_assign rfl (by decide)) ?_)
          refine list_cons rfl (op_q (q_assign rfl (by decide)) ?_)
          refine list_nil ?_
          refine hK13 _ ?_; clear hK13 K13
          refine code_ret ?_
          refine then_r ?_; clear hK11 K11
          refine blk_r ?_
          refine then_r ?_; clear hK10 K10
          refine then_r ?_
          refine blk_r ?_
          refine then_r ?_; clear hK6 K6
          refine ends_ret (cs := []) rfl rfl rfl rfl trivial ?_
          first
            | (have e : ¬ (Cn n k ∧ 0 ≤ ch) := by unfold Cn; omega
               have e2 : ¬ (Cn n k ∧ 0 ≤ ch ∧ (overC n k ch).isSome = true) := fun h => e ⟨h.1, h.2.1⟩
               simp only [if_neg e, decide_eq_false e2]; done)
            | (have e := overC_some (n := n) (k := k) (i := steps.toNat) (by omega) (by omega) i4
               have e3 : Cn n k ∧ 0 ≤ ch := ⟨hc, i3⟩
               have e2 : Cn n k ∧ 0 ≤ ch ∧ (overC n k ch).isSome = true := ⟨hc, i3, by rw [e]; rfl⟩
               rw [if_pos e3, decide_eq_true e2, e]
               simp only [overV]
               rw [show ((steps.toNat : Nat) : Int) = steps by omega]; done)
            | (have e := overC_none (n := n) (k := k) (ch := ch) (fun j hj => i4 j (by omega))
               have e3 : Cn n k ∧ 0 ≤ ch := ⟨hc, i3⟩
               have e2 : ¬ (Cn n k ∧ 0 ≤ ch ∧ (overC n k ch).isSome = true) := fun h => by rw [e] at h; exact absurd h.2.2 (by simp)
               rw [if_pos e3, decide_eq_false e2, e]; rfl)
        (try simp only [Decidable.not_not] at h4)
        refine code_skip ?_
        refine hK11 _ ?_; clear hK11 K11
        refine code_region ?_
        refine list_cons rfl (op_q (q_move rfl (by decide)) ?_)
        refine list_cons rfl (op_q (q_move rfl (by decide)) ?_)
        refine list_cons rfl (op_q (q_move rfl (by decide)) ?_)
        refine list_cons rfl (op_q (by first | exact q_addI rfl rfl (by decide) (by omega) (by omega) | exact q_ib rfl rfl rfl (by decide)) ?_)
        refine list_cons rfl (op_q (q_move rfl (by decide)) ?_)
        refine list_cons rfl (op_call _ (spec_l4Top _ (by omega) (by omega)) rfl rfl (by decide) (by decide) (by decide) rfl ?_)
        rintro _ rfl
        refine list_cons rfl (op_q (by first | exact q_remI rfl rfl (by decide) (by omega) (by omega) | exact q_rem rfl rfl (by omega) (by decide)) ?_)
        refine list_cons rfl (op_q (q_move rfl (by decide)) ?_)
        refine list_cons rfl (op_call _ ((by rw [← hi]; exact spec_l4Step _ _ ha)) rfl rfl (by decide) (by decide) (by decide) rfl ?_)
        rintro _ rfl
        refine list_cons rfl (op_q (by first | exact q_addI rfl rfl (by decide) (by omega) (by omega) | exact q_ib rfl rfl rfl (by decide)) ?_)
        refine list_cons rfl (op_q (q_assign rfl (by decide)) ?_)
        refine list_nil ?_
        refine blk_n ?_
        refine hK10 _ ?_; clear hK10 K10
        refine codeT.imp (σ' := [(0, _), (1, _), (2, _), (6, _), (7, _), (8, _), (9, _)]) ?_ (imp_covers ⟨rfl, rfl, rfl, rfl, rfl, rfl, rfl, trivial⟩)
        refine code_region ?_
        refine list_cons rfl (op_q (q_move rfl (by decide)) ?_)
        refine list_cons rfl (op_q (by first | exact q_addI rfl rfl (by decide) (by omega) (by omega) | exact q_ib rfl rfl rfl (by decide)) ?_)
        refine list_cons rfl (op_q (q_assign rfl (by decide)) ?_)
        refine list_nil ?_
        refine then_n ⟨(_, _, _, _), imp_covers ⟨rfl, rfl, rfl, rfl, rfl, rfl, rfl, trivial⟩, ?_, ?_⟩
        · (try dsimp only)
          refine ⟨by omega, by omega, hc, i3, ?_, fun j hj => ?_⟩
          · rw [show (steps + 1).toNat = steps.toNat + 1 by omega, runC]
          · rw [show (steps + 1).toNat = steps.toNat + 1 by omega] at hj
            by_cases e : j = steps.toNat
            · subst e; omega
            · exact i4 j (by omega)
        · (try dsimp only); omega
      (try simp only [Decidable.not_not] at h3)
      refine code_exit ?_
      refine then_x ?_; clear hK8 K8
      refine then_x ?_
      refine blk_hit ?_
      refine hK6 _ ?_; clear hK6 K6
      refine code_seq (fun K14 hK14 => ?_)
      refine code_region ?_
      refine list_cons rfl (op_q (q_assign rfl (by decide)) ?_)
      refine list_cons rfl (op_q (q_assign rfl (by decide)) ?_)
      refine list_nil ?_
      refine hK14 _ ?_; clear hK14 K14
      refine code_ret ?_
      refine ends_ret (cs := []) rfl rfl rfl rfl trivial ?_
      first
        | (have e : ¬ (Cn n k ∧ 0 ≤ ch) := by unfold Cn; omega
           have e2 : ¬ (Cn n k ∧ 0 ≤ ch ∧ (overC n k ch).isSome = true) := fun h => e ⟨h.1, h.2.1⟩
           simp only [if_neg e, decide_eq_false e2]; done)
        | (have e := overC_some (n := n) (k := k) (i := steps.toNat) (by omega) (by omega) i4
           have e3 : Cn n k ∧ 0 ≤ ch := ⟨hc, i3⟩
           have e2 : Cn n k ∧ 0 ≤ ch ∧ (overC n k ch).isSome = true := ⟨hc, i3, by rw [e]; rfl⟩
           rw [if_pos e3, decide_eq_true e2, e]
           simp only [overV]
           rw [show ((steps.toNat : Nat) : Int) = steps by omega]; done)
        | (have e := overC_none (n := n) (k := k) (ch := ch) (fun j hj => i4 j (by omega))
           have e3 : Cn n k ∧ 0 ≤ ch := ⟨hc, i3⟩
           have e2 : ¬ (Cn n k ∧ 0 ≤ ch ∧ (overC n k ch).isSome = true) := fun h => by rw [e] at h; exact absurd h.2.2 (by simp)
           rw [if_pos e3, decide_eq_false e2, e]; rfl)
  simp only [Bool.false_eq_true, if_true, if_false, Decidable.not_not] at h1
  refine list_guard_n rfl rfl rfl rfl (by decide) rfl ?_
  refine list_cons rfl (op_q (q_pick rfl rfl (by decide)) ?_)
  refine list_nil ?_
  refine hK3 _ ?_; clear hK3 K3
  refine code_cond_t rfl ?_
  refine code_seq (fun K15 hK15 => ?_)
  refine code_region ?_
  refine list_cons rfl (op_q (q_assign rfl (by decide)) ?_)
  refine list_cons rfl (op_q (q_assign rfl (by decide)) ?_)
  refine list_nil ?_
  refine hK15 _ ?_; clear hK15 K15
  refine code_ret ?_
  refine then_r ?_; clear hK2 K2
  refine ends_ret (cs := []) rfl rfl rfl rfl trivial ?_
  first
    | (have e : ¬ (Cn n k ∧ 0 ≤ ch) := by unfold Cn; omega
       have e2 : ¬ (Cn n k ∧ 0 ≤ ch ∧ (overC n k ch).isSome = true) := fun h => e ⟨h.1, h.2.1⟩
       simp only [if_neg e, decide_eq_false e2]; done)
    | (have e := overC_some (n := n) (k := k) (i := steps.toNat) (by omega) (by omega) i4
       have e3 : Cn n k ∧ 0 ≤ ch := ⟨hc, i3⟩
       have e2 : Cn n k ∧ 0 ≤ ch ∧ (overC n k ch).isSome = true := ⟨hc, i3, by rw [e]; rfl⟩
       rw [if_pos e3, decide_eq_true e2, e]
       simp only [overV]
       rw [show ((steps.toNat : Nat) : Int) = steps by omega]; done)
    | (have e := overC_none (n := n) (k := k) (ch := ch) (fun j hj => i4 j (by omega))
       have e3 : Cn n k ∧ 0 ≤ ch := ⟨hc, i3⟩
       have e2 : ¬ (Cn n k ∧ 0 ≤ ch ∧ (overC n k ch).isSome = true) := fun h => by rw [e] at h; exact absurd h.2.2 (by simp)
       rw [if_pos e3, decide_eq_false e2, e]; rfl)

/-- The changes from the cell of a digit to that of another one. -/
def dgt (a b : Nat) : Int := ((cnt7 ((digT.getD a 0).toNat ^^^ (digT.getD b 0).toNat) : Nat) : Int)
theorem dgt_le (a b : Nat) : 0 ≤ dgt a b ∧ dgt a b ≤ 7 := by
  have := cnt7_le ((digT.getD a 0).toNat ^^^ (digT.getD b 0).toNat)
  unfold dgt; omega
/-- A list of so many zeros, its first k places filled by f. -/
def filN (m : Nat) (f : Nat → Int) : Nat → List Int
  | 0 => List.replicate m 0
  | k + 1 => (filN m f k).set k (f k)
theorem filN_len (m : Nat) (f : Nat → Int) : ∀ k, (filN m f k).length = m
  | 0 => by simp [filN]
  | k + 1 => by simp [filN, filN_len m f k]
theorem filN_at (m : Nat) (f : Nat → Int) : ∀ (k s : Nat), s < m → (filN m f k).getD s 0 = if s < k then f s else 0
  | 0, s, h => by simp [filN, h]
  | k + 1, s, h => by
    have ih := filN_at m f k s h
    have hl := filN_len m f k
    rw [List.getD_eq_getElem?_getD] at ih ⊢
    rw [filN, List.getElem?_set]
    by_cases e : k = s
    · subst e; simp [hl, h]
    · rw [if_neg e, ih]
      by_cases h2 : s < k
      · rw [if_pos h2, if_pos (by omega)]
      · rw [if_neg h2, if_neg (by omega)]
theorem filN_put (m : Nat) (f : Nat → Int) {k o : Nat} {v : Int} (ho : o = k) (hk : k < m) (hv : v = f k) : putAt ((filN m f k).map (PV.int .i64)) o [PV.int .i64 v] = (filN m f (k + 1)).map (PV.int .i64) := by
  subst ho; subst hv
  have := put_map1 (PV.int .i64) (filN m f o) (k := o) (by rw [filN_len]; exact hk) (f o)
  rw [Nat.mul_one] at this
  exact this
theorem put_all {a b : List PV} {n : Nat} (ha : a.length = n) (hb : b.length = n) : putAt a 0 (PV.agg ((b.drop 0).take n)).cells = b := by
  unfold putAt PV.cells
  simp only [List.drop_zero, List.take_zero, List.nil_append, Nat.zero_add]
  rw [List.take_of_length_le (by omega), hb, List.drop_of_length_le (by omega), List.append_nil]
theorem res_agg1 {az : TypeId → Nat} {σ : St} {t u l e : Nat} {cs : List PV} (h : σ.at t = some (.box l e cs)) (haz : (az u == 0) = false) (hf : PV.flatL cs = true) (hl : cs.length = az u) : St.res az σ [.cell t u] = some [.val (.agg cs)] := by
  simp only [St.res, h, haz, hf, hl, BEq.rfl, Bool.and_self, if_true, Bool.false_eq_true, if_false]
/-- The nearest digits: one digit more is looked at. -/
def near1 (d : Nat) (s : List Int × Int) (z : Nat) : List Int × Int :=
  if z = d ∨ s.2 < dgt d z then s else if dgt d z < s.2 then ([(z : Int)], dgt d z) else (s.1 ++ [(z : Int)], s.2)
def nearK (d : Nat) (m : Int) : Nat → List Int × Int
  | 0 => ([], m)
  | k + 1 => near1 d (nearK d m k) k
theorem nearK_le (d : Nat) {m : Int} (hm : 0 ≤ m) : ∀ k, 0 ≤ (nearK d m k).2 ∧ (nearK d m k).2 ≤ m ∧ (nearK d m k).1.length ≤ k
  | 0 => by simp [nearK, hm]
  | k + 1 => by
    have ih := nearK_le d hm k
    have hd := dgt_le d k
    unfold nearK near1
    split
    · exact ⟨ih.1, ih.2.1, by omega⟩
    · split
      · exact ⟨hd.1, by simp only; omega, by simp⟩
      · exact ⟨ih.1, ih.2.1, by simp; omega⟩
set_option maxRecDepth 100000 in
theorem near_87 : ∀ d, d < 10 → nearK d 7 10 = nearK d 8 10 := by decide
/-- Whether a bar of a digit's cell lights. -/
def btD (d b : Nat) : Int := ((((shN (digT.getD d 0).toNat b : Nat) : Int).toNat &&& Int.toNat 1 : Nat) : Int)
theorem btD_le (d b : Nat) : 0 ≤ btD d b ∧ btD d b ≤ 1 := by
  unfold btD
  have : ((shN (digT.getD d 0).toNat b : Nat) : Int).toNat &&& Int.toNat 1 ≤ 1 := Nat.and_le_right
  omega
def shS : Nat → List Int
  | 0 => List.replicate 7 0
  | s + 1 => (shS s).set (s % 7) ((shS s).getD (s % 7) 0 + btD (s / 7) (s % 7))
theorem shS_len : ∀ s, (shS s).length = 7
  | 0 => rfl
  | s + 1 => by simp [shS, shS_len s]
theorem shS_le : ∀ (s j : Nat), 0 ≤ (shS s).getD j 0 ∧ (shS s).getD j 0 ≤ s
  | 0, j => by
    have : (shS 0).getD j 0 = 0 := by
      unfold shS
      rw [List.getD_eq_getElem?_getD, List.getElem?_replicate]
      split <;> rfl
    rw [this]; omega
  | s + 1, j => by
    have h1 := shS_le s j
    have h2 := shS_le s (s % 7)
    have h3 := btD_le (s / 7) (s % 7)
    have hl := shS_len s
    have : (shS (s + 1)).getD j 0 = if s % 7 = j then (shS s).getD (s % 7) 0 + btD (s / 7) (s % 7) else (shS s).getD j 0 := by
      rw [shS, List.getD_eq_getElem?_getD, List.getElem?_set]
      by_cases e : s % 7 = j
      · rw [if_pos e, if_pos e, if_pos (by omega)]; rfl
      · rw [if_neg e, if_neg e, ← List.getD_eq_getElem?_getD]
    rw [this]
    split <;> omega
theorem shS_put {s o : Nat} {v : Int} (ho : o = s % 7) (hv : v = (shS s).getD (s % 7) 0 + btD (s / 7) (s % 7)) : putAt ((shS s).map (PV.int .i64)) o [PV.int .i64 v] = (shS (s + 1)).map (PV.int .i64) := by
  subst ho; subst hv
  have := put_map1 (PV.int .i64) (shS s) (k := s % 7) (by rw [shS_len]; omega) ((shS s).getD (s % 7) 0 + btD (s / 7) (s % 7))
  rw [Nat.mul_one] at this
  exact this
def tabF (s : Nat) : Int := dgt (s / 10) (s % 10)
def tabS (k : Nat) : List Int := filN 100 tabF k
theorem tab_at {a b : Nat} (ha : a < 10) (hb : b < 10) : (tabS 100).getD (a * 10 + b) 0 = dgt a b := by
  unfold tabS
  rw [filN_at 100 tabF 100 _ (by omega), if_pos (by omega)]
  unfold tabF
  rw [show (a * 10 + b) / 10 = a by omega, show (a * 10 + b) % 10 = b by omega]

end Go.Proofs.YtdlckhdalbagmaaDoor
