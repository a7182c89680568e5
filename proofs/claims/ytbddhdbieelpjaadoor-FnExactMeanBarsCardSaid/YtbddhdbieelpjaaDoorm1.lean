/- Contracts of functions, walked over the pure layer; each says for which arguments. -/
import Derived.Test.YtbddhdbieelpjaaDoorm1Ty
import Derived.Test.YtbddhdbieelpjaaDoorTf
namespace Go.Proofs.YtbddhdbieelpjaaDoor
open Go.RowKit m1Ty
set_option linter.unusedVariables false
set_option linter.unusedSimpArgs false

theorem list_eq_ofI {α : Type} (d : α) (a b : List α) (h : a.length = b.length) (k : ∀ j, j < a.length → a.getD j d = b.getD j d) : a = b := by
  apply List.ext_getElem h
  intro j h1 h2
  have := k j h1
  simpa [h1, h2] using this
theorem take_snocI {α : Type} (d : α) (l : List α) (k : Nat) (h : k < l.length) : l.take (k + 1) = l.take k ++ [l.getD k d] := by
  rw [List.take_succ_eq_append_getElem h]; simp [h]
theorem fill_mapI {α : Type} (f : α → PV) (d : α) (a : List α) {k : Nat} (h : k < a.length) : putAt ((a.take k ++ List.replicate (a.length - k) d).map f) (k * 1) [f (a.getD k d)] = (a.take (k + 1) ++ List.replicate (a.length - (k + 1)) d).map f := by
  rw [put_map1 f _ (by simp; omega), take_snocI d a k h, List.set_append_right _ _ (by simp; omega), show k - (a.take k).length = 0 by simp; omega, show a.length - k = a.length - (k + 1) + 1 by omega, List.replicate_succ, List.set_cons_zero]
  simp
theorem list_ne_ofI {α : Type} (d : α) {a b : List α} (j : Nat) (k : a.getD j d ≠ b.getD j d) : a ≠ b := fun h => k (by rw [h])
def markI (n : Nat) (k : Int) : List Int := (List.range n).map fun (j : Nat) => k + j
theorem markI_len (n : Nat) (k : Int) : (markI n k).length = n := by simp [markI]
theorem markI_get (n : Nat) (k : Int) {j : Nat} (h : j < n) : (markI n k).getD j 0 = k + j := by
  simp [markI, h]
theorem markI_fill (l : List Int) (k : Int) {j : Nat} (h : j < l.length) : putAt ((markI j k ++ l.drop j).map (.int .i64)) (j * 1) [PV.int .i64 (k + j)] = (markI (j + 1) k ++ l.drop (j + 1)).map (.int .i64) := by
  rw [put_map1 (PV.int .i64) _ (by simp [markI]; omega), List.set_append_right _ _ (by simp [markI]), show j - (markI j k).length = 0 by simp [markI], List.drop_eq_getElem_cons h, List.set_cons_zero]
  simp [markI, List.range_succ]

def digT : List Int := [63, 6, 91, 79, 102, 109, 125, 7, 127, 111]
def digOf (c : Int) : Int := if c = 63 then 0 else if c = 6 then 1 else if c = 91 then 2 else if c = 79 then 3 else if c = 102 then 4 else if c = 109 then 5 else if c = 125 then 6 else if c = 7 then 7 else if c = 127 then 8 else if c = 111 then 9 else -1
theorem digOf_at {d : Int} {c : Int} (h0 : 0 ≤ d) (h1 : d ≤ 9) (h : digT.getD d.toNat 0 = c) : digOf c = d := by
  have : d = 0 ∨ d = 1 ∨ d = 2 ∨ d = 3 ∨ d = 4 ∨ d = 5 ∨ d = 6 ∨ d = 7 ∨ d = 8 ∨ d = 9 := by omega
  subst h
  rcases this with rfl | rfl | rfl | rfl | rfl | rfl | rfl | rfl | rfl | rfl <;> rfl
theorem digOf_none {c : Int} (h : ∀ j : Nat, j < 10 → digT.getD j 0 ≠ c) : digOf c = -1 := by
  have k0 := h 0 (by omega); have k1 := h 1 (by omega); have k2 := h 2 (by omega); have k3 := h 3 (by omega); have k4 := h 4 (by omega)
  have k5 := h 5 (by omega); have k6 := h 6 (by omega); have k7 := h 7 (by omega); have k8 := h 8 (by omega); have k9 := h 9 (by omega)
  simp [digT] at k0 k1 k2 k3 k4 k5 k6 k7 k8 k9
  unfold digOf
  repeat rw [if_neg (by omega)]
theorem digOf_le (c : Int) : -1 ≤ digOf c ∧ digOf c ≤ 9 := by
  unfold digOf
  repeat' split
  all_goals omega
def RowP (l : List Int) : Prop := l.length ≤ 6 ∧ ∀ x ∈ l, 0 ≤ x ∧ x ≤ 127
instance (l : List Int) : Decidable (RowP l) := by unfold RowP; infer_instance
theorem RowP.at {l : List Int} (h : RowP l) {j : Nat} (hj : j < l.length) : 0 ≤ l.getD j 0 ∧ l.getD j 0 ≤ 127 := by
  have : l.getD j 0 = l[j] := by simp [hj]
  rw [this]; exact h.2 _ (List.getElem_mem hj)
theorem RowP.of {l : List Int} (h0 : l.length ≤ 6) (h : ∀ j, j < l.length → 0 ≤ l.getD j 0 ∧ l.getD j 0 ≤ 127) : RowP l := ⟨h0, fun x hx => by
  obtain ⟨j, hj, rfl⟩ := List.getElem_of_mem hx
  have := h j hj
  simpa [hj] using this⟩
def cnt7 (n : Nat) : Nat := n % 2 + n / 2 % 2 + n / 4 % 2 + n / 8 % 2 + n / 16 % 2 + n / 32 % 2 + n / 64 % 2
def turn7 (n : Nat) : Nat := n / 8 % 2 + 2 * (n / 16 % 2) + 4 * (n / 32 % 2) + 8 * (n % 2) + 16 * (n / 2 % 2) + 32 * (n / 4 % 2) + 64 * (n / 64 % 2)
def mir7 (n : Nat) : Nat := n % 2 + 2 * (n / 32 % 2) + 4 * (n / 16 % 2) + 8 * (n / 8 % 2) + 16 * (n / 4 % 2) + 32 * (n / 2 % 2) + 64 * (n / 64 % 2)
def bars7 (n : Nat) : List UInt8 := ((List.range 7).filter (fun k => Nat.beq (n / 2 ^ k % 2) 1)).map fun k => UInt8.ofNat (97 + k)

set_option maxRecDepth 4000 in
theorem spec_l1In (x a b : Int) : PCalls Tryd.prog 65 [.int .i64 x, .int .i64 a, .int .i64 b] (· = [.val (.bool (decide (a ≤ x ∧ x ≤ b)))]) := by
  refine pcalls_of_code (n := 15) az Tryd.func65 (by kernel_rfl) rfl rfl (Nat.le_of_ble_eq_true rfl) (by intro t u h; simp [Tryd.f65] at h) ?_
  refine code_seq (fun K1 hK1 => ?_)
  refine code_region ?_
  refine list_cons rfl (op_q (q_assign rfl (by decide)) ?_)
  refine list_nil ?_
  refine hK1 _ ?_; clear hK1 K1
  refine code_seq (fun K2 hK2 => ?_)
  refine code_region ?_
  refine list_cons rfl (op_q (q_move rfl (by decide)) ?_)
  refine list_cons rfl (op_q (q_move rfl (by decide)) ?_)
  refine list_cons rfl (op_q (q_ge rfl rfl (by decide)) ?_)
  refine list_cons rfl (op_q (q_move rfl (by decide)) ?_)
  refine list_guard_d rfl rfl rfl rfl (by decide) rfl (by decide) (fun h1 => ?_) (fun h1 => ?_)
  · simp only [Bool.false_eq_true, if_true, if_false, Decidable.not_not] at h1
    refine id (op_q (q_move rfl (by decide)) ?_)
    refine list_guard_y rfl rfl rfl rfl (by decide) rfl ?_
    refine id (op_q (q_move rfl (by decide)) ?_)
    refine list_guard_y rfl rfl rfl rfl (by decide) rfl ?_
    refine id (op_q (q_le rfl rfl (by decide)) ?_)
    refine list_cons rfl (op_q (q_pick rfl rfl (by decide)) ?_)
    refine list_cons rfl (op_q (q_assign rfl (by decide)) ?_)
    refine list_nil ?_
    refine hK2 _ ?_; clear hK2 K2
    refine codeT.imp (σ' := [(0, _), (1, _), (2, _), (6, _)]) ?_ (imp_covers ⟨rfl, rfl, rfl, rfl, trivial⟩)
    refine code_ret ?_
    refine ends_ret (cs := []) rfl rfl rfl rfl trivial ?_
    simp [h1]
  simp only [Bool.false_eq_true, if_true, if_false, Decidable.not_not] at h1
  refine list_guard_n rfl rfl rfl rfl (by decide) rfl ?_
  refine list_guard_n rfl rfl rfl rfl (by decide) rfl ?_
  refine list_cons rfl (op_q (q_pick rfl rfl (by decide)) ?_)
  refine list_cons rfl (op_q (q_assign rfl (by decide)) ?_)
  refine list_nil ?_
  refine hK2 _ ?_; clear hK2 K2
  refine code_ret ?_
  refine ends_ret (cs := []) rfl rfl rfl rfl trivial ?_
  simp [h1]

set_option maxRecDepth 4000 in
theorem spec_l1Most (a b : Int) : PCalls Tryd.prog 94 [.int .i64 a, .int .i64 b] (· = [.val (.int .i64 (if b < a then a else b))]) := by
  refine pcalls_of_code (n := 10) az Tryd.func94 (by kernel_rfl) rfl rfl (Nat.le_of_ble_eq_true rfl) (by intro t u h; simp [Tryd.f94] at h) ?_
  refine code_seq (fun K1 hK1 => ?_)
  refine code_region ?_
  refine list_cons rfl (op_q (q_assign rfl (by decide)) ?_)
  refine list_nil ?_
  refine hK1 _ ?_; clear hK1 K1
  refine code_seq (fun K2 hK2 => ?_)
  refine code_seq (fun K3 hK3 => ?_)
  refine code_region ?_
  refine list_cons rfl (op_q (q_move rfl (by decide)) ?_)
  refine list_cons rfl (op_q (q_move rfl (by decide)) ?_)
  refine list_cons rfl (op_q (q_gt rfl rfl (by decide)) ?_)
  refine list_nil ?_
  refine hK3 _ ?_; clear hK3 K3
  refine code_cond_d rfl (fun h1 => ?_) (fun h1 => ?_)
  · skip
    (try simp only [Decidable.not_not] at h1)
    refine code_seq (fun K4 hK4 => ?_)
    refine code_region ?_
    refine list_cons rfl (op_q (q_move rfl (by decide)) ?_)
    refine list_cons rfl (op_q (q_assign rfl (by decide)) ?_)
    refine list_nil ?_
    refine hK4 _ ?_; clear hK4 K4
    refine code_ret ?_
    refine then_r ?_; clear hK2 K2
    refine ends_ret (cs := []) rfl rfl rfl rfl trivial ?_
    rw [if_pos h1]
  (try simp only [Decidable.not_not] at h1)
  refine code_skip ?_
  refine hK2 _ ?_; clear hK2 K2
  refine code_seq (fun K5 hK5 => ?_)
  refine code_region ?_
  refine list_cons rfl (op_q (q_move rfl (by decide)) ?_)
  refine list_cons rfl (op_q (q_assign rfl (by decide)) ?_)
  refine list_nil ?_
  refine hK5 _ ?_; clear hK5 K5
  refine code_ret ?_
  refine ends_ret (cs := []) rfl rfl rfl rfl trivial ?_
  rw [if_neg h1]

set_option maxRecDepth 100000 in
theorem spec_l2Digit (c : Int) (h0 : 0 ≤ c) (h1 : c ≤ 9) : PCalls Tryd.prog 66 [.int .i64 c] (· = [.val (.int .i64 (digT.getD c.toNat 0))]) := by
  have h := below_int (p := fun i => oneInt (crun Tf.tf noExt 200 6 66 [.int .i64 (Int.ofNat i)]) (digT.getD i 0)) (k := 10) (by kernel_rfl) h0 (by omega)
  have e : Int.ofNat c.toNat = c := Int.toNat_of_nonneg h0
  rw [e] at h
  exact pcalls_run Tf.tf (oneInt_ok h)

set_option maxRecDepth 100000 in
theorem spec_l2Count (c : Int) (h0 : 0 ≤ c) (h1 : c ≤ 127) : PCalls Tryd.prog 70 [.int .i64 c] (· = [.val (.int .i64 (((cnt7 c.toNat : Nat) : Int)))]) := by
  have h := below_int (p := fun i => oneInt (crun Tf.tf noExt 200 6 70 [.int .i64 (Int.ofNat i)]) (((cnt7 i : Nat) : Int))) (k := 128) (by kernel_rfl) h0 (by omega)
  have e : Int.ofNat c.toNat = c := Int.toNat_of_nonneg h0
  rw [e] at h
  exact pcalls_run Tf.tf (oneInt_ok h)

theorem foldl_take {α β : Type} (f : β → α → β) (d : α) (l : List α) (b : β) {k : Nat} (h : k < l.length) : (l.take (k + 1)).foldl f b = f ((l.take k).foldl f b) (l.getD k d) := by
  rw [take_snocI d l k h, List.foldl_append]; rfl
theorem map_take {α β : Type} (f : α → β) (d : α) (l : List α) {k : Nat} (h : k < l.length) : (l.take (k + 1)).map f = (l.take k).map f ++ [f (l.getD k d)] := by
  rw [take_snocI d l k h, List.map_append]; rfl
theorem rev_drop {α : Type} (d : α) (l : List α) {k : Nat} (h : k < l.length) : (l.drop k).reverse = (l.drop (k + 1)).reverse ++ [l.getD k d] := by
  rw [List.drop_eq_getElem_cons h, List.reverse_cons]; simp [h]
theorem xor7 {a b : Int} (ha : 0 ≤ a ∧ a ≤ 127) (hb : 0 ≤ b ∧ b ≤ 127) : ((a.toNat ^^^ b.toNat : Nat) : Int) ≤ 127 := by
  have := @Nat.xor_lt_two_pow a.toNat b.toNat 7 (by omega) (by omega)
  omega
theorem cnt7_le (n : Nat) : cnt7 n ≤ 7 := by unfold cnt7; omega
theorem turn7_le (n : Nat) : turn7 n ≤ 127 := by unfold turn7; omega
theorem mir7_le (n : Nat) : mir7 n ≤ 127 := by unfold mir7; omega
def turnC (x : Int) : Int := ((turn7 x.toNat : Nat) : Int)
def mirC (x : Int) : Int := ((mir7 x.toNat : Nat) : Int)
theorem turnC_cell (x : Int) : 0 ≤ turnC x ∧ turnC x ≤ 127 := by have := turn7_le x.toNat; unfold turnC; omega
theorem mirC_cell (x : Int) : 0 ≤ mirC x ∧ mirC x ≤ 127 := by have := mir7_le x.toNat; unfold mirC; omega
def turnL (l : List Int) : List Int := l.reverse.map turnC
def mirL (l : List Int) : List Int := l.reverse.map mirC
theorem turnL_len (l : List Int) : (turnL l).length = l.length := by simp [turnL]
theorem mirL_len (l : List Int) : (mirL l).length = l.length := by simp [mirL]
/-- The row of a number. -/
def rowN (n : Nat) : List Int := if h : n < 10 then [digT.getD n 0] else rowN (n / 10) ++ [digT.getD (n % 10) 0]
termination_by n
decreasing_by omega
theorem rowN_lt {n : Nat} (h : n < 10) : rowN n = [digT.getD n 0] := by rw [rowN, dif_pos h]
theorem rowN_ge {n : Nat} (h : ¬ n < 10) : rowN n = rowN (n / 10) ++ [digT.getD (n % 10) 0] := by rw [rowN, dif_neg h]
/-- What of the row stands ahead of its last cell. -/
def rowP (n : Nat) : List Int := if n < 10 then [] else rowN (n / 10)
theorem rowP_cat (n : Nat) : rowN n = rowP n ++ [digT.getD (n % 10) 0] := by
  unfold rowP
  by_cases h : n < 10
  · rw [if_pos h, rowN_lt h, Nat.mod_eq_of_lt h]; rfl
  · rw [if_neg h, rowN_ge h]
theorem rowN_len : ∀ (k n : Nat), 1 ≤ k → n < 10 ^ k → (rowN n).length ≤ k ∧ 1 ≤ (rowN n).length
  | 0, n, h, _ => by omega
  | k + 1, n, _, h => by
    by_cases hn : n < 10
    · rw [rowN_lt hn]; simp
    · rw [rowN_ge hn]
      have h1 : 1 ≤ k := by
        rcases Nat.eq_zero_or_pos k with e | e
        · subst e; simp at h; omega
        · exact e
      have h2 : n / 10 < 10 ^ k := by rw [Nat.pow_succ] at h; omega
      have := rowN_len k (n / 10) h1 h2
      simp; omega
theorem digT_cell (n : Nat) : 0 ≤ digT.getD n 0 ∧ digT.getD n 0 ≤ 127 := by
  by_cases h : n < 10
  · have : n = 0 ∨ n = 1 ∨ n = 2 ∨ n = 3 ∨ n = 4 ∨ n = 5 ∨ n = 6 ∨ n = 7 ∨ n = 8 ∨ n = 9 := by omega
    rcases this with rfl | rfl | rfl | rfl | rfl | rfl | rfl | rfl | rfl | rfl <;> decide
  · have : digT.getD n 0 = 0 := by unfold List.getD; rw [List.getElem?_eq_none (by simp [digT]; omega)]; rfl
    rw [this]; omega
theorem rowN_cells : ∀ (k n : Nat), n < k → ∀ x ∈ rowN n, 0 ≤ x ∧ x ≤ 127
  | 0, n, h => by omega
  | k + 1, n, h => by
    intro x hx
    by_cases hn : n < 10
    · rw [rowN_lt hn] at hx; simp only [List.mem_singleton] at hx; subst hx; exact digT_cell _
    · rw [rowN_ge hn] at hx
      rcases List.mem_append.1 hx with hx | hx
      · exact rowN_cells k (n / 10) (by omega) x hx
      · simp only [List.mem_singleton] at hx; subst hx; exact digT_cell _
theorem rowN_row {n : Nat} (h : n ≤ 999999) : RowP (rowN n) := ⟨(rowN_len 6 n (by omega) (by omega)).1, rowN_cells (n + 1) n (by omega)⟩
def DigsP (l : List Int) : Prop := ∀ x ∈ l, 0 ≤ digOf x
instance (l : List Int) : Decidable (DigsP l) := by unfold DigsP; infer_instance
def numF (l : List Int) : Int := l.foldl (fun n x => 10 * n + digOf x) 0
theorem DigsP.at {l : List Int} (h : DigsP l) {j : Nat} (hj : j < l.length) : 0 ≤ digOf (l.getD j 0) := by
  have : l.getD j 0 = l[j] := by simp [hj]
  rw [this]; exact h _ (List.getElem_mem hj)
theorem DigsP.of {l : List Int} (h : ∀ j, j < l.length → 0 ≤ digOf (l.getD j 0)) : DigsP l := fun x hx => by
  obtain ⟨j, hj, rfl⟩ := List.getElem_of_mem hx
  have := h j hj
  simpa [hj] using this
theorem pow10_le {i : Nat} (h : i ≤ 6) : 10 ^ i ≤ 1000000 := Nat.pow_le_pow_right (n := 10) (by omega) h
def litF (l : List Int) : Int := l.foldl (fun n x => n + ((cnt7 x.toNat : Nat) : Int)) 0
def cntAlike : Nat → Nat
  | 0 => if turnL (rowN 0) = rowN 0 then 1 else 0
  | k + 1 => cntAlike k + if turnL (rowN (k + 1)) = rowN (k + 1) then 1 else 0
def alikeTo (k : Nat) : Nat := ((List.range k).filter fun j => turnL (rowN j) = rowN j).length
theorem alikeTo_succ (k : Nat) : alikeTo (k + 1) = alikeTo k + if turnL (rowN k) = rowN k then 1 else 0 := by
  unfold alikeTo
  rw [List.range_succ, List.filter_append, List.length_append]
  by_cases h : turnL (rowN k) = rowN k <;> simp [h]
theorem alikeTo_le (k : Nat) : alikeTo k ≤ k := by
  have := List.length_filter_le (fun j => decide (turnL (rowN j) = rowN j)) (List.range k)
  simpa [alikeTo] using this

theorem list_eqI {α : Type} (d : α) (a b : List α) (h : a.length = b.length) (k : ∀ j, j < a.length → a.getD j d = b.getD j d) : a = b := by
  apply List.ext_getElem h
  intro j h1 h2
  have := k j h1
  simpa [h1, h2] using this
/-- Letters of bars in order. -/
def OrdP (s : List UInt8) : Prop := ∀ i, i < s.length → 97 ≤ (s.getD i 0).toNat ∧ (s.getD i 0).toNat ≤ 103 ∧ (0 < i → (s.getD (i - 1) 0).toNat < (s.getD i 0).toNat)
instance (s : List UInt8) : Decidable (OrdP s) := by unfold OrdP; infer_instance
def orF (s : List UInt8) : Nat := s.foldl (fun c b => c ||| 2 ^ (b.toNat - 97)) 0
theorem orF_snoc (s : List UInt8) {k : Nat} (h : k < s.length) : orF (s.take (k + 1)) = orF (s.take k) ||| 2 ^ ((s.getD k 0).toNat - 97) := by
  unfold orF; rw [foldl_take _ 0 _ _ h]
theorem or7 {a k : Nat} (ha : a < 128) (hk : k ≤ 6) : a ||| 2 ^ k < 128 := by
  have : 2 ^ k < 2 ^ 7 := Nat.pow_lt_pow_right (by omega) (by omega)
  exact @Nat.or_lt_two_pow a (2 ^ k) 7 (by omega) this
theorem orF_lt (s : List UInt8) (h : OrdP s) : ∀ k, k ≤ s.length → orF (s.take k) < 128
  | 0, _ => by rw [List.take_zero]; decide
  | k + 1, hk => by
    rw [orF_snoc s (by omega)]
    have h1 := (h k (by omega)).2.1
    exact or7 (orF_lt s h k (by omega)) (by omega)
theorem orF_all {s : List UInt8} (h : OrdP s) : orF s < 128 := by have := orF_lt s h s.length (Nat.le_refl _); rwa [List.take_length] at this
def pieceT (x : Int) : List UInt8 := (if x = 0 then [45] else []) ++ bars7 x.toNat
def textG (l : List Int) : Nat → List UInt8
  | 0 => []
  | k + 1 => (if 0 < k then textG l k ++ [32] else []) ++ pieceT (l.getD k 0)
def textF (l : List Int) : List UInt8 := textG l l.length
theorem bars7_len (n : Nat) : (bars7 n).length ≤ 7 := by
  unfold bars7
  rw [List.length_map]
  exact Nat.le_trans (List.length_filter_le _ _) (by simp)
theorem textG_len (l : List Int) : ∀ k, (textG l k).length ≤ 9 * k
  | 0 => by simp [textG]
  | k + 1 => by
    have := textG_len l k
    have h2 := bars7_len (l.getD k 0).toNat
    rw [textG]
    by_cases hk : 0 < k
    · rw [if_pos hk]; unfold pieceT; split <;> simp only [List.length_append, List.length_cons, List.length_nil] <;> omega
    · rw [if_neg hk]; unfold pieceT; split <;> simp only [List.length_append, List.length_cons, List.length_nil] <;> omega


def FaultP (fx fy : Int) : Prop := (0 ≤ fx ∧ fx ≤ 127) ∧ (0 ≤ fy ∧ fy ≤ 127) ∧ fx.toNat &&& fy.toNat = 0
instance (fx fy : Int) : Decidable (FaultP fx fy) := by unfold FaultP; infer_instance
def shB (fx fy c : Nat) : Nat := (c - (c &&& fx)) ||| fy
def shF (fx fy c : Int) : Int := ((shB fx.toNat fy.toNat c.toNat : Nat) : Int)
theorem shF_cell {fx fy c : Int} (hy : 0 ≤ fy ∧ fy ≤ 127) (hc : 0 ≤ c ∧ c ≤ 127) : 0 ≤ shF fx fy c ∧ shF fx fy c ≤ 127 := by
  have h := @Nat.or_lt_two_pow (c.toNat - (c.toNat &&& fx.toNat)) fy.toNat 7 (by omega) (by omega)
  unfold shF shB
  omega
theorem FaultP.b {fx fy : Int} (h : FaultP fx fy) : 0 ≤ fx ∧ fx ≤ 127 ∧ 0 ≤ fy ∧ fy ≤ 127 := by
  have h1 := h.1
  have h2 := h.2.1
  omega
theorem or7b {fx fy : Int} (hx : 0 ≤ fx ∧ fx ≤ 127) (hy : 0 ≤ fy ∧ fy ≤ 127) : 0 ≤ ((fx.toNat ||| fy.toNat : Nat) : Int) ∧ ((fx.toNat ||| fy.toNat : Nat) : Int) ≤ 127 := by
  have h := @Nat.or_lt_two_pow fx.toNat fy.toNat 7 (by omega) (by omega)
  omega

/-- The digits below k that show a cell. -/
def digsK (fx fy c : Int) (k : Nat) : List Int := ((List.range k).filter fun (d : Nat) => shF fx fy (digT.getD d 0) = c).map fun (d : Nat) => (d : Int)
theorem digsK_succ (fx fy c : Int) (k : Nat) : digsK fx fy c (k + 1) = digsK fx fy c k ++ if shF fx fy (digT.getD k 0) = c then [(k : Int)] else [] := by
  unfold digsK
  rw [List.range_succ, List.filter_append, List.map_append]
  congr 1
  rw [List.filter_cons]
  by_cases h : shF fx fy (digT.getD k 0) = c
  · rw [if_pos (decide_eq_true h), if_pos h]; rfl
  · rw [if_neg (fun e => h (of_decide_eq_true e)), if_neg h]; rfl
theorem digsK_len (fx fy c : Int) (k : Nat) : (digsK fx fy c k).length ≤ k := by
  unfold digsK
  rw [List.length_map]
  exact Nat.le_trans (List.length_filter_le _ _) (by simp)
def digs (fx fy c : Int) : List Int := digsK fx fy c 10
theorem digs_len (fx fy c : Int) : (digs fx fy c).length ≤ 10 := digsK_len fx fy c 10

abbrev shD (fx fy : Int) (d : Nat) : Int := shF fx fy (digT.getD d 0)
/-- One digit more, under its image. -/
def upI (c d : Int) : List (Int × List Int) → List (Int × List Int)
  | [] => [(c, [d])]
  | p :: r => if c = p.1 then (c, p.2 ++ [d]) :: r else p :: upI c d r
def gI (fx fy : Int) : Nat → List (Int × List Int)
  | 0 => []
  | k + 1 => upI (shD fx fy k) (k : Int) (gI fx fy k)
def posI (c : Int) : List (Int × List Int) → Nat → Option Nat
  | [], _ => none
  | p :: r, i => if c = p.1 then some i else posI c r (i + 1)
theorem upI_len (c d : Int) : ∀ m : List (Int × List Int), (upI c d m).length ≤ m.length + 1
  | [] => by simp [upI]
  | p :: r => by
    have := upI_len c d r
    unfold upI
    split <;> simp <;> omega
theorem gI_len (fx fy : Int) : ∀ k, (gI fx fy k).length ≤ k
  | 0 => by simp [gI]
  | k + 1 => by
    have h1 := gI_len fx fy k
    have h2 := upI_len (shD fx fy k) (k : Int) (gI fx fy k)
    show (upI _ _ _).length ≤ _
    omega
theorem posI_le (c : Int) : ∀ (m : List (Int × List Int)) (i j : Nat), posI c m i = some j → i ≤ j
  | [], i, j, h => by simp [posI] at h
  | p :: r, i, j, h => by
    unfold posI at h
    split at h
    · simp only [Option.some.injEq] at h; omega
    · have := posI_le c r (i + 1) j h; omega
theorem posI_at (c : Int) : ∀ (m : List (Int × List Int)) (i j : Nat), posI c m i = some j → ∃ v, m[j - i]? = some (c, v)
  | [], i, j, h => by simp [posI] at h
  | p :: r, i, j, h => by
    unfold posI at h
    split at h
    · rename_i hc
      simp only [Option.some.injEq] at h; subst h
      exact ⟨p.2, by simp [hc]⟩
    · have hle := posI_le c r (i + 1) j h
      obtain ⟨v, hv⟩ := posI_at c r (i + 1) j h
      exact ⟨v, by rw [show j - i = (j - (i + 1)) + 1 by omega]; simpa using hv⟩
theorem posI_none (c : Int) : ∀ (m : List (Int × List Int)) (i : Nat), posI c m i = none ↔ ∀ p ∈ m, p.1 ≠ c
  | [], i => by simp [posI]
  | p :: r, i => by
    unfold posI
    have ih := posI_none c r (i + 1)
    split
    · rename_i hc; simp [hc]
    · rename_i hc
      rw [ih]; simp only [List.mem_cons, forall_eq_or_imp]
      exact ⟨fun h => ⟨fun e => hc e.symm, h⟩, fun h => h.2⟩
/-- The keys are those that were there, and c. -/
theorem upI_keys (c d : Int) : ∀ m : List (Int × List Int), (upI c d m).map (·.1) = if ∀ p ∈ m, p.1 ≠ c then m.map (·.1) ++ [c] else m.map (·.1)
  | [] => by simp [upI]
  | p :: r => by
    have ih := upI_keys c d r
    unfold upI
    by_cases hc : c = p.1
    · rw [if_pos hc, if_neg (fun h => h p (by simp) hc.symm)]; simp [hc]
    · rw [if_neg hc, List.map_cons, ih]
      by_cases hr : ∀ p ∈ r, p.1 ≠ c
      · rw [if_pos hr, if_pos (by intro q hq; rcases List.mem_cons.1 hq with rfl | hq; · exact fun e => hc e.symm
                                  · exact hr q hq)]; simp
      · rw [if_neg hr, if_neg (fun h => hr (fun q hq => h q (by simp [hq])))]; simp
theorem upI_mem {c d : Int} : ∀ {m : List (Int × List Int)} {p : Int × List Int}, (m.map (·.1)).Nodup → p ∈ upI c d m → (p.1 ≠ c ∧ p ∈ m) ∨ (p.1 = c ∧ ((∀ q ∈ m, q.1 ≠ c) ∧ p.2 = [d] ∨ ∃ v, (c, v) ∈ m ∧ p.2 = v ++ [d]))
  | [], p, _, h => by simp [upI] at h; subst h; exact .inr ⟨rfl, .inl ⟨by simp, rfl⟩⟩
  | q :: r, p, hn, h => by
    simp only [List.map_cons, List.nodup_cons] at hn
    unfold upI at h
    split at h
    · rename_i hc
      rcases List.mem_cons.1 h with rfl | h
      · exact .inr ⟨rfl, .inr ⟨q.2, by simp [hc], rfl⟩⟩
      · refine .inl ⟨fun e => hn.1 ?_, by simp [h]⟩
        rw [← hc, ← e]; exact List.mem_map_of_mem h
    · rename_i hc
      rcases List.mem_cons.1 h with rfl | h
      · exact .inl ⟨fun e => hc e.symm, by simp⟩
      · rcases upI_mem hn.2 h with ⟨h1, h2⟩ | ⟨h1, h2⟩
        · exact .inl ⟨h1, by simp [h2]⟩
        · refine .inr ⟨h1, ?_⟩
          rcases h2 with ⟨h2, h3⟩ | ⟨v, h2, h3⟩
          · exact .inl ⟨by intro q' hq'; rcases List.mem_cons.1 hq' with rfl | hq'; · exact fun e => hc e.symm
                           · exact h2 q' hq', h3⟩
          · exact .inr ⟨v, by simp [h2], h3⟩
def isFst (fx fy : Int) (k : Nat) : Prop := ∀ j, j < k → shD fx fy j ≠ shD fx fy k
instance (fx fy : Int) (k : Nat) : Decidable (isFst fx fy k) := by unfold isFst; infer_instance
def fstK (fx fy : Int) (k : Nat) : List Nat := (List.range k).filter fun d => isFst fx fy d
theorem fstK_succ (fx fy : Int) (k : Nat) : fstK fx fy (k + 1) = fstK fx fy k ++ if isFst fx fy k then [k] else [] := by
  unfold fstK
  rw [List.range_succ, List.filter_append, List.filter_cons]
  by_cases h : isFst fx fy k
  · rw [if_pos (decide_eq_true h), if_pos h]; rfl
  · rw [if_neg (fun e => h (of_decide_eq_true e)), if_neg h]; rfl
theorem fstK_len (fx fy : Int) (k : Nat) : (fstK fx fy k).length ≤ k := by
  unfold fstK; exact Nat.le_trans (List.length_filter_le _ _) (by simp)
theorem digsK_mem {fx fy c : Int} {k : Nat} {d : Int} : d ∈ digsK fx fy c k ↔ ∃ j : Nat, j < k ∧ shD fx fy j = c ∧ d = (j : Int) := by
  unfold digsK
  simp only [List.mem_map, List.mem_filter, List.mem_range, decide_eq_true_eq]
  constructor
  · rintro ⟨j, ⟨h1, h2⟩, rfl⟩; exact ⟨j, h1, h2, rfl⟩
  · rintro ⟨j, h1, h2, rfl⟩; exact ⟨j, ⟨h1, h2⟩, rfl⟩
theorem digsK_nil {fx fy c : Int} {k : Nat} : digsK fx fy c k = [] ↔ ∀ j, j < k → shD fx fy j ≠ c := by
  rw [List.eq_nil_iff_forall_not_mem]
  constructor
  · intro h j hj e; exact h _ (digsK_mem.2 ⟨j, hj, e, rfl⟩)
  · intro h d hd; obtain ⟨j, h1, h2, _⟩ := digsK_mem.1 hd; exact h j h1 h2
/-- The entries: their keys are the images in order of their first digits, each once; under each its digits. -/
theorem gI_ok (fx fy : Int) : ∀ k, (gI fx fy k).map (·.1) = (fstK fx fy k).map (shD fx fy) ∧ ((gI fx fy k).map (·.1)).Nodup ∧ (∀ p ∈ gI fx fy k, p.2 = digsK fx fy p.1 k ∧ p.2 ≠ []) ∧ ∀ c, (∀ p ∈ gI fx fy k, p.1 ≠ c) ↔ digsK fx fy c k = []
  | 0 => ⟨rfl, by simp [gI], by simp [gI], fun c => by simp [gI, digsK]⟩
  | k + 1 => by
    obtain ⟨h1, h2, h3, h4⟩ := gI_ok fx fy k
    have hk := upI_keys (shD fx fy k) (k : Int) (gI fx fy k)
    have hfst : (∀ p ∈ gI fx fy k, p.1 ≠ shD fx fy k) ↔ isFst fx fy k := by
      rw [h4, digsK_nil]; exact Iff.rfl
    refine ⟨?_, ?_, ?_, ?_⟩
    · show (upI _ _ _).map _ = _
      rw [hk, fstK_succ, h1]
      by_cases hf : isFst fx fy k
      · rw [if_pos (hfst.2 hf), if_pos hf, List.map_append]; rfl
      · rw [if_neg (fun h => hf (hfst.1 h)), if_neg hf, List.append_nil]
    · show ((upI _ _ _).map _).Nodup
      rw [hk]
      split
      · rename_i h
        refine List.nodup_append.2 ⟨h2, by simp, fun a ha b hb e => ?_⟩
        obtain ⟨p, hp, rfl⟩ := List.mem_map.1 ha
        simp only [List.mem_singleton] at hb
        exact h p hp (e.trans hb)
      · exact h2
    · intro p hp
      have hp' : p ∈ upI (shD fx fy k) (k : Int) (gI fx fy k) := hp
      rw [digsK_succ]
      rcases upI_mem h2 hp' with ⟨g1, g2⟩ | ⟨g1, g2⟩
      · rw [if_neg (fun e => g1 e.symm), List.append_nil]; exact h3 p g2
      · rw [if_pos g1.symm]
        rcases g2 with ⟨g2, g3⟩ | ⟨v, g2, g3⟩
        · have := (h4 (shD fx fy k)).1 g2
          rw [g3, g1, this]; simp
        · have := (h3 _ g2).1
          simp only at this
          rw [g3, g1, ← this]; simp
    · intro c
      rw [digsK_succ, List.append_eq_nil_iff, ← h4 c]
      have hkeys : ∀ c, (∀ p ∈ upI (shD fx fy k) (k : Int) (gI fx fy k), p.1 ≠ c) ↔ c ∉ (upI (shD fx fy k) (k : Int) (gI fx fy k)).map (·.1) := fun c => by
        simp only [List.mem_map, not_exists, not_and]
      show (∀ p ∈ upI (shD fx fy k) (k : Int) (gI fx fy k), p.1 ≠ c) ↔ _
      rw [hkeys, hk]
      have hold : (∀ p ∈ gI fx fy k, p.1 ≠ c) ↔ c ∉ (gI fx fy k).map (·.1) := by simp only [List.mem_map, not_exists, not_and]
      rw [hold]
      by_cases hs : shD fx fy k = c
      · have hne : ¬ ((if shD fx fy k = c then [(k : Int)] else []) = []) := by rw [if_pos hs]; simp
        refine ⟨fun h => absurd ?_ h, fun h => absurd h.2 hne⟩
        split
        · simp [hs]
        · rename_i hh
          have hh2 : ¬ ∀ p ∈ gI fx fy k, p.1 ≠ c := by rw [← hs]; exact hh
          rw [hold] at hh2
          exact Decidable.not_not.1 hh2
      · rw [if_neg hs]
        split
        · simp only [List.mem_append, List.mem_singleton, not_or, and_true]
          exact ⟨fun h => h.1, fun h => ⟨h, fun e => hs e.symm⟩⟩
        · simp
theorem gI_find (fx fy c : Int) (k : Nat) : (digsK fx fy c k = [] ∧ posI c (gI fx fy k) 0 = none) ∨ (digsK fx fy c k ≠ [] ∧ ∃ i, posI c (gI fx fy k) 0 = some i ∧ (gI fx fy k)[i]? = some (c, digsK fx fy c k)) := by
  obtain ⟨_, _, h3, h4⟩ := gI_ok fx fy k
  cases hp : posI c (gI fx fy k) 0 with
  | none => exact .inl ⟨(h4 c).1 ((posI_none c _ 0).1 hp), rfl⟩
  | some i =>
    obtain ⟨v, hv⟩ := posI_at c _ 0 i hp
    rw [Nat.sub_zero] at hv
    have := h3 _ (List.mem_of_getElem? hv)
    simp only at this
    refine .inr ⟨by rw [← this.1]; exact this.2, i, rfl, by rw [hv, this.1]⟩
/-- All groups, in order of their first digits. -/
def grp (fx fy : Int) : List (List Int) := (gI fx fy 10).map (·.2)
theorem gI_fst (fx fy : Int) : gI fx fy 10 = (fstK fx fy 10).map fun d => (shD fx fy d, digs fx fy (shD fx fy d)) := by
  obtain ⟨h1, _, h3, _⟩ := gI_ok fx fy 10
  have hl : (gI fx fy 10).length = (fstK fx fy 10).length := by have := congrArg List.length h1; simpa using this
  apply List.ext_getElem (by simp [hl])
  intro i g1 g2
  have e1 : (gI fx fy 10)[i].1 = shD fx fy ((fstK fx fy 10)[i]'(by rw [← hl]; exact g1)) := by
    have := congrArg (fun l => l[i]?) h1
    simp only [List.getElem?_map, List.getElem?_eq_getElem g1, List.getElem?_eq_getElem (show i < (fstK fx fy 10).length by rw [← hl]; exact g1), Option.map_some, Option.some.injEq] at this
    exact this
  have e2 := (h3 _ (List.getElem_mem g1)).1
  rw [List.getElem_map]
  apply Prod.ext
  · exact e1
  · rw [e2, e1]; rfl
theorem grp_eq (fx fy : Int) : grp fx fy = (fstK fx fy 10).map fun d => digs fx fy (shD fx fy d) := by
  unfold grp; rw [gI_fst, List.map_map]; rfl
theorem grp_len (fx fy : Int) : (grp fx fy).length ≤ 10 := by unfold grp; rw [List.length_map]; exact gI_len fx fy 10
/-- Slices of numbers, as cells. -/
def slI (gs : List (List Int)) : List PV := gs.map fun g => .sl g.length (g.map (.int .i64))
theorem slI_len (gs : List (List Int)) : (slI gs).length = gs.length := by simp [slI]
def grpK (fx fy : Int) (k : Nat) : List (List Int) := (fstK fx fy k).map fun d => digs fx fy (shD fx fy d)
theorem grpK_succ (fx fy : Int) (k : Nat) : grpK fx fy (k + 1) = grpK fx fy k ++ if isFst fx fy k then [digs fx fy (shD fx fy k)] else [] := by
  unfold grpK; rw [fstK_succ, List.map_append]; congr 1; split <;> rfl
theorem grpK_len (fx fy : Int) (k : Nat) : (grpK fx fy k).length ≤ k := by unfold grpK; rw [List.length_map]; exact fstK_len fx fy k
/-- The first digit of a group. -/
theorem digs_head (fx fy : Int) {k : Nat} (hk : k < 10) : digs fx fy (shD fx fy k) ≠ [] ∧ ((digs fx fy (shD fx fy k)).getD 0 0 = (k : Int) ↔ isFst fx fy k) := by
  have hne : digs fx fy (shD fx fy k) ≠ [] := fun h => digsK_nil.1 h k hk rfl
  refine ⟨hne, ?_⟩
  have key : ∀ m, digsK fx fy (shD fx fy k) m ≠ [] → ∃ j : Nat, (digsK fx fy (shD fx fy k) m).getD 0 0 = (j : Int) ∧ j < m ∧ shD fx fy j = shD fx fy k ∧ ∀ i, i < j → shD fx fy i ≠ shD fx fy k := by
    intro m
    induction m with
    | zero => intro h; exact absurd rfl h
    | succ m ih =>
      intro h
      rw [digsK_succ] at h ⊢
      by_cases hm : digsK fx fy (shD fx fy k) m = []
      · rw [hm, List.nil_append] at h ⊢
        split at h
        · rename_i hs
          rw [if_pos hs]
          exact ⟨m, rfl, by omega, hs, digsK_nil.1 hm⟩
        · exact absurd rfl h
      · obtain ⟨j, h1, h2, h3, h4⟩ := ih hm
        refine ⟨j, ?_, by omega, h3, h4⟩
        rw [← h1]
        cases hc : digsK fx fy (shD fx fy k) m with
        | nil => exact absurd hc hm
        | cons a b => rfl
  obtain ⟨j, h1, h2, h3, h4⟩ := key 10 hne
  have h1' : (digs fx fy (shD fx fy k)).getD 0 0 = (j : Int) := h1
  rw [h1']
  constructor
  · intro e
    have : j = k := by omega
    subst this; exact h4
  · intro hf
    by_cases hjk : j < k
    · exact absurd h3 (hf j hjk)
    · by_cases hkj : k < j
      · exact absurd rfl (h4 k hkj)
      · have : j = k := by omega
        rw [this]

/-- A list of faults, as its cells lie. -/
def fl (fs : List (Int × Int)) : List PV := (fs.map fun f => [PV.int .i64 f.1, PV.int .i64 f.2]).flatten
theorem fl_at : ∀ (fs : List (Int × Int)) (k : Nat), k < fs.length → ((fl fs).drop (k * 2)).take 2 = [PV.int .i64 (fs.getD k (0, 0)).1, PV.int .i64 (fs.getD k (0, 0)).2]
  | f :: fs, 0, _ => rfl
  | f :: fs, k + 1, h => by
    have ih := fl_at fs k (by simpa using h)
    show (((PV.int .i64 f.1 :: PV.int .i64 f.2 :: fl fs)).drop ((k + 1) * 2)).take 2 = _
    rw [show (k + 1) * 2 = k * 2 + 2 by omega]
    exact ih
theorem fl_len : ∀ fs : List (Int × Int), (fl fs).length = fs.length * 2
  | [] => rfl
  | f :: fs => by
    show (PV.int .i64 f.1 :: PV.int .i64 f.2 :: fl fs).length = _
    simp only [List.length_cons, fl_len fs]; omega
theorem fl_flat : ∀ fs : List (Int × Int), PV.flatL (fl fs) = true
  | [] => rfl
  | f :: fs => by
    show PV.flatL (PV.int .i64 f.1 :: PV.int .i64 f.2 :: fl fs) = true
    simp only [PV.flatL, PV.flat, fl_flat fs, Bool.and_self]
theorem fl_put : ∀ (gs : List (Int × Int)) (k : Nat) (x y : Int), k < gs.length → putAt (fl gs) (k * 2) [PV.int .i64 x, PV.int .i64 y] = fl (gs.set k (x, y))
  | g :: gs, 0, x, y, _ => by
    show ((PV.int .i64 g.1 :: PV.int .i64 g.2 :: fl gs).take 0 ++ [PV.int .i64 x, PV.int .i64 y] ++ (PV.int .i64 g.1 :: PV.int .i64 g.2 :: fl gs).drop (0 + 2)) = _
    rfl
  | g :: gs, k + 1, x, y, h => by
    have ih := fl_put gs k x y (by simpa using h)
    show ((PV.int .i64 g.1 :: PV.int .i64 g.2 :: fl gs).take ((k + 1) * 2) ++ [PV.int .i64 x, PV.int .i64 y] ++ (PV.int .i64 g.1 :: PV.int .i64 g.2 :: fl gs).drop ((k + 1) * 2 + 2)) = PV.int .i64 g.1 :: PV.int .i64 g.2 :: fl (gs.set k (x, y))
    rw [← ih, show (k + 1) * 2 = k * 2 + 1 + 1 by omega, show k * 2 + 1 + 1 + 2 = k * 2 + 2 + 1 + 1 by omega]
    rfl
theorem fl_put0 : ∀ (gs : List (Int × Int)) (k : Nat) (x : Int), k < gs.length → putAt (fl gs) (k * 2) [PV.int .i64 x] = fl (gs.set k (x, (gs.getD k (0, 0)).2))
  | g :: gs, 0, x, _ => rfl
  | g :: gs, k + 1, x, h => by
    have ih := fl_put0 gs k x (by simpa using h)
    show ((PV.int .i64 g.1 :: PV.int .i64 g.2 :: fl gs).take ((k + 1) * 2) ++ [PV.int .i64 x] ++ (PV.int .i64 g.1 :: PV.int .i64 g.2 :: fl gs).drop ((k + 1) * 2 + 1)) = PV.int .i64 g.1 :: PV.int .i64 g.2 :: fl (gs.set k (x, (gs.getD k (0, 0)).2))
    rw [← ih, show (k + 1) * 2 = k * 2 + 1 + 1 by omega, show k * 2 + 1 + 1 + 1 = k * 2 + 1 + 1 + 1 by omega]
    rfl
theorem fl_put1 : ∀ (gs : List (Int × Int)) (k : Nat) (x : Int), k < gs.length → putAt (fl gs) (k * 2 + 1) [PV.int .i64 x] = fl (gs.set k ((gs.getD k (0, 0)).1, x))
  | g :: gs, 0, x, _ => rfl
  | g :: gs, k + 1, x, h => by
    have ih := fl_put1 gs k x (by simpa using h)
    show ((PV.int .i64 g.1 :: PV.int .i64 g.2 :: fl gs).take ((k + 1) * 2 + 1) ++ [PV.int .i64 x] ++ (PV.int .i64 g.1 :: PV.int .i64 g.2 :: fl gs).drop ((k + 1) * 2 + 1 + 1)) = PV.int .i64 g.1 :: PV.int .i64 g.2 :: fl (gs.set k ((gs.getD k (0, 0)).1, x))
    rw [← ih, show (k + 1) * 2 + 1 = k * 2 + 1 + 1 + 1 by omega, show k * 2 + 1 + 1 + 1 + 1 = k * 2 + 1 + 1 + 1 + 1 by omega]
    rfl
theorem zeros_fl (k : Nat) : zeros [PV.int .i64 0, PV.int .i64 0] k = fl (List.replicate k (0, 0)) := by
  induction k with
  | zero => rfl
  | succ k ih =>
    have h : fl (List.replicate (k + 1) (0, 0)) = fl (List.replicate k (0, 0)) ++ [PV.int .i64 0, PV.int .i64 0] := by
      rw [List.replicate_succ']; simp [fl]
    rw [h, ← ih]
    unfold zeros
    rw [show (k + 1) * [PV.int IntKind.i64 0, PV.int IntKind.i64 0].length = k * [PV.int IntKind.i64 0, PV.int IntKind.i64 0].length + 1 + 1 by simp; omega, List.range_succ, List.range_succ, List.map_append, List.map_append, List.append_assoc]
    congr 1
    simp [show (k * 2) % 2 = 0 by omega, show (k * 2 + 1) % 2 = 1 by omega]
theorem fl_get0 : ∀ (gs : List (Int × Int)) (k : Nat), k < gs.length → (fl gs)[k * 2]? = some (PV.int .i64 (gs.getD k (0, 0)).1)
  | g :: gs, 0, _ => rfl
  | g :: gs, k + 1, h => by
    have ih := fl_get0 gs k (by simpa using h)
    show (PV.int .i64 g.1 :: PV.int .i64 g.2 :: fl gs)[(k + 1) * 2]? = _
    rw [show (k + 1) * 2 = k * 2 + 1 + 1 by omega]
    exact ih
theorem fl_get1 : ∀ (gs : List (Int × Int)) (k : Nat), k < gs.length → (fl gs)[k * 2 + 1]? = some (PV.int .i64 (gs.getD k (0, 0)).2)
  | g :: gs, 0, _ => rfl
  | g :: gs, k + 1, h => by
    have ih := fl_get1 gs k (by simpa using h)
    show (PV.int .i64 g.1 :: PV.int .i64 g.2 :: fl gs)[(k + 1) * 2 + 1]? = _
    rw [show (k + 1) * 2 + 1 = k * 2 + 1 + 1 + 1 by omega]
    exact ih
theorem fl_drop0 : ∀ (gs : List (Int × Int)) (k : Nat), k < gs.length → (fl gs).drop (k * 2) = PV.int .i64 (gs.getD k (0, 0)).1 :: PV.int .i64 (gs.getD k (0, 0)).2 :: (fl gs).drop ((k + 1) * 2)
  | g :: gs, 0, _ => rfl
  | g :: gs, k + 1, h => by
    have ih := fl_drop0 gs k (by simpa using h)
    show (PV.int .i64 g.1 :: PV.int .i64 g.2 :: fl gs).drop ((k + 1) * 2) = _ :: _ :: (PV.int .i64 g.1 :: PV.int .i64 g.2 :: fl gs).drop ((k + 1 + 1) * 2)
    rw [show (k + 1) * 2 = k * 2 + 1 + 1 by omega, show (k + 1 + 1) * 2 = (k + 1) * 2 + 1 + 1 by omega]
    exact ih
theorem fl_drop1 (gs : List (Int × Int)) (k : Nat) (h : k < gs.length) : ((fl gs).drop (k * 2)).drop 1 = PV.int .i64 (gs.getD k (0, 0)).2 :: (fl gs).drop ((k + 1) * 2) := by
  rw [fl_drop0 gs k h]; rfl
def markF (n : Nat) (k : Int) : List (Int × Int) := (List.range n).map fun (j : Nat) => (k + 2 * j, k + 2 * j + 1)
theorem markF_len (n : Nat) (k : Int) : (markF n k).length = n := by simp [markF]
theorem markF_get (n : Nat) (k : Int) {j : Nat} (h : j < n) : (markF n k).getD j (0, 0) = (k + 2 * j, k + 2 * j + 1) := by
  simp [markF, h]
theorem markF_succ (n : Nat) (k : Int) : markF (n + 1) k = markF n k ++ [(k + 2 * n, k + 2 * n + 1)] := by
  unfold markF; rw [List.range_succ, List.map_append]; rfl
theorem markF_set (l : List (Int × Int)) (k : Int) {j : Nat} (h : j < l.length) : (markF j k ++ l.drop j).set j (k + 2 * j, k + 2 * j + 1) = markF (j + 1) k ++ l.drop (j + 1) := by
  rw [List.set_append_right _ _ (by simp [markF]), show j - (markF j k).length = 0 by simp [markF], List.drop_eq_getElem_cons h, List.set_cons_zero, markF_succ]
  simp
theorem markF_put (l : List (Int × Int)) (k : Int) {i : Int} (h0 : 0 ≤ i) {j : Nat} (e : i.toNat = j) (h : j < l.length) : putAt (putAt (fl (markF j k ++ l.drop j)) (j * 2 + 0) [PV.int .i64 (k + 2 * i)]) (j * 2 + 1) [PV.int .i64 (k + 2 * i + 1)] = fl (markF (j + 1) k ++ l.drop (j + 1)) := by
  have hj : j < (markF j k ++ l.drop j).length := by simp [markF]; omega
  rw [Nat.add_zero, fl_put0 _ _ _ hj, fl_put1 _ _ _ (by simpa using hj), List.set_set, ← markF_set l k h]
  congr 2
  rw [List.getD_eq_getElem?_getD, List.getElem?_set_self hj, show ((j : Nat) : Int) = i by omega]
  rfl

/-- A State: its bar and its kind. -/
def StP (b k : Int) : Prop := (k = 0 ∧ b = 0) ∨ ((1 ≤ k ∧ k ≤ 2) ∧ 0 ≤ b ∧ b ≤ 6)
instance (b k : Int) : Decidable (StP b k) := by unfold StP; infer_instance
def sdk (b k : Int) : Int := if k = 1 then ((p2 b.toNat : Nat) : Int) else 0
def slt (b k : Int) : Int := if k = 2 then ((p2 b.toNat : Nat) : Int) else 0
theorem p2_6 {k : Nat} (h : k ≤ 6) : 1 ≤ p2 k ∧ p2 k ≤ 64 := by
  have h1 : p2 k ≤ p2 6 := Nat.pow_le_pow_right (by omega) h
  have h2 : 0 < p2 k := Nat.pow_pos (by omega)
  exact ⟨h2, h1⟩
theorem StP.bd {b k : Int} (h : StP b k) : (0 ≤ sdk b k ∧ sdk b k ≤ 127) ∧ (0 ≤ slt b k ∧ slt b k ≤ 127) := by
  unfold sdk slt
  rcases h with ⟨rfl, rfl⟩ | ⟨h1, h2⟩
  · simp
  · have := p2_6 (k := b.toNat) (by omega)
    constructor <;> split <;> omega
def allS : List (Int × Int) := [(0, 0), (0, 1), (1, 1), (2, 1), (3, 1), (4, 1), (5, 1), (6, 1), (0, 2), (1, 2), (2, 2), (3, 2), (4, 2), (5, 2), (6, 2)]
theorem allS_len : allS.length = 15 := rfl
theorem allS_ok {i : Nat} (h : i < 15) : StP (allS.getD i (0, 0)).1 (allS.getD i (0, 0)).2 := by
  have k : ∀ i : Fin 15, StP (allS.getD i.val (0, 0)).1 (allS.getD i.val (0, 0)).2 := by decide
  exact k ⟨i, h⟩
theorem allS_at {b k : Int} (hk : 1 ≤ k ∧ k ≤ 2) (hb : 0 ≤ b ∧ b ≤ 6) : allS.take (1 + 7 * (k - 1).toNat + (b + 1).toNat) = allS.take (1 + 7 * (k - 1).toNat + b.toNat) ++ [(b, k)] := by
  obtain ⟨kn, rfl⟩ : ∃ n : Nat, k = n := ⟨k.toNat, by omega⟩
  obtain ⟨bn, rfl⟩ : ∃ n : Nat, b = n := ⟨b.toNat, by omega⟩
  have key : ∀ i : Fin 3, ∀ j : Fin 7, 1 ≤ i.val → allS.take (1 + 7 * ((i.val : Int) - 1).toNat + ((j.val : Int) + 1).toNat) = allS.take (1 + 7 * ((i.val : Int) - 1).toNat + (j.val : Int).toNat) ++ [((j.val : Int), (i.val : Int))] := by decide
  exact key ⟨kn, by omega⟩ ⟨bn, by omega⟩ (by show 1 ≤ kn; omega)
def TstP (l : List Int) : Prop := l.length ≤ 10 ∧ ∀ j, j < l.length → 0 ≤ l.getD j 0 ∧ l.getD j 0 ≤ 9
instance (l : List Int) : Decidable (TstP l) := by unfold TstP; infer_instance
/-- A digit finds a State. -/
def FdP (b k d : Int) : Prop := shF (sdk b k) (slt b k) (digT.getD d.toNat 0) ≠ digT.getD d.toNat 0
instance (b k d : Int) : Decidable (FdP b k d) := by unfold FdP; infer_instance
/-- The place of the first digit that finds a State, or -1. -/
def plc (l : List Int) (b k : Int) : Int := match (List.range l.length).find? (fun i => decide (FdP b k (l.getD i 0))) with
  | some i => (i : Int)
  | none => -1
theorem plc_some {l : List Int} {b k : Int} {i : Nat} (h : i < l.length) (h1 : FdP b k (l.getD i 0)) (h2 : ∀ j, j < i → ¬ FdP b k (l.getD j 0)) : plc l b k = (i : Int) := by
  have e : (List.range l.length).find? (fun i => decide (FdP b k (l.getD i 0))) = some i := by
    rw [List.find?_eq_some_iff_getElem]
    exact ⟨decide_eq_true h1, i, by simpa using h, by simp, fun j hj => by simp only [List.getElem_range, Bool.not_eq_true', decide_eq_false_iff_not]; exact h2 j hj⟩
  unfold plc; rw [e]
theorem plc_none {l : List Int} {b k : Int} (h : ∀ j, j < l.length → ¬ FdP b k (l.getD j 0)) : plc l b k = -1 := by
  have e : (List.range l.length).find? (fun i => decide (FdP b k (l.getD i 0))) = none := by
    rw [List.find?_eq_none]
    intro i hi
    simp only [decide_eq_true_eq]
    exact h i (List.mem_range.1 hi)
  unfold plc; rw [e]
theorem plc_bd (l : List Int) (b k : Int) : -1 ≤ plc l b k ∧ plc l b k ≤ l.length := by
  unfold plc
  split
  · rename_i i hi
    have := List.mem_range.1 (List.mem_of_find?_eq_some hi)
    omega
  · omega
/-- Of the States but the first so many: those that a test finds, or does not find. -/
def fndK (l : List Int) (fo : Bool) (k : Nat) : List (Int × Int) := ((allS.take k).drop 1).filter fun s => decide (0 ≤ plc l s.1 s.2) == fo
theorem fndK_succ (l : List Int) (fo : Bool) {k : Nat} (h0 : 1 ≤ k) (h : k < 15) : fndK l fo (k + 1) = fndK l fo k ++ if decide (0 ≤ plc l (allS.getD k (0, 0)).1 (allS.getD k (0, 0)).2) = fo then [allS.getD k (0, 0)] else [] := by
  unfold fndK
  have hk : k < allS.length := by rw [allS_len]; exact h
  have e : (allS.take (k + 1)).drop 1 = (allS.take k).drop 1 ++ [allS.getD k (0, 0)] := by
    rw [List.take_add_one, List.getElem?_eq_getElem hk, List.getD_eq_getElem?_getD, List.getElem?_eq_getElem hk, List.drop_append_of_le_length (by rw [List.length_take]; omega)]
    rfl
  rw [e, List.filter_append]
  congr 1
  rw [List.filter_cons]
  by_cases hd : decide (0 ≤ plc l (allS.getD k (0, 0)).1 (allS.getD k (0, 0)).2) = fo
  · rw [if_pos (by rw [hd]; exact BEq.rfl), if_pos hd]; rfl
  · rw [if_neg (fun z => hd (eq_of_beq z)), if_neg hd]; rfl
theorem fndK_len (l : List Int) (fo : Bool) (k : Nat) : (fndK l fo k).length ≤ 14 := by
  unfold fndK
  refine Nat.le_trans (List.length_filter_le _ _) ?_
  rw [List.length_drop, List.length_take, allS_len]; omega
def fnd (l : List Int) (fo : Bool) : List (Int × Int) := fndK l fo 15
theorem fnd_len (l : List Int) (fo : Bool) : (fnd l fo).length ≤ 14 := fndK_len l fo 15
def FulP (l : List Int) : Prop := fnd l false = []
instance (l : List Int) : Decidable (FulP l) := by unfold FulP; infer_instance
theorem ful_len (l : List Int) : (((fnd l false).length : Nat) : Int) = 0 ↔ FulP l := by
  unfold FulP
  rw [← List.length_eq_zero_iff]; omega
/-- The changes of the first so many steps of a test. -/
def chT (l : List Int) : Nat → Int
  | 0 => 0
  | i + 1 => chT l i + ((cnt7 ((digT.getD (l.getD i 0).toNat 0).toNat ^^^ (digT.getD (l.getD (i + 1) 0).toNat 0).toNat) : Nat) : Int)
theorem chT_le (l : List Int) : ∀ i : Nat, 0 ≤ chT l i ∧ chT l i ≤ 7 * i
  | 0 => by simp [chT]
  | i + 1 => by
    have h1 := chT_le l i
    have h2 := cnt7_le ((digT.getD (l.getD i 0).toNat 0).toNat ^^^ (digT.getD (l.getD (i + 1) 0).toNat 0).toNat)
    unfold chT; omega
def fitQ (b k : Int) (l cs : List Int) : Prop := ∀ j, j < l.length → shF (sdk b k) (slt b k) (digT.getD (l.getD j 0).toNat 0) = cs.getD j 0
instance (b k : Int) (l cs : List Int) : Decidable (fitQ b k l cs) := by unfold fitQ; infer_instance
def RdsP (l cs : List Int) : Prop := TstP l ∧ (cs.length : Int) = l.length ∧ ∀ j, j < cs.length → 0 ≤ cs.getD j 0 ∧ cs.getD j 0 ≤ 127
instance (l cs : List Int) : Decidable (RdsP l cs) := by unfold RdsP; infer_instance
/-- The States among the first so many under which a test shows cells. -/
def rdsK (l cs : List Int) (k : Nat) : List (Int × Int) := (allS.take k).filter fun s => fitQ s.1 s.2 l cs
theorem rdsK_succ (l cs : List Int) {k : Nat} (h : k < 15) : rdsK l cs (k + 1) = rdsK l cs k ++ if fitQ (allS.getD k (0, 0)).1 (allS.getD k (0, 0)).2 l cs then [allS.getD k (0, 0)] else [] := by
  unfold rdsK
  have hk : k < allS.length := by rw [allS_len]; exact h
  rw [List.take_add_one, List.getElem?_eq_getElem hk, List.filter_append, List.getD_eq_getElem?_getD, List.getElem?_eq_getElem hk]
  congr 1
  show List.filter _ [allS[k]] = _
  rw [List.filter_cons]
  by_cases hd : fitQ (allS[k]).1 (allS[k]).2 l cs
  · rw [if_pos (decide_eq_true hd)]
    exact (if_pos hd).symm
  · rw [if_neg (fun z => hd (of_decide_eq_true z))]
    exact (if_neg hd).symm
theorem rdsK_len (l cs : List Int) (k : Nat) : (rdsK l cs k).length ≤ 15 := by
  unfold rdsK
  refine Nat.le_trans (List.length_filter_le _ _) ?_
  rw [List.length_take, allS_len]; omega
def ixL (l : List Int) (n : Int) : Nat := (l.takeWhile fun x => decide (x < n)).length
theorem ixL_le (l : List Int) (n : Int) : ixL l n ≤ l.length := (List.takeWhile_sublist _).length_le
theorem ixL_eq {n : Int} : ∀ {l : List Int} {k : Nat}, k ≤ l.length → (∀ j, j < k → l.getD j 0 < n) → (k = l.length ∨ ¬ l.getD k 0 < n) → ixL l n = k
  | [], k, h, _, _ => by simp at h; subst h; rfl
  | x :: l, 0, _, _, h => by
    have hx : ¬ x < n := by
      rcases h with h | h
      · simp at h
      · exact h
    unfold ixL
    rw [List.takeWhile_cons, if_neg (fun e => hx (of_decide_eq_true e))]; rfl
  | x :: l, k + 1, h, h1, h2 => by
    have hx : x < n := h1 0 (by omega)
    have ih := ixL_eq (n := n) (l := l) (k := k) (by simp only [List.length_cons] at h; omega) (fun j hj => h1 (j + 1) (by omega)) (h2.imp (fun e => by simp only [List.length_cons] at e; omega) id)
    unfold ixL at ih ⊢
    rw [List.takeWhile_cons, if_pos (decide_eq_true hx), List.length_cons, ih]
def PutP (l : List Int) (n : Int) : Prop := ixL l n < l.length ∧ l.getD (ixL l n) 0 = n
instance (l : List Int) (n : Int) : Decidable (PutP l n) := by unfold PutP; infer_instance
def putL (l : List Int) (n : Int) : List Int := l.take (ixL l n) ++ [n] ++ l.drop (ixL l n)
theorem putL_len (l : List Int) (n : Int) : (putL l n).length = l.length + 1 := by
  have := ixL_le l n
  unfold putL; simp only [List.length_append, List.length_take, List.length_drop, List.length_cons, List.length_nil]; omega
theorem putL_mem {l : List Int} {n x : Int} (h : x ∈ putL l n) : x = n ∨ x ∈ l := by
  unfold putL at h
  simp only [List.mem_append, List.mem_singleton] at h
  rcases h with (h | h) | h
  · exact .inr (List.mem_of_mem_take h)
  · exact .inl h
  · exact .inr (List.mem_of_mem_drop h)
def put1 (l : List Int) (n : Int) : List Int := if PutP l n then l else putL l n
/-- The set of a test. -/
def setF (l : List Int) : List Int := l.foldl put1 []
theorem setF_take (l : List Int) {i : Nat} (h : i < l.length) : setF (l.take (i + 1)) = put1 (setF (l.take i)) (l.getD i 0) := by
  unfold setF
  rw [List.take_add_one, List.getElem?_eq_getElem h, List.foldl_append, List.getD_eq_getElem?_getD, List.getElem?_eq_getElem h]; rfl
theorem setF_mem : ∀ (l o : List Int) (x : Int), x ∈ l.foldl put1 o → x ∈ o ∨ x ∈ l
  | [], _, _, h => .inl h
  | d :: l, o, x, h => by
    rcases setF_mem l (put1 o d) x h with h | h
    · unfold put1 at h
      split at h
      · exact .inl h
      · rcases putL_mem h with rfl | h
        · exact .inr List.mem_cons_self
        · exact .inl h
    · exact .inr (List.mem_cons_of_mem _ h)
theorem setF_lenO : ∀ (l o : List Int), (l.foldl put1 o).length ≤ o.length + l.length
  | [], _ => by simp
  | d :: l, o => by
    have := setF_lenO l (put1 o d)
    have h2 : (put1 o d).length ≤ o.length + 1 := by
      unfold put1; split
      · omega
      · rw [putL_len]; omega
    simp only [List.foldl_cons, List.length_cons]; omega
theorem setF_len (l : List Int) : (setF l).length ≤ l.length := by have := setF_lenO l []; simpa [setF] using this
theorem TstP.of_mem {l : List Int} (h : l.length ≤ 10) (h2 : ∀ x ∈ l, 0 ≤ x ∧ x ≤ 9) : TstP l := ⟨h, fun j hj => by
  rw [List.getD_eq_getElem?_getD, List.getElem?_eq_getElem hj]; exact h2 _ (List.getElem_mem hj)⟩
theorem TstP.mem {l : List Int} (h : TstP l) {x : Int} (hx : x ∈ l) : 0 ≤ x ∧ x ≤ 9 := by
  obtain ⟨j, hj, rfl⟩ := List.getElem_of_mem hx
  have := h.2 j hj
  rwa [List.getD_eq_getElem?_getD, List.getElem?_eq_getElem hj] at this
theorem setF_tst {l : List Int} (h : TstP l) : TstP (setF l) := TstP.of_mem (Nat.le_trans (setF_len l) h.1) fun x hx => h.mem ((setF_mem l [] x hx).resolve_left (by simp))
theorem cut_tst {l : List Int} (h : TstP l) (i : Nat) : TstP (l.take i ++ l.drop (i + 1)) := by
  have h1 := h.1
  refine TstP.of_mem (by simp only [List.length_append, List.length_take, List.length_drop]; omega) fun x hx => h.mem ?_
  rcases List.mem_append.1 hx with hx | hx
  · exact List.mem_of_mem_take hx
  · exact List.mem_of_mem_drop hx
def LeaP (l : List Int) : Prop := FulP l ∧ ∀ i, i < l.length → ¬ FulP (l.take i ++ l.drop (i + 1))
instance (l : List Int) : Decidable (LeaP l) := by unfold LeaP; infer_instance
def btP (s j : Nat) : Prop := ((shN s j &&& 1 : Nat) : Int) = 1
instance (s j : Nat) : Decidable (btP s j) := by unfold btP; infer_instance
/-- The places below i of a set that is told by bits, the first of n places counting most. -/
def prtK (n s i : Nat) : List Int := ((List.range i).filter fun j => btP s (n - 1 - j)).map fun (j : Nat) => (j : Int)
theorem prtK_succ (n s i : Nat) : prtK n s (i + 1) = prtK n s i ++ if btP s (n - 1 - i) then [(i : Int)] else [] := by
  unfold prtK
  rw [List.range_succ, List.filter_append, List.map_append]
  congr 1
  rw [List.filter_cons]
  by_cases h : btP s (n - 1 - i)
  · rw [if_pos (decide_eq_true h), if_pos h]; rfl
  · rw [if_neg (fun e => h (of_decide_eq_true e)), if_neg h]; rfl
theorem prtK_len (n s i : Nat) : (prtK n s i).length ≤ i := by
  unfold prtK; rw [List.length_map]; exact Nat.le_trans (List.length_filter_le _ _) (by simp)
theorem prtK_at {n s i j : Nat} (h : j < (prtK n s i).length) : 0 ≤ (prtK n s i).getD j 0 ∧ (prtK n s i).getD j 0 < i := by
  have hm : (prtK n s i).getD j 0 ∈ prtK n s i := by
    rw [List.getD_eq_getElem?_getD, List.getElem?_eq_getElem h]; exact List.getElem_mem h
  generalize (prtK n s i).getD j 0 = x at hm ⊢
  unfold prtK at hm
  obtain ⟨k, hk, rfl⟩ := List.mem_map.1 hm
  have := List.mem_range.1 (List.mem_filter.1 hk).1
  omega
/-- The digits of a list at the places of a set. -/
def dgsF (l : List Int) (s : Nat) : List Int := (prtK l.length s l.length).map fun i => l.getD i.toNat 0
theorem dgsF_len (l : List Int) (s : Nat) : (dgsF l s).length ≤ l.length := by unfold dgsF; rw [List.length_map]; exact prtK_len _ _ _
theorem dgsF_tst {l : List Int} (h : TstP l) (s : Nat) : TstP (dgsF l s) := by
  refine TstP.of_mem (Nat.le_trans (dgsF_len l s) h.1) fun x hx => ?_
  unfold dgsF at hx
  obtain ⟨i, hi, rfl⟩ := List.mem_map.1 hx
  obtain ⟨j, hj, rfl⟩ := List.getElem_of_mem hi
  have hb := prtK_at hj
  rw [List.getD_eq_getElem?_getD, List.getElem?_eq_getElem hj] at hb
  simp only [Option.getD_some] at hb
  exact h.2 _ (by omega)
theorem map_takeD {f : Int → Int} {p : List Int} {i : Nat} (h : i < p.length) : (p.take (i + 1)).map f = (p.take i).map f ++ [f (p.getD i 0)] := by
  rw [List.take_add_one, List.getElem?_eq_getElem h, List.map_append, List.getD_eq_getElem?_getD, List.getElem?_eq_getElem h]; rfl
def tenL : List Int := [0, 1, 2, 3, 4, 5, 6, 7, 8, 9]
theorem tenL_tst : TstP tenL := ⟨by decide, by decide⟩
def cfP (k : Int) (s : Nat) : Prop := (((dgsF tenL s).length : Nat) : Int) = k ∧ FulP (dgsF tenL s)
instance (k : Int) (s : Nat) : Decidable (cfP k s) := by unfold cfP; infer_instance
def cftK (k : Int) (n : Nat) : Nat := ((List.range n).filter fun s => cfP k s).length
theorem cftK_succ (k : Int) (n : Nat) : cftK k (n + 1) = cftK k n + if cfP k n then 1 else 0 := by
  unfold cftK
  rw [List.range_succ, List.filter_append, List.length_append]
  congr 1
  rw [List.filter_cons]
  by_cases h : cfP k n
  · rw [if_pos (decide_eq_true h), if_pos h]; rfl
  · rw [if_neg (fun e => h (of_decide_eq_true e)), if_neg h]; rfl
theorem cftK_le (k : Int) (n : Nat) : cftK k n ≤ n := by
  unfold cftK; exact Nat.le_trans (List.length_filter_le _ _) (by simp)
/-- One list stands before another one. -/
def befF : List Int → List Int → Bool
  | [], [] => false
  | [], _ :: _ => true
  | _ :: _, [] => false
  | x :: a, y :: b => if x = y then befF a b else decide (x < y)
theorem bef_ne : ∀ {a b : List Int} {i : Nat}, i < a.length → i < b.length → (∀ j, j < i → a.getD j 0 = b.getD j 0) → a.getD i 0 ≠ b.getD i 0 → befF a b = decide (a.getD i 0 < b.getD i 0)
  | [], _, _, h, _, _, _ => absurd h (by simp)
  | _ :: _, [], _, _, h, _, _ => absurd h (by simp)
  | x :: a, y :: b, 0, _, _, _, h => by
    have hxy : x ≠ y := h
    unfold befF
    rw [if_neg hxy]; rfl
  | x :: a, y :: b, i + 1, h1, h2, h3, h4 => by
    have hxy : x = y := h3 0 (by omega)
    unfold befF
    rw [if_pos hxy]
    exact bef_ne (i := i) (by simp only [List.length_cons] at h1; omega) (by simp only [List.length_cons] at h2; omega) (fun j hj => h3 (j + 1) (by omega)) h4
theorem bef_end : ∀ {a b : List Int}, (∀ j, j < a.length → j < b.length → a.getD j 0 = b.getD j 0) → befF a b = decide (a.length < b.length)
  | [], [], _ => rfl
  | [], _ :: _, _ => by unfold befF; exact (decide_eq_true (by simp)).symm
  | _ :: _, [], _ => by unfold befF; exact (decide_eq_false (by simp)).symm
  | x :: a, y :: b, h => by
    have hxy : x = y := h 0 (by simp) (by simp)
    unfold befF
    rw [if_pos hxy, bef_end (a := a) (b := b) (fun j h1 h2 => h (j + 1) (by simp only [List.length_cons]; omega) (by simp only [List.length_cons]; omega))]
    exact decide_eq_decide.mpr (by simp only [List.length_cons]; omega)
/-- The shortest full part so far, and whether there is one. -/
def betP (p : List Int) (b : List Int × Bool) : Prop := FulP p ∧ (b.2 = false ∨ (p.length : Int) < b.1.length ∨ ((p.length : Int) = b.1.length ∧ befF p b.1 = true))
instance (p : List Int) (b : List Int × Bool) : Decidable (betP p b) := by unfold betP; infer_instance
def shoK (S : List Int) : Nat → List Int × Bool
  | 0 => ([], false)
  | n + 1 => if betP (dgsF S n) (shoK S n) then (dgsF S n, true) else shoK S n
theorem shoK_len (S : List Int) : ∀ n, (shoK S n).1.length ≤ S.length
  | 0 => by simp [shoK]
  | n + 1 => by
    unfold shoK; split
    · exact dgsF_len S n
    · exact shoK_len S n
theorem p2_10 {k : Nat} (h : k ≤ 10) : 1 ≤ p2 k ∧ p2 k ≤ 1024 := by
  have h1 : p2 k ≤ p2 10 := Nat.pow_le_pow_right (by omega) h
  have h2 : 0 < p2 k := Nat.pow_pos (by omega)
  exact ⟨h2, h1⟩

/-- The changes from the cell of a digit to that of another one. -/
def dgt (a b : Nat) : Int := ((cnt7 ((digT.getD a 0).toNat ^^^ (digT.getD b 0).toNat) : Nat) : Int)
theorem dgt_le (a b : Nat) : 0 ≤ dgt a b ∧ dgt a b ≤ 7 := by
  have := cnt7_le ((digT.getD a 0).toNat ^^^ (digT.getD b 0).toNat)
  unfold dgt; omega
/-- A list of so many zeros, its first k places filled by f. -/
def filN (m : Nat) (f : Nat → Int) : Nat → List Int
  | 0 => List.replicate m 0
  | k + 1 => (filN m f k).set k (f k)
theorem filN_len (m : Nat) (f : Nat → Int) : ∀ k, (filN m f k).length = m
  | 0 => by simp [filN]
  | k + 1 => by simp [filN, filN_len m f k]
theorem filN_at (m : Nat) (f : Nat → Int) : ∀ (k s : Nat), s < m → (filN m f k).getD s 0 = if s < k then f s else 0
  | 0, s, h => by simp [filN, h]
  | k + 1, s, h => by
    have ih := filN_at m f k s h
    have hl := filN_len m f k
    rw [List.getD_eq_getElem?_getD] at ih ⊢
    rw [filN, List.getElem?_set]
    by_cases e : k = s
    · subst e; simp [hl, h]
    · rw [if_neg e, ih]
      by_cases h2 : s < k
      · rw [if_pos h2, if_pos (by omega)]
      · rw [if_neg h2, if_neg (by omega)]
theorem filN_put (m : Nat) (f : Nat → Int) {k o : Nat} {v : Int} (ho : o = k) (hk : k < m) (hv : v = f k) : putAt ((filN m f k).map (PV.int .i64)) o [PV.int .i64 v] = (filN m f (k + 1)).map (PV.int .i64) := by
  subst ho; subst hv
  have := put_map1 (PV.int .i64) (filN m f o) (k := o) (by rw [filN_len]; exact hk) (f o)
  rw [Nat.mul_one] at this
  exact this
theorem put_all {a b : List PV} {n : Nat} (ha : a.length = n) (hb : b.length = n) : putAt a 0 (PV.agg ((b.drop 0).take n)).cells = b := by
  unfold putAt PV.cells
  simp only [List.drop_zero, List.take_zero, List.nil_append, Nat.zero_add]
  rw [List.take_of_length_le (by omega), hb, List.drop_of_length_le (by omega), List.append_nil]
theorem res_agg1 {az : TypeId → Nat} {σ : St} {t u l e : Nat} {cs : List PV} (h : σ.at t = some (.box l e cs)) (haz : (az u == 0) = false) (hf : PV.flatL cs = true) (hl : cs.length = az u) : St.res az σ [.cell t u] = some [.val (.agg cs)] := by
  simp only [St.res, h, haz, hf, hl, BEq.rfl, Bool.and_self, if_true, Bool.false_eq_true, if_false]
/-- The nearest digits: one digit more is looked at. -/
def near1 (d : Nat) (s : List Int × Int) (z : Nat) : List Int × Int :=
  if z = d ∨ s.2 < dgt d z then s else if dgt d z < s.2 then ([(z : Int)], dgt d z) else (s.1 ++ [(z : Int)], s.2)
def nearK (d : Nat) (m : Int) : Nat → List Int × Int
  | 0 => ([], m)
  | k + 1 => near1 d (nearK d m k) k
theorem nearK_le (d : Nat) {m : Int} (hm : 0 ≤ m) : ∀ k, 0 ≤ (nearK d m k).2 ∧ (nearK d m k).2 ≤ m ∧ (nearK d m k).1.length ≤ k
  | 0 => by simp [nearK, hm]
  | k + 1 => by
    have ih := nearK_le d hm k
    have hd := dgt_le d k
    unfold nearK near1
    split
    · exact ⟨ih.1, ih.2.1, by omega⟩
    · split
      · exact ⟨hd.1, by simp only; omega, by simp⟩
      · exact ⟨ih.1, ih.2.1, by simp; omega⟩
set_option maxRecDepth 100000 in
theorem near_87 : ∀ d, d < 10 → nearK d 7 10 = nearK d 8 10 := by decide
/-- Whether a bar of a digit's cell lights. -/
def btD (d b : Nat) : Int := ((((shN (digT.getD d 0).toNat b : Nat) : Int).toNat &&& Int.toNat 1 : Nat) : Int)
theorem btD_le (d b : Nat) : 0 ≤ btD d b ∧ btD d b ≤ 1 := by
  unfold btD
  have : ((shN (digT.getD d 0).toNat b : Nat) : Int).toNat &&& Int.toNat 1 ≤ 1 := Nat.and_le_right
  omega
def shS : Nat → List Int
  | 0 => List.replicate 7 0
  | s + 1 => (shS s).set (s % 7) ((shS s).getD (s % 7) 0 + btD (s / 7) (s % 7))
theorem shS_len : ∀ s, (shS s).length = 7
  | 0 => rfl
  | s + 1 => by simp [shS, shS_len s]
theorem shS_le : ∀ (s j : Nat), 0 ≤ (shS s).getD j 0 ∧ (shS s).getD j 0 ≤ s
  | 0, j => by
    have : (shS 0).getD j 0 = 0 := by
      unfold shS
      rw [List.getD_eq_getElem?_getD, List.getElem?_replicate]
      split <;> rfl
    rw [this]; omega
  | s + 1, j => by
    have h1 := shS_le s j
    have h2 := shS_le s (s % 7)
    have h3 := btD_le (s / 7) (s % 7)
    have hl := shS_len s
    have : (shS (s + 1)).getD j 0 = if s % 7 = j then (shS s).getD (s % 7) 0 + btD (s / 7) (s % 7) else (shS s).getD j 0 := by
      rw [shS, List.getD_eq_getElem?_getD, List.getElem?_set]
      by_cases e : s % 7 = j
      · rw [if_pos e, if_pos e, if_pos (by omega)]; rfl
      · rw [if_neg e, if_neg e, ← List.getD_eq_getElem?_getD]
    rw [this]
    split <;> omega
theorem shS_put {s o : Nat} {v : Int} (ho : o = s % 7) (hv : v = (shS s).getD (s % 7) 0 + btD (s / 7) (s % 7)) : putAt ((shS s).map (PV.int .i64)) o [PV.int .i64 v] = (shS (s + 1)).map (PV.int .i64) := by
  subst ho; subst hv
  have := put_map1 (PV.int .i64) (shS s) (k := s % 7) (by rw [shS_len]; omega) ((shS s).getD (s % 7) 0 + btD (s / 7) (s % 7))
  rw [Nat.mul_one] at this
  exact this
def tabF (s : Nat) : Int := dgt (s / 10) (s % 10)
def tabS (k : Nat) : List Int := filN 100 tabF k
theorem tab_at {a b : Nat} (ha : a < 10) (hb : b < 10) : (tabS 100).getD (a * 10 + b) 0 = dgt a b := by
  unfold tabS
  rw [filN_at 100 tabF 100 _ (by omega), if_pos (by omega)]
  unfold tabF
  rw [show (a * 10 + b) / 10 = a by omega, show (a * 10 + b) % 10 = b by omega]

def hasK (l : List Int) (n : Int) : Nat → Bool
  | 0 => false
  | k + 1 => hasK l n k || decide (l.getD k 0 = n)
def ordK (l : List Int) : Nat → Bool
  | 0 => true
  | k + 1 => ordK l k && (decide (0 ≤ l.getD k 0 ∧ l.getD k 0 ≤ 9) && !hasK l (l.getD k 0) k)
theorem ordK_mono {l : List Int} : ∀ {m k : Nat}, k ≤ m → ordK l m = true → ordK l k = true
  | 0, k, h, h1 => by rw [show k = 0 by omega]; rfl
  | m + 1, k, h, h1 => by
    by_cases e : k = m + 1
    · rw [e]; exact h1
    · simp only [ordK, Bool.and_eq_true] at h1
      exact ordK_mono (by omega) h1.1
theorem ordK_at {l : List Int} {m j : Nat} (h : ordK l m = true) (hj : j < m) : (0 ≤ l.getD j 0 ∧ l.getD j 0 ≤ 9) ∧ hasK l (l.getD j 0) j = false := by
  have := ordK_mono (k := j + 1) (by omega) h
  simp only [ordK, Bool.and_eq_true, decide_eq_true_eq, Bool.not_eq_true'] at this
  exact this.2
theorem ordK_not {l : List Int} {m j : Nat} (hj : j < m) (h : ¬ ((0 ≤ l.getD j 0 ∧ l.getD j 0 ≤ 9) ∧ hasK l (l.getD j 0) j = false)) : ordK l m = false := by
  cases hb : ordK l m with
  | false => rfl
  | true => exact absurd (ordK_at hb hj) h
theorem ordK_succ {l : List Int} {k : Nat} (h : ordK l k = true) (h1 : 0 ≤ l.getD k 0 ∧ l.getD k 0 ≤ 9) (h2 : hasK l (l.getD k 0) k = false) : ordK l (k + 1) = true := by
  simp only [ordK, h, h2, decide_eq_true h1, Bool.and_self, Bool.not_false]
theorem hasK_take (l : List Int) (n : Int) {i : Nat} (hi : i ≤ l.length) : ∀ k, k ≤ i → hasK (l.take i) n k = hasK l n k
  | 0, _ => rfl
  | k + 1, h => by
    have e : (l.take i).getD k 0 = l.getD k 0 := by
      simp only [List.getD_eq_getElem?_getD]
      rw [List.getElem?_take, if_pos (by omega)]
    rw [hasK, hasK, hasK_take l n hi k (by omega), e]
def ten (l : List Int) (m : Nat) (d : Int) : Nat := if hasK l d m then 1 else 0
theorem ten_le (l : List Int) (m : Nat) (d : Int) : ten l m d ≤ 1 := by unfold ten; split <;> omega
theorem ten_succ (l : List Int) (m : Nat) (d : Int) (h : hasK l (l.getD m 0) m = false) : ten l (m + 1) d = ten l m d + if l.getD m 0 = d then 1 else 0 := by
  unfold ten
  rw [hasK]
  by_cases e : l.getD m 0 = d
  · rw [← e, h]; simp
  · rw [decide_eq_false e, Bool.or_false, if_neg e, Nat.add_zero]
/-- An order has at most ten digits. -/
theorem ord_ten {l : List Int} : ∀ m, ordK l m = true → ten l m 0 + ten l m 1 + ten l m 2 + ten l m 3 + ten l m 4 + ten l m 5 + ten l m 6 + ten l m 7 + ten l m 8 + ten l m 9 = m
  | 0, _ => by simp [ten, hasK]
  | m + 1, h => by
    have ih := ord_ten m (ordK_mono (by omega) h)
    obtain ⟨h1, h2⟩ := ordK_at h (Nat.lt_succ_self m)
    have s := fun d => ten_succ l m d h2
    have hv : l.getD m 0 = 0 ∨ l.getD m 0 = 1 ∨ l.getD m 0 = 2 ∨ l.getD m 0 = 3 ∨ l.getD m 0 = 4 ∨ l.getD m 0 = 5 ∨ l.getD m 0 = 6 ∨ l.getD m 0 = 7 ∨ l.getD m 0 = 8 ∨ l.getD m 0 = 9 := by omega
    rw [s 0, s 1, s 2, s 3, s 4, s 5, s 6, s 7, s 8, s 9]
    rcases hv with e | e | e | e | e | e | e | e | e | e <;> rw [e] <;> simp <;> omega
theorem ord_len {l : List Int} {m : Nat} (h : ordK l m = true) : m ≤ 10 := by
  have := ord_ten m h
  have t := ten_le l m
  have := t 0; have := t 1; have := t 2; have := t 3; have := t 4; have := t 5; have := t 6; have := t 7; have := t 8; have := t 9
  omega
def cstK (l : List Int) : Nat → Int
  | 0 => 0
  | k + 1 => cstK l k + dgt (l.getD k 0).toNat (l.getD ((k + 1) % l.length) 0).toNat
theorem cstK_le (l : List Int) : ∀ k : Nat, 0 ≤ cstK l k ∧ cstK l k ≤ 7 * k
  | 0 => by simp [cstK]
  | k + 1 => by
    have := cstK_le l k
    have := dgt_le (l.getD k 0).toNat (l.getD ((k + 1) % l.length) 0).toNat
    unfold cstK; omega
def costO (l : List Int) (ring : Bool) : Int := cstK l (if ring then l.length else l.length - 1)

/-- A number to a power. -/
def pw9 (x : Int) : Nat → Int
  | 0 => 1
  | n + 1 => pw9 x n * x
def ten9 : Nat → Int
  | 0 => 1
  | n + 1 => ten9 n * 10
theorem ten9_pos : ∀ n, 1 ≤ ten9 n
  | 0 => Int.le_refl _
  | n + 1 => by have := ten9_pos n; unfold ten9; omega
theorem ten9_mono : ∀ {m n : Nat}, m ≤ n → ten9 m ≤ ten9 n
  | m, 0, h => by rw [show m = 0 by omega]; exact Int.le_refl _
  | m, n + 1, h => by
    by_cases e : m = n + 1
    · rw [e]; exact Int.le_refl _
    · have := ten9_mono (m := m) (n := n) (by omega)
      have := ten9_pos n
      show ten9 m ≤ ten9 n * 10
      omega
theorem pw9_bd {x : Int} (h0 : 0 ≤ x) (h1 : x ≤ 10) : ∀ n : Nat, 0 ≤ pw9 x n ∧ pw9 x n ≤ ten9 n
  | 0 => ⟨by unfold pw9; omega, by unfold pw9 ten9; omega⟩
  | n + 1 => by
    obtain ⟨a, b⟩ := pw9_bd h0 h1 n
    have ht := ten9_pos n
    refine ⟨Int.mul_nonneg a h0, ?_⟩
    exact Int.mul_le_mul b h1 h0 (by omega)
theorem pw9_pos {x : Int} (h0 : 1 ≤ x) : ∀ n : Nat, 1 ≤ pw9 x n
  | 0 => Int.le_refl _
  | n + 1 => by
    have := pw9_pos h0 n
    show 1 ≤ pw9 x n * x
    have h2 : 1 * 1 ≤ pw9 x n * x := Int.mul_le_mul this h0 (by omega) (by omega)
    simpa using h2
theorem pw9_7 {x : Int} (h0 : 0 ≤ x) (h1 : x ≤ 10) {n : Nat} (hn : n ≤ 7) : 0 ≤ pw9 x n ∧ pw9 x n ≤ 10000000 := by
  have h := pw9_bd h0 h1 n
  have h2 := ten9_mono hn
  have h3 : ten9 7 = 10000000 := rfl
  omega
/-- Fractions without a common divisor. -/
def frA (a b : Int) : Int := ((a.toNat / Nat.gcd a.toNat b.toNat : Nat) : Int)
def frB (a b : Int) : Int := ((b.toNat / Nat.gcd a.toNat b.toNat : Nat) : Int)
theorem gcd_step9 {x y g : Nat} (h : Nat.gcd x y = g) : Nat.gcd y (x % y) = g := by
  rw [← h, Nat.gcd_comm x y, Nat.gcd_rec y x, Nat.gcd_comm]
theorem gcd_stepI {x y : Int} {g : Nat} (hx : 0 ≤ x) (hy : 0 ≤ y) (h : Nat.gcd x.toNat y.toNat = g) : Nat.gcd y.toNat (x % y).toNat = g := by
  rw [Int.toNat_emod hx hy]; exact gcd_step9 h
theorem gcd_end9 {x : Int} {g : Nat} (h : Nat.gcd x.toNat (0 : Int).toNat = g) (hx : 0 ≤ x) : x = (g : Int) := by
  rw [← h]; simp; omega
theorem gcd_pos9 {a b : Int} (hb : 1 ≤ b) : 0 < Nat.gcd a.toNat b.toNat := Nat.gcd_pos_of_pos_right _ (by omega)
theorem frA_div {a b : Int} (ha : 0 ≤ a) : a / ((Nat.gcd a.toNat b.toNat : Nat) : Int) = frA a b := by
  obtain ⟨n, rfl⟩ : ∃ n : Nat, a = n := ⟨a.toNat, by omega⟩
  rfl
theorem frB_div {a b : Int} (hb : 0 ≤ b) : b / ((Nat.gcd a.toNat b.toNat : Nat) : Int) = frB a b := by
  obtain ⟨n, rfl⟩ : ∃ n : Nat, b = n := ⟨b.toNat, by omega⟩
  rfl
theorem frA_bd {a b : Int} (ha : 0 ≤ a) : 0 ≤ frA a b ∧ frA a b ≤ a := by
  unfold frA
  have := Nat.div_le_self a.toNat (Nat.gcd a.toNat b.toNat)
  generalize a.toNat / Nat.gcd a.toNat b.toNat = z at *
  omega
theorem frB_bd {a b : Int} (hb : 1 ≤ b) : 1 ≤ frB a b ∧ frB a b ≤ b := by
  unfold frB
  have h1 := Nat.div_le_self b.toNat (Nat.gcd a.toNat b.toNat)
  have h2 : 0 < b.toNat / Nat.gcd a.toNat b.toNat := Nat.div_pos (Nat.le_of_dvd (by omega) (Nat.gcd_dvd_right _ _)) (gcd_pos9 hb)
  omega
theorem fr_cross {a b : Int} (ha : 0 ≤ a) (hb : 1 ≤ b) : frA a b * b = a * frB a b := by
  obtain ⟨m, rfl⟩ : ∃ n : Nat, a = n := ⟨a.toNat, by omega⟩
  obtain ⟨n, rfl⟩ : ∃ n : Nat, b = n := ⟨b.toNat, by omega⟩
  unfold frA frB
  simp only [Int.toNat_natCast]
  rw [← Int.natCast_mul, ← Int.natCast_mul]
  congr 1
  have h1 := Nat.gcd_dvd_left m n
  have h2 := Nat.gcd_dvd_right m n
  generalize Nat.gcd m n = g at h1 h2
  by_cases hg : g = 0
  · subst hg; simp
  obtain ⟨x, rfl⟩ := h1
  obtain ⟨y, rfl⟩ := h2
  rw [Nat.mul_div_cancel_left _ (by omega), Nat.mul_div_cancel_left _ (by omega)]
  simp only [Nat.mul_left_comm, Nat.mul_comm]
theorem frN_scale (m n k : Nat) (hk : 0 < k) : m * k / Nat.gcd (m * k) (n * k) = m / Nat.gcd m n := by
  rw [Nat.gcd_mul_right, Nat.mul_div_mul_right _ _ hk]
theorem fr_eq {a b c d : Int} (ha : 0 ≤ a) (hb : 1 ≤ b) (hc : 0 ≤ c) (hd : 1 ≤ d) (h : a * d = c * b) : frA a b = frA c d ∧ frB a b = frB c d := by
  obtain ⟨a, rfl⟩ : ∃ n : Nat, a = n := ⟨a.toNat, by omega⟩
  obtain ⟨b, rfl⟩ : ∃ n : Nat, b = n := ⟨b.toNat, by omega⟩
  obtain ⟨c, rfl⟩ : ∃ n : Nat, c = n := ⟨c.toNat, by omega⟩
  obtain ⟨d, rfl⟩ : ∃ n : Nat, d = n := ⟨d.toNat, by omega⟩
  have h : a * d = c * b := by exact_mod_cast h
  unfold frA frB
  simp only [Int.toNat_natCast]
  constructor
  · congr 1
    rw [← frN_scale a b d (by omega), ← frN_scale c d b (by omega), h, Nat.mul_comm b d]
  · congr 1
    rw [Nat.gcd_comm a b, Nat.gcd_comm c d, ← frN_scale b a d (by omega), ← frN_scale d c b (by omega), h, Nat.mul_comm b d]
theorem fr_scale {a b k : Int} (ha : 0 ≤ a) (hb : 1 ≤ b) (hk : 1 ≤ k) : frA (a * k) (b * k) = frA a b ∧ frB (a * k) (b * k) = frB a b :=
  fr_eq (Int.mul_nonneg ha (by omega)) (by have := Int.mul_le_mul hb hk (by omega) (by omega); simpa using this) ha hb (by rw [Int.mul_assoc, Int.mul_comm k b])
/-- The sum of two fractions. -/
theorem fr_plus {a b c d : Int} (ha : 0 ≤ a) (hb : 1 ≤ b) (hc : 0 ≤ c) (hd : 1 ≤ d) : frA (frA a b * frB c d + frA c d * frB a b) (frB a b * frB c d) = frA (a * d + c * b) (b * d) ∧ frB (frA a b * frB c d + frA c d * frB a b) (frB a b * frB c d) = frB (a * d + c * b) (b * d) := by
  have e1 := fr_cross ha hb
  have e2 := fr_cross hc hd
  have a1 := frA_bd (b := b) ha; have a2 := frA_bd (b := d) hc; have b1 := frB_bd (a := a) hb; have b2 := frB_bd (a := c) hd
  refine fr_eq (Int.add_nonneg (Int.mul_nonneg a1.1 (by omega)) (Int.mul_nonneg a2.1 (by omega))) (by have := Int.mul_le_mul b1.1 b2.1 (by omega) (by omega); simpa using this) (Int.add_nonneg (Int.mul_nonneg ha (by omega)) (Int.mul_nonneg hc (by omega))) (by have := Int.mul_le_mul hb hd (by omega) (by omega); simpa using this) ?_
  generalize frA a b = f0 at *
  generalize frB a b = f1 at *
  generalize frA c d = g0 at *
  generalize frB c d = g1 at *
  have k1 : f0 * g1 * (b * d) = a * d * (f1 * g1) := by
    calc f0 * g1 * (b * d) = (f0 * b) * (g1 * d) := by ac_rfl
      _ = (a * f1) * (g1 * d) := by rw [e1]
      _ = a * d * (f1 * g1) := by ac_rfl
  have k2 : g0 * f1 * (b * d) = c * b * (f1 * g1) := by
    calc g0 * f1 * (b * d) = (g0 * d) * (f1 * b) := by ac_rfl
      _ = (c * g1) * (f1 * b) := by rw [e2]
      _ = c * b * (f1 * g1) := by ac_rfl
  rw [Int.add_mul, Int.add_mul, k1, k2]
/-- Of the same whole. -/
theorem fr_plusN {a c n : Int} (ha : 0 ≤ a) (hc : 0 ≤ c) (hn : 1 ≤ n) : frA (frA a n * frB c n + frA c n * frB a n) (frB a n * frB c n) = frA (a + c) n ∧ frB (frA a n * frB c n + frA c n * frB a n) (frB a n * frB c n) = frB (a + c) n := by
  have h := fr_plus ha hn hc hn
  have k := fr_scale (a := a + c) (b := n) (k := n) (by omega) hn hn
  rw [Int.add_mul] at k
  exact ⟨h.1.trans k.1, h.2.trans k.2⟩
theorem fr_overN {a c n : Int} (ha : 0 ≤ a) (hc : 1 ≤ c) (hn : 1 ≤ n) : frA (frA a n * frB c n) (frB a n * frA c n) = frA a c ∧ frB (frA a n * frB c n) (frB a n * frA c n) = frB a c := by
  have e1 := fr_cross ha hn
  have e2 := fr_cross (a := c) (b := n) (by omega) hn
  have a1 := frA_bd (b := n) ha; have a2 := frA_bd (a := c) (b := n) (by omega); have b1 := frB_bd (a := a) hn; have b2 := frB_bd (a := c) hn
  have a3 : 1 ≤ frA c n := by
    by_cases h : 1 ≤ frA c n
    · exact h
    · exfalso
      rw [show frA c n = 0 by omega, Int.zero_mul] at e2
      have := Int.mul_le_mul hc b2.1 (by omega) (by omega)
      omega
  refine fr_eq (Int.mul_nonneg a1.1 (by omega)) (by have := Int.mul_le_mul b1.1 a3 (by omega) (by omega); simpa using this) ha hc ?_
  generalize frA a n = f0 at *
  generalize frB a n = f1 at *
  generalize frA c n = g0 at *
  generalize frB c n = g1 at *
  -- f0 n = a f1, g0 n = c g1 ; f0 g1 c = a f1 g0
  have : n * (f0 * g1 * c) = n * (a * (f1 * g0)) := by
    calc n * (f0 * g1 * c) = (f0 * n) * (c * g1) := by ac_rfl
      _ = (a * f1) * (g0 * n) := by rw [e1, ← e2]
      _ = n * (a * (f1 * g0)) := by ac_rfl
  exact Int.eq_of_mul_eq_mul_left (by omega) this
theorem fr_opp {a n : Int} (ha : 0 ≤ a) (han : a ≤ n) (hn : 1 ≤ n) : 0 ≤ frB a n - frA a n ∧ frA (frB a n - frA a n) (frB a n) = frA (n - a) n ∧ frB (frB a n - frA a n) (frB a n) = frB (n - a) n := by
  have e1 := fr_cross ha hn
  have a1 := frA_bd (b := n) ha; have b1 := frB_bd (a := a) hn
  have hle : frA a n ≤ frB a n := by
    unfold frA frB
    have := Nat.div_le_div_right (c := Nat.gcd a.toNat n.toNat) (show a.toNat ≤ n.toNat by omega)
    omega
  refine ⟨by omega, fr_eq (by omega) b1.1 (by omega) hn ?_⟩
  generalize frA a n = f0 at *
  generalize frB a n = f1 at *
  rw [Int.sub_mul, Int.sub_mul, e1, Int.mul_comm f1 n]
theorem fr_0 {n : Int} (hn : 1 ≤ n) : frA 0 n = 0 ∧ frB 0 n = 1 := by
  unfold frA frB
  simp
  rw [Int.ediv_self (by omega)]
theorem fr_zero {a n : Int} (ha : 0 ≤ a) (hn : 1 ≤ n) : (frA a n = 0 ∧ frB a n = 1) ↔ a = 0 := by
  constructor
  · rintro ⟨h1, h2⟩
    have e1 := fr_cross ha hn
    rw [h1, h2] at e1
    omega
  · rintro rfl; exact fr_0 hn
def FkP (p q : Int) : Prop := (1 ≤ q ∧ q ≤ 10) ∧ 0 ≤ p ∧ p ≤ q
instance (p q : Int) : Decidable (FkP p q) := by unfold FkP; infer_instance
/-- How far two cells are. -/
def fr9 (c a : Int) : Nat := cnt7 (c.toNat ^^^ a.toNat)
theorem fr9_le (c a : Int) : fr9 c a ≤ 7 := cnt7_le _
theorem fr9_comm (c a : Int) : fr9 c a = fr9 a c := by unfold fr9; rw [Nat.xor_comm]
def prt (c a p q : Int) : Int := pw9 p (fr9 c a) * pw9 (q - p) (7 - fr9 c a)
theorem prt_bd {c a p q : Int} (h : FkP p q) : 0 ≤ prt c a p q ∧ prt c a p q ≤ 10000000 := by
  have h1 := pw9_bd h.2.1 (by have := h.1.2; have := h.2.2; omega) (fr9 c a)
  have h2 := pw9_bd (x := q - p) (by have := h.2.2; omega) (by have := h.1.2; have := h.2.1; omega) (7 - fr9 c a)
  refine ⟨Int.mul_nonneg h1.1 h2.1, ?_⟩
  have h3 := Int.mul_le_mul h1.2 h2.2 h2.1 (by have := ten9_pos (fr9 c a); omega)
  have h4 : ten9 (fr9 c a) * ten9 (7 - fr9 c a) = 10000000 := by
    have := fr9_le c a
    generalize fr9 c a = k at *
    have key : ∀ i : Fin 8, ten9 i.val * ten9 (7 - i.val) = 10000000 := by decide
    exact key ⟨k, by omega⟩
  unfold prt
  omega
/-- The chances that a cell is shown as the first so many digits, together, in parts. -/
def sm9 (c p q : Int) : Nat → Int
  | 0 => 0
  | k + 1 => sm9 c p q k + prt c (digT.getD k 0) p q
theorem sm9_bd {c p q : Int} (h : FkP p q) : ∀ k : Nat, 0 ≤ sm9 c p q k ∧ sm9 c p q k ≤ 10000000 * k
  | 0 => by simp [sm9]
  | k + 1 => by
    have := sm9_bd (c := c) h k
    have := prt_bd (c := c) (a := digT.getD k 0) h
    unfold sm9; omega
set_option maxRecDepth 100000 in
theorem sm9_le {d p q : Int} (hd : 0 ≤ d ∧ d ≤ 9) (h : FkP p q) : sm9 (digT.getD d.toNat 0) p q 10 ≤ pw9 q 7 := by
  obtain ⟨dn, rfl⟩ : ∃ n : Nat, d = n := ⟨d.toNat, by omega⟩
  obtain ⟨⟨h1, h2⟩, h3, h4⟩ := h
  obtain ⟨pn, rfl⟩ : ∃ n : Nat, p = n := ⟨p.toNat, by omega⟩
  obtain ⟨qn, rfl⟩ : ∃ n : Nat, q = n := ⟨q.toNat, by omega⟩
  have key : ∀ i : Fin 10, ∀ j : Fin 11, ∀ k : Fin 11, k.val ≤ j.val → sm9 (digT.getD i.val 0) (k.val : Int) (j.val : Int) 10 ≤ pw9 (j.val : Int) 7 := by decide +kernel
  exact key ⟨dn, by omega⟩ ⟨qn, by omega⟩ ⟨pn, by omega⟩ (by show pn ≤ qn; omega)


/-- What is told of the first so many numbers, together. -/
def sumI (f : Nat → Int) : Nat → Int
  | 0 => 0
  | n + 1 => sumI f n + f n
theorem sumI_bd {f : Nat → Int} {m : Int} (h : ∀ n, 0 ≤ f n ∧ f n ≤ m) : ∀ n : Nat, 0 ≤ sumI f n ∧ sumI f n ≤ m * n
  | 0 => by simp [sumI]
  | n + 1 => by
    have h1 := sumI_bd h n
    have h2 := h n
    have e : m * ((n + 1 : Nat) : Int) = m * n + m := by rw [Int.natCast_add, Int.mul_add]; simp
    unfold sumI; omega
theorem sumI_bd' {f : Nat → Int} {m : Int} : ∀ n : Nat, (∀ i, i < n → 0 ≤ f i ∧ f i ≤ m) → 0 ≤ sumI f n ∧ sumI f n ≤ m * n
  | 0, _ => by simp [sumI]
  | n + 1, h => by
    have h1 := sumI_bd' n (fun i hi => h i (by omega))
    have h2 := h n (by omega)
    have e : m * ((n + 1 : Nat) : Int) = m * n + m := by rw [Int.natCast_add, Int.mul_add]; simp
    unfold sumI; omega
theorem sumI_congr {f g : Nat → Int} : ∀ {n : Nat}, (∀ i, i < n → f i = g i) → sumI f n = sumI g n
  | 0, _ => rfl
  | n + 1, h => by
    unfold sumI; rw [sumI_congr (fun i hi => h i (by omega)), h n (by omega)]
theorem sumI_1 {f : Nat → Int} {i : Int} (h : 0 ≤ i) : sumI f (i + 1).toNat = sumI f i.toNat + f i.toNat := by
  rw [show (i + 1).toNat = i.toNat + 1 by omega]; rfl
/-- The bars that light in the row of a number. -/
def litD (n : Nat) : Int := if n < 10 then ((cnt7 (digT.getD n 0).toNat : Nat) : Int) else litD (n / 10) + ((cnt7 (digT.getD (n % 10) 0).toNat : Nat) : Int)
theorem litD_lt {n : Nat} (h : n < 10) : litD n = ((cnt7 (digT.getD n 0).toNat : Nat) : Int) := by rw [litD, if_pos h]
theorem litD_ge {n : Nat} (h : ¬ n < 10) : litD n = litD (n / 10) + ((cnt7 (digT.getD (n % 10) 0).toNat : Nat) : Int) := by rw [litD, if_neg h]
/-- What is still to come of it. -/
def litP (n : Nat) : Int := if n < 10 then 0 else litD (n / 10)
theorem litP_cat (n : Nat) : litD n = litP n + ((cnt7 (digT.getD (n % 10) 0).toNat : Nat) : Int) := by
  unfold litP
  by_cases h : n < 10
  · rw [if_pos h, litD_lt h, Nat.mod_eq_of_lt h]; simp
  · rw [if_neg h, litD_ge h]
theorem litD_bd : ∀ (k n : Nat), n < 10 ^ (k + 1) → 0 ≤ litD n ∧ litD n ≤ 7 * (k + 1 : Nat)
  | 0, n, h => by
    have := cnt7_le (digT.getD n 0).toNat
    rw [litD_lt (by simpa using h)]; omega
  | k + 1, n, h => by
    have h1 := cnt7_le (digT.getD n 0).toNat
    have h2 := cnt7_le (digT.getD (n % 10) 0).toNat
    by_cases e : n < 10
    · rw [litD_lt e]; omega
    · rw [litD_ge e]
      have := litD_bd k (n / 10) (by rw [Nat.pow_succ] at h; omega)
      omega
theorem litF_rowN : ∀ (k n : Nat), n < k → litF (rowN n) = litD n
  | 0, n, h => by omega
  | k + 1, n, h => by
    by_cases hn : n < 10
    · rw [rowN_lt hn, litD_lt hn]; simp [litF]
    · rw [rowN_ge hn, litD_ge hn, ← litF_rowN k (n / 10) (by omega)]
      unfold litF
      rw [List.foldl_append]; rfl
/-- What is asked for of the first so many sets of dark bars of which there are k: in all, and their number. -/
def dkS (k : Int) (f : Nat → Int) (n : Nat) : Int := sumI (fun d => if ((cnt7 d : Nat) : Int) = k then f d else 0) n
def dkN (k : Int) (n : Nat) : Int := sumI (fun d => if ((cnt7 d : Nat) : Int) = k then 1 else 0) n
theorem dkN_pos {k : Int} (h0 : 0 ≤ k) (h1 : k ≤ 7) : 1 ≤ dkN k 128 := by
  obtain ⟨kn, rfl⟩ : ∃ n : Nat, k = n := ⟨k.toNat, by omega⟩
  have key : ∀ i : Fin 8, 1 ≤ dkN (i.val : Int) 128 := by decide +kernel
  exact key ⟨kn, by omega⟩


set_option maxRecDepth 8000 in
set_option maxHeartbeats 2000000 in
theorem spec_l9Cut (a b : Int) (ha : 0 ≤ a ∧ a ≤ 4611686018427387904) (hb : 1 ≤ b ∧ b ≤ 4611686018427387904) : PCalls Tryd.prog 60 [.int .i64 a, .int .i64 b] (· = [.val (.agg [.int .i64 (frA (a) (b)), .int .i64 (frB (a) (b))])]) := by
  refine pcalls_of_code (n := 24) az Tryd.func60 (by kernel_rfl) rfl rfl (Nat.le_of_ble_eq_true rfl) (by intro t u h; simp [Tryd.f60] at h; obtain ⟨_, rfl⟩ := h <;> first | exact resTy_agg agg_26 (by decide)) ?_
  refine code_seq (fun K1 hK1 => ?_)
  refine code_region ?_
  refine list_cons rfl (op_alloc zt_26 (by decide) (by decide) rfl ?_)
  refine list_nil ?_
  refine hK1 _ ?_; clear hK1 K1
  refine code_seq (fun K2 hK2 => ?_)
  refine code_region ?_
  refine list_cons rfl (op_q (q_move rfl (by decide)) ?_)
  refine list_cons rfl (op_q (q_move rfl (by decide)) ?_)
  refine list_cons rfl (op_q (q_assign rfl (by decide)) ?_)
  refine list_cons rfl (op_q (q_assign rfl (by decide)) ?_)
  refine list_nil ?_
  refine hK2 _ ?_; clear hK2 K2
  refine code_seq (fun K3 hK3 => ?_)
  refine code_block ?_
  refine code_loop (X := Int × Int) (fun x => [(0, .val (.int .i64 a)), (1, .val (.int .i64 b)), (4, .box 4 26 [.int .i64 0, .int .i64 0]), (5, .val (.int .i64 x.1)), (6, .val (.int .i64 x.2))]) (fun x => 0 ≤ x.1 ∧ 0 ≤ x.2 ∧ Nat.gcd x.1.toNat x.2.toNat = Nat.gcd a.toNat b.toNat) (fun x => x.2.toNat) (_, _) (imp_covers ⟨rfl, rfl, rfl, rfl, rfl, trivial⟩) ?_ ?_
  · (try dsimp only)
    exact ⟨by omega, by omega, rfl⟩
  · intro x hI
    obtain ⟨x_, y⟩ := x
    replace hI : 0 ≤ x_ ∧ 0 ≤ y ∧ Nat.gcd x_.toNat y.toNat = Nat.gcd a.toNat b.toNat := hI
    show codeT _ _ _ [(0, .val (.int .i64 a)), (1, .val (.int .i64 b)), (4, .box 4 26 [.int .i64 0, .int .i64 0]), (5, .val (.int .i64 x_)), (6, .val (.int .i64 y))] _
    obtain ⟨i1, i2, i3⟩ := hI
    refine code_seq (fun K4 hK4 => ?_)
    refine code_seq (fun K5 hK5 => ?_)
    refine code_region ?_
    refine list_cons rfl (op_q (q_move rfl (by decide)) ?_)
    refine list_cons rfl (op_q (q_gt rfl rfl (by decide)) ?_)
    refine list_nil ?_
    refine hK5 _ ?_; clear hK5 K5
    refine code_cond_d rfl (fun h1 => ?_) (fun h1 => ?_)
    · skip
      (try simp only [Decidable.not_not] at h1); (try have hy : y = 0 := by omega); (try subst hy); (try have hx := gcd_end9 i3 i1); (try have hg := gcd_pos9 (a := a) hb.1)
      refine code_skip ?_
      refine hK4 _ ?_; clear hK4 K4
      refine code_block ?_
      refine code_draw (by kernel_rfl) (by kernel_rfl) ?_
      refine draw_q rfl (q_move rfl (by decide)) ?_
      refine draw_q rfl (q_move rfl (by decide)) ?_
      refine draw_q rfl (q_move rfl (by decide)) ?_
      refine draw_q rfl (by first | exact q_remI rfl rfl (by decide) (by omega) (by omega) | exact q_rem rfl rfl (by omega) (by decide)) ?_
      refine draw_q rfl (q_assign rfl (by decide)) ?_
      refine draw_q rfl (q_assign rfl (by decide)) ?_
      refine draw_nil ?_
      refine blk_n ?_
      refine then_n ⟨(_, _), imp_covers ⟨rfl, rfl, rfl, rfl, rfl, trivial⟩, ?_, ?_⟩
      · (try dsimp only)
        exact ⟨by omega, Int.emod_nonneg _ (by omega), gcd_stepI i1 i2 i3⟩
      · have := Int.emod_lt_of_pos x_ (show 0 < y by omega); (try dsimp only); omega
    (try simp only [Decidable.not_not] at h1); (try have hy : y = 0 := by omega); (try subst hy); (try have hx := gcd_end9 i3 i1); (try have hg := gcd_pos9 (a := a) hb.1)
    refine code_exit ?_
    refine then_x ?_; clear hK4 K4
    refine then_x ?_
    refine blk_hit ?_
    refine hK3 _ ?_; clear hK3 K3
    refine code_seq (fun K6 hK6 => ?_)
    refine any_start fun ob1_0 => ?_
    refine any_op (rd := [0]) ob1_0 rfl rfl rfl (anyT_quiet [(0, _)] ⟨rfl, trivial⟩ rfl (q_move rfl (by decide))) (fun ob1_1 => ?_)
    refine any_op (rd := [5]) ob1_1 rfl rfl rfl (anyT_quiet [(5, _)] ⟨rfl, trivial⟩ rfl (q_move rfl (by decide))) (fun ob1_2 => ?_)
    refine any_op (rd := [16]) ob1_2 rfl rfl rfl (fun σ hag hfr => by have e16 : σ.at 16 = some _ := (hag 16 (by decide)).trans rfl; exact op_call _ (spec_l1Most _ _) (evs_cons e16 (evs_cons (by first | rfl | assumption) evs_nil)) rfl (by decide) (by decide) (by decide) hfr (fun rs hR => by subst hR; rfl)) (fun ob1_3 => ?_)
    refine any_op (rd := [15, 17]) ob1_3 rfl rfl rfl (anyT_quiet [(15, _), (17, _)] ⟨rfl, rfl, trivial⟩ rfl (by first | exact q_quoI rfl rfl (by decide) (by omega) (by omega) (by omega) | exact q_quoT rfl rfl (by omega) (by decide) (by omega) (by omega) | exact q_quo rfl rfl (by omega) (by decide))) (fun ob1_4 => ?_)
    refine any_op (rd := [1]) ob1_4 rfl rfl rfl (anyT_quiet [(1, _)] ⟨rfl, trivial⟩ rfl (q_move rfl (by decide))) (fun ob1_5 => ?_)
    refine any_op (rd := [5]) ob1_5 rfl rfl rfl (anyT_quiet [(5, _)] ⟨rfl, trivial⟩ rfl (q_move rfl (by decide))) (fun ob1_6 => ?_)
    refine any_op (rd := [20]) ob1_6 rfl rfl rfl (fun σ hag hfr => by have e20 : σ.at 20 = some _ := (hag 20 (by decide)).trans rfl; exact op_call _ (spec_l1Most _ _) (evs_cons e20 (evs_cons (by first | rfl | assumption) evs_nil)) rfl (by decide) (by decide) (by decide) hfr (fun rs hR => by subst hR; rfl)) (fun ob1_7 => ?_)
    refine any_op (rd := [19, 21]) ob1_7 rfl rfl rfl (anyT_quiet [(19, _), (21, _)] ⟨rfl, rfl, trivial⟩ rfl (by first | exact q_quoI rfl rfl (by decide) (by omega) (by omega) (by omega) | exact q_quoT rfl rfl (by omega) (by decide) (by omega) (by omega) | exact q_quo rfl rfl (by omega) (by decide))) (fun ob1_8 => ?_)
    refine any_end [[], [], [1], [0, 1, 2], [], [], [1, 2, 5], [1, 2, 4, 5, 6], [0, 1, 2, 3, 4, 5, 6, 7], [0, 1, 2, 3, 4, 5, 6, 7, 8]] ob1_8 (by kernel_rfl) (Nat.le_of_ble_eq_true rfl) (by decide) (by decide) (by kernel_rfl) (by kernel_rfl) (by kernel_rfl) (by kernel_rfl) (by kernel_rfl) ?_
    clear ob1_0 ob1_1 ob1_2 ob1_3 ob1_4 ob1_5 ob1_6 ob1_7 ob1_8
    refine listT.imp (σ' := [(0, _), (1, _), (4, _), (5, _), (6, _), (9, _), (10, _), (15, _), (16, _), (17, _), (18, _), (19, _), (20, _), (21, _), (22, _)]) ?_ (imp_covers ⟨rfl, rfl, rfl, rfl, rfl, rfl, rfl, rfl, rfl, rfl, rfl, rfl, rfl, rfl, rfl, trivial⟩)
    refine list_cons rfl (op_q (q_build bt_26 (parts := [(0, .tmp 18), (1, .tmp 22)]) rfl rfl (by decide)) ?_)
    refine list_cons rfl (op_store (agg_26).2 4 [4] (by intro t ht; simp only [List.mem_cons, List.not_mem_nil, or_false] at ht; subst ht; rfl) (.inr ⟨rfl, _, rfl⟩) rfl rfl rfl rfl (by first | rfl | exact flat_part (flat_map _ (fun _ => rfl) _) _ _ | exact flat_map _ (fun _ => rfl) _) (by first | rfl | (simp [PV.cells]; done)) (by first | decide | omega | exact Nat.le_refl _ | (simp; done) | (simp; omega)) (by decide) rfl ?_)
    refine list_nil ?_
    refine hK6 _ ?_; clear hK6 K6
    refine codeT.imp (σ' := [(0, _), (1, _), (4, _), (5, _), (6, _)]) ?_ (imp_covers ⟨rfl, rfl, rfl, rfl, rfl, trivial⟩)
    refine code_ret ?_
    refine ends_ret (cs := []) rfl rfl rfl rfl trivial ?_
    subst hx
    rw [show (if (1 : Int) < ((Nat.gcd a.toNat b.toNat : Nat) : Int) then ((Nat.gcd a.toNat b.toNat : Nat) : Int) else 1) = ((Nat.gcd a.toNat b.toNat : Nat) : Int) by split <;> omega, frA_div ha.1, frB_div (by omega)]
    rfl

set_option maxRecDepth 8000 in
set_option maxHeartbeats 2000000 in
theorem spec_MeanBars (n : Int) : PCalls Tryd.prog 35 [.int .i64 n] (· = [.val (.agg [.int .i64 (if (0 ≤ n ∧ n ≤ 9999) then frA (sumI (litD) (n.toNat + 1)) (n + 1) else 0), .int .i64 (if (0 ≤ n ∧ n ≤ 9999) then frB (sumI (litD) (n.toNat + 1)) (n + 1) else 0)]), .val (.bool (decide ((0 ≤ n ∧ n ≤ 9999))))]) := by
  refine pcalls_of_code (n := 31) az Tryd.func35 (by kernel_rfl) rfl rfl (Nat.le_of_ble_eq_true rfl) (by intro t u h; simp [Tryd.f35] at h; obtain ⟨_, rfl⟩ := h <;> first | exact resTy_agg agg_26 (by decide)) ?_
  refine code_seq (fun K1 hK1 => ?_)
  refine code_region ?_
  refine list_cons rfl (op_alloc zt_26 (by decide) (by decide) rfl ?_)
  refine list_cons rfl (op_q (q_assign rfl (by decide)) ?_)
  refine list_nil ?_
  refine hK1 _ ?_; clear hK1 K1
  refine code_seq (fun K2 hK2 => ?_)
  refine code_seq (fun K3 hK3 => ?_)
  refine code_region ?_
  refine list_cons rfl (op_q (q_move rfl (by decide)) ?_)
  refine list_cons rfl (op_call _ (spec_l1In _ _ _) rfl rfl (by decide) (by decide) (by decide) rfl ?_)
  rintro _ rfl
  refine list_cons rfl (op_q (by first | exact q_notd rfl (by decide) | exact q_not rfl (by decide)) ?_)
  refine list_nil ?_
  refine hK3 _ ?_; clear hK3 K3
  refine codeT.imp (σ' := [(0, _), (2, _), (3, _), (9, _)]) ?_ (imp_covers ⟨rfl, rfl, rfl, rfl, trivial⟩)
  refine code_cond_d rfl (fun h1 => ?_) (fun h1 => ?_)
  · skip
    (try simp only [Decidable.not_not] at h1)
    refine code_seq (fun K4 hK4 => ?_)
    refine code_region ?_
    refine list_cons rfl (op_q (q_build bt_26 (parts := []) rfl rfl (by decide)) ?_)
    refine list_cons rfl (op_store (agg_26).2 2 [2] (by intro t ht; simp only [List.mem_cons, List.not_mem_nil, or_false] at ht; subst ht; rfl) (.inr ⟨rfl, _, rfl⟩) rfl rfl rfl rfl (by first | rfl | exact flat_part (flat_map _ (fun _ => rfl) _) _ _ | exact flat_map _ (fun _ => rfl) _) (by first | rfl | (simp [PV.cells]; done)) (by first | decide | omega | exact Nat.le_refl _ | (simp; done) | (simp; omega)) (by decide) rfl ?_)
    refine list_cons rfl (op_q (q_assign rfl (by decide)) ?_)
    refine list_nil ?_
    refine hK4 _ ?_; clear hK4 K4
    refine codeT.imp (σ' := [(0, _), (2, _), (3, _)]) ?_ (imp_covers ⟨rfl, rfl, rfl, trivial⟩)
    refine code_ret ?_
    refine then_r ?_; clear hK2 K2
    refine ends_ret (cs := []) rfl rfl rfl rfl trivial ?_
    first
      | (have e : ¬ (0 ≤ n ∧ n ≤ 9999) := by assumption
         simp only [if_neg e, decide_eq_false e]; rfl)
      | (simp only [if_pos hN, decide_eq_true hN, show k.toNat = n.toNat + 1 by omega]; first | done | rfl)
  (try simp only [Decidable.not_not] at h1)
  refine code_skip ?_
  refine hK2 _ ?_; clear hK2 K2
  refine code_seq (fun K5 hK5 => ?_)
  refine code_region ?_
  refine list_cons rfl (op_q (q_assign rfl (by decide)) ?_)
  refine list_nil ?_
  refine hK5 _ ?_; clear hK5 K5
  refine code_seq (fun K6 hK6 => ?_)
  refine code_seq (fun K7 hK7 => ?_)
  refine code_region ?_
  refine list_cons rfl (op_q (q_assign rfl (by decide)) ?_)
  refine list_nil ?_
  refine hK7 _ ?_; clear hK7 K7
  refine code_block ?_
  refine code_loop (X := Bool × Int × Int) (fun x => [(0, .val (.int .i64 n)), (2, .box 2 26 [.int .i64 0, .int .i64 0]), (3, .val (.bool x.1)), (4, .val (.int .i64 x.2.1)), (5, .val (.int .i64 x.2.2))]) (fun x => (0 ≤ n ∧ n ≤ 9999) ∧ 0 ≤ x.2.2 ∧ x.2.2 ≤ n + 1 ∧ x.2.1 = sumI (litD) x.2.2.toNat) (fun x => (n + 1 - x.2.2).toNat) (_, _, _) (imp_covers ⟨rfl, rfl, rfl, rfl, rfl, trivial⟩) ?_ ?_
  · (try dsimp only)
    exact ⟨by assumption, by omega, by omega, rfl⟩
  · intro x hI
    obtain ⟨t3, sum, k⟩ := x
    replace hI : (0 ≤ n ∧ n ≤ 9999) ∧ 0 ≤ k ∧ k ≤ n + 1 ∧ sum = sumI (litD) k.toNat := hI
    show codeT _ _ _ [(0, .val (.int .i64 n)), (2, .box 2 26 [.int .i64 0, .int .i64 0]), (3, .val (.bool t3)), (4, .val (.int .i64 sum)), (5, .val (.int .i64 k))] _
    obtain ⟨hN, i1, i2, rfl⟩ := hI
    have hsb := sumI_bd' (f := litD) (m := 28) k.toNat (fun i hi => litD_bd 3 i (by omega))
    have hkb := litD_bd 3 k.toNat
    refine code_seq (fun K8 hK8 => ?_)
    refine code_seq (fun K9 hK9 => ?_)
    refine code_region ?_
    refine list_cons rfl (op_q (q_move rfl (by decide)) ?_)
    refine list_cons rfl (op_q (q_move rfl (by decide)) ?_)
    refine list_cons rfl (op_q (q_le rfl rfl (by decide)) ?_)
    refine list_nil ?_
    refine hK9 _ ?_; clear hK9 K9
    refine code_cond_d rfl (fun h2 => ?_) (fun h2 => ?_)
    · skip
      (try simp only [Decidable.not_not] at h2)
      refine code_skip ?_
      refine hK8 _ ?_; clear hK8 K8
      refine code_seq (fun K10 hK10 => ?_)
      refine code_block ?_
      refine code_seq (fun K11 hK11 => ?_)
      refine code_region ?_
      refine list_cons rfl (op_q (q_move rfl (by decide)) ?_)
      refine list_cons rfl (op_q (q_assign rfl (by decide)) ?_)
      refine list_nil ?_
      refine hK11 _ ?_; clear hK11 K11
      refine code_block ?_
      refine code_loop (X := Bool × Int × Int) (fun x => [(0, .val (.int .i64 n)), (2, .box 2 26 [.int .i64 0, .int .i64 0]), (3, .val (.bool x.1)), (4, .val (.int .i64 x.2.1)), (5, .val (.int .i64 k)), (6, .val (.int .i64 x.2.2))]) (fun x => 0 ≤ x.2.2 ∧ x.2.2 ≤ 9999 ∧ x.2.1 + litD x.2.2.toNat = sumI (litD) k.toNat + litD k.toNat ∧ 0 ≤ x.2.1) (fun x => x.2.2.toNat) (_, _, _) (imp_covers ⟨rfl, rfl, rfl, rfl, rfl, rfl, trivial⟩) ?_ ?_
      · (try dsimp only)
        exact ⟨by omega, by omega, rfl, by omega⟩
      · intro x hI
        obtain ⟨t3, sum, rest⟩ := x
        replace hI : 0 ≤ rest ∧ rest ≤ 9999 ∧ sum + litD rest.toNat = sumI (litD) k.toNat + litD k.toNat ∧ 0 ≤ sum := hI
        show codeT _ _ _ [(0, .val (.int .i64 n)), (2, .box 2 26 [.int .i64 0, .int .i64 0]), (3, .val (.bool t3)), (4, .val (.int .i64 sum)), (5, .val (.int .i64 k)), (6, .val (.int .i64 rest))] _
        obtain ⟨j1, j2, j3, j4⟩ := hI
        have hcc := cnt7_le (digT.getD (rest % 10).toNat 0).toNat
        have hrb := litD_bd 3 rest.toNat (by omega)
        have hkb2 := hkb (by omega)
        have hdr := digT_cell (rest % 10).toNat
        refine code_seq (fun K12 hK12 => ?_)
        refine code_block ?_
        refine code_seq (fun K13 hK13 => ?_)
        refine code_region ?_
        refine list_cons rfl (op_q (q_move rfl (by decide)) ?_)
        refine list_cons rfl (op_q (q_move rfl (by decide)) ?_)
        refine list_cons rfl (op_q (by first | exact q_remI rfl rfl (by decide) (by omega) (by omega) | exact q_rem rfl rfl (by omega) (by decide)) ?_)
        refine list_cons rfl (op_call _ (spec_l2Digit _ (by omega) (by omega)) rfl rfl (by decide) (by decide) (by decide) rfl ?_)
        rintro _ rfl
        refine list_cons rfl (op_call _ (spec_l2Count _ (by omega) (by omega)) rfl rfl (by decide) (by decide) (by decide) rfl ?_)
        rintro _ rfl
        refine list_cons rfl (op_q (by first | exact q_addI rfl rfl (by decide) (by omega) (by omega) | exact q_ib rfl rfl rfl (by decide)) ?_)
        refine list_cons rfl (op_q (q_assign rfl (by decide)) ?_)
        refine list_nil ?_
        refine hK13 _ ?_; clear hK13 K13
        refine codeT.imp (σ' := [(0, _), (2, _), (3, _), (4, _), (5, _), (6, _)]) ?_ (imp_covers ⟨rfl, rfl, rfl, rfl, rfl, rfl, trivial⟩)
        refine code_seq (fun K14 hK14 => ?_)
        refine code_region ?_
        refine list_cons rfl (op_q (q_move rfl (by decide)) ?_)
        refine list_cons rfl (op_q (q_lt rfl rfl (by decide)) ?_)
        refine list_nil ?_
        refine hK14 _ ?_; clear hK14 K14
        refine code_cond_d rfl (fun h3 => ?_) (fun h3 => ?_)
        · skip
          (try simp only [Decidable.not_not] at h3)
          refine code_exit ?_
          refine blk_miss (by decide) ?_
          refine then_x ?_; clear hK12 K12
          refine then_x ?_
          refine blk_hit ?_
          refine blk_n ?_
          refine hK10 _ ?_; clear hK10 K10
          refine code_region ?_
          refine list_cons rfl (op_q (q_move rfl (by decide)) ?_)
          refine list_cons rfl (op_q (by first | exact q_addI rfl rfl (by decide) (by omega) (by omega) | exact q_ib rfl rfl rfl (by decide)) ?_)
          refine list_cons rfl (op_q (q_assign rfl (by decide)) ?_)
          refine list_nil ?_
          refine then_n ⟨(_, _, _), imp_covers ⟨rfl, rfl, rfl, rfl, rfl, trivial⟩, ?_, ?_⟩
          · (try dsimp only)
            refine ⟨hN, by omega, by omega, ?_⟩
            rw [sumI_1 i1]
            have hlc := litP_cat rest.toNat
            have hlp : litP rest.toNat = 0 := by unfold litP; rw [if_pos (by omega)]
            rw [show rest.toNat % 10 = (rest % 10).toNat by omega] at hlc
            omega
          · (try dsimp only); omega
        (try simp only [Decidable.not_not] at h3)
        refine code_skip ?_
        refine blk_n ?_
        refine hK12 _ ?_; clear hK12 K12
        refine code_region ?_
        refine list_cons rfl (op_q (q_move rfl (by decide)) ?_)
        refine list_cons rfl (op_q (by first | exact q_quoI rfl rfl (by decide) (by omega) (by omega) (by omega) | exact q_quoT rfl rfl (by omega) (by decide) (by omega) (by omega) | exact q_quo rfl rfl (by omega) (by decide)) ?_)
        refine list_cons rfl (op_q (q_assign rfl (by decide)) ?_)
        refine list_nil ?_
        refine then_n ⟨(_, _, _), imp_covers ⟨rfl, rfl, rfl, rfl, rfl, rfl, trivial⟩, ?_, ?_⟩
        · (try dsimp only)
          refine ⟨by omega, by omega, ?_, by omega⟩
          have hlc := litP_cat rest.toNat
          have hlp : litP rest.toNat = litD (rest / 10).toNat := by unfold litP; rw [if_neg (by omega), show rest.toNat / 10 = (rest / 10).toNat by omega]
          rw [show rest.toNat % 10 = (rest % 10).toNat by omega] at hlc
          omega
        · (try dsimp only); omega
    (try simp only [Decidable.not_not] at h2)
    refine code_exit ?_
    refine then_x ?_; clear hK8 K8
    refine then_x ?_
    refine blk_hit ?_
    refine hK6 _ ?_; clear hK6 K6
    refine code_seq (fun K15 hK15 => ?_)
    refine code_region ?_
    refine list_cons rfl (op_q (q_move rfl (by decide)) ?_)
    refine list_cons rfl (op_q (q_move rfl (by decide)) ?_)
    refine list_cons rfl (op_q (by first | exact q_addI rfl rfl (by decide) (by omega) (by omega) | exact q_ib rfl rfl rfl (by decide)) ?_)
    refine list_cons rfl (op_call _ (spec_l9Cut _ _ (by omega) (by omega)) rfl rfl (by decide) (by decide) (by decide) rfl ?_)
    rintro _ rfl
    refine list_cons rfl (op_store (agg_26).2 2 [2] (by intro t ht; simp only [List.mem_cons, List.not_mem_nil, or_false] at ht; subst ht; rfl) (.inr ⟨rfl, _, rfl⟩) rfl rfl rfl rfl (by first | rfl | exact flat_part (flat_map _ (fun _ => rfl) _) _ _ | exact flat_map _ (fun _ => rfl) _) (by first | rfl | (simp [PV.cells]; done)) (by first | decide | omega | exact Nat.le_refl _ | (simp; done) | (simp; omega)) (by decide) rfl ?_)
    refine list_cons rfl (op_q (q_assign rfl (by decide)) ?_)
    refine list_nil ?_
    refine hK15 _ ?_; clear hK15 K15
    refine codeT.imp (σ' := [(0, _), (2, _), (3, _), (4, _), (5, _)]) ?_ (imp_covers ⟨rfl, rfl, rfl, rfl, rfl, trivial⟩)
    refine code_ret ?_
    refine ends_ret (cs := []) rfl rfl rfl rfl trivial ?_
    first
      | (have e : ¬ (0 ≤ n ∧ n ≤ 9999) := by assumption
         simp only [if_neg e, decide_eq_false e]; rfl)
      | (simp only [if_pos hN, decide_eq_true hN, show k.toNat = n.toNat + 1 by omega]; first | done | rfl)

end Go.Proofs.YtbddhdbieelpjaaDoor
