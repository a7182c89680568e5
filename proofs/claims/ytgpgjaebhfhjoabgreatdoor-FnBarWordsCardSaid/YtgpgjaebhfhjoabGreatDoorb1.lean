/- Contracts of functions, walked over the pure layer; each says for which arguments. -/
import Derived.Test.YtgpgjaebhfhjoabGreatDoorb1Ty
import Derived.Test.YtgpgjaebhfhjoabGreatDoorTf
namespace Go.Proofs.YtgpgjaebhfhjoabGreatDoor
open Go.RowKit b1Ty
set_option linter.unusedVariables false
set_option linter.unusedSimpArgs false
theorem list_eq_ofI {α : Type} (d : α) (a b : List α) (h : a.length = b.length) (k : ∀ j, j < a.length → a.getD j d = b.getD j d) : a = b := by
  apply List.ext_getElem h
  intro j h1 h2
  have := k j h1
  simpa [h1, h2] using this
theorem take_snocI {α : Type} (d : α) (l : List α) (k : Nat) (h : k < l.length) : l.take (k + 1) = l.take k ++ [l.getD k d] := by
  rw [List.take_succ_eq_append_getElem h]; simp [h]
theorem list_ne_ofI {α : Type} (d : α) {a b : List α} (j : Nat) (k : a.getD j d ≠ b.getD j d) : a ≠ b := fun h => k (by rw [h])
def digT : List Int := [63, 6, 91, 79, 102, 109, 125, 7, 127, 111]
def digOf (c : Int) : Int := if c = 63 then 0 else if c = 6 then 1 else if c = 91 then 2 else if c = 79 then 3 else if c = 102 then 4 else if c = 109 then 5 else if c = 125 then 6 else if c = 7 then 7 else if c = 127 then 8 else if c = 111 then 9 else -1
theorem digOf_at {d : Int} {c : Int} (h0 : 0 ≤ d) (h1 : d ≤ 9) (h : digT.getD d.toNat 0 = c) : digOf c = d := by
  have : d = 0 ∨ d = 1 ∨ d = 2 ∨ d = 3 ∨ d = 4 ∨ d = 5 ∨ d = 6 ∨ d = 7 ∨ d = 8 ∨ d = 9 := by omega
  subst h
  rcases this with rfl | rfl | rfl | rfl | rfl | rfl | rfl | rfl | rfl | rfl <;> rfl
theorem digOf_none {c : Int} (h : ∀ j : Nat, j < 10 → digT.getD j 0 ≠ c) : digOf c = -1 := by
  have k0 := h 0 (by omega); have k1 := h 1 (by omega); have k2 := h 2 (by omega); have k3 := h 3 (by omega); have k4 := h 4 (by omega)
  have k5 := h 5 (by omega); have k6 := h 6 (by omega); have k7 := h 7 (by omega); have k8 := h 8 (by omega); have k9 := h 9 (by omega)
  simp [digT] at k0 k1 k2 k3 k4 k5 k6 k7 k8 k9
  unfold digOf
  repeat rw [if_neg (by omega)]
theorem digOf_le (c : Int) : -1 ≤ digOf c ∧ digOf c ≤ 9 := by
  unfold digOf
  repeat' split
  all_goals omega
def RowP (l : List Int) : Prop := l.length ≤ 6 ∧ ∀ x ∈ l, 0 ≤ x ∧ x ≤ 127
instance (l : List Int) : Decidable (RowP l) := by unfold RowP; infer_instance
theorem RowP.at {l : List Int} (h : RowP l) {j : Nat} (hj : j < l.length) : 0 ≤ l.getD j 0 ∧ l.getD j 0 ≤ 127 := by
  have : l.getD j 0 = l[j] := by simp [hj]
  rw [this]; exact h.2 _ (List.getElem_mem hj)
theorem RowP.of {l : List Int} (h0 : l.length ≤ 6) (h : ∀ j, j < l.length → 0 ≤ l.getD j 0 ∧ l.getD j 0 ≤ 127) : RowP l := ⟨h0, fun x hx => by
  obtain ⟨j, hj, rfl⟩ := List.getElem_of_mem hx
  have := h j hj
  simpa [hj] using this⟩
def cnt7 (n : Nat) : Nat := n % 2 + n / 2 % 2 + n / 4 % 2 + n / 8 % 2 + n / 16 % 2 + n / 32 % 2 + n / 64 % 2
def turn7 (n : Nat) : Nat := n / 8 % 2 + 2 * (n / 16 % 2) + 4 * (n / 32 % 2) + 8 * (n % 2) + 16 * (n / 2 % 2) + 32 * (n / 4 % 2) + 64 * (n / 64 % 2)
def mir7 (n : Nat) : Nat := n % 2 + 2 * (n / 32 % 2) + 4 * (n / 16 % 2) + 8 * (n / 8 % 2) + 16 * (n / 4 % 2) + 32 * (n / 2 % 2) + 64 * (n / 64 % 2)
set_option maxRecDepth 4000 in
theorem spec_l1In (x a b : Int) : PCalls Tryz.prog 51 [.int .i64 x, .int .i64 a, .int .i64 b] (· = [.val (.bool (decide (a ≤ x ∧ x ≤ b)))]) := by
  refine pcalls_of_code (n := 15) az Tryz.func51 (by kernel_rfl) rfl rfl (Nat.le_of_ble_eq_true rfl) (by intro t u h; simp [Tryz.f51] at h) ?_
  refine code_seq (fun K1 hK1 => ?_)
  refine code_region ?_
  refine list_cons rfl (op_q (q_assign rfl (by decide)) ?_)
  refine list_nil ?_
  refine hK1 _ ?_; clear hK1 K1
  refine code_seq (fun K2 hK2 => ?_)
  refine code_region ?_
  refine list_cons rfl (op_q (q_move rfl (by decide)) ?_)
  refine list_cons rfl (op_q (q_move rfl (by decide)) ?_)
  refine list_cons rfl (op_q (q_ge rfl rfl (by decide)) ?_)
  refine list_cons rfl (op_q (q_move rfl (by decide)) ?_)
  refine list_guard_d rfl rfl rfl rfl (by decide) rfl (by decide) (fun h1 => ?_) (fun h1 => ?_)
  · simp only [Bool.false_eq_true, if_true, if_false, Decidable.not_not] at h1
    refine id (op_q (q_move rfl (by decide)) ?_)
    refine list_guard_y rfl rfl rfl rfl (by decide) rfl ?_
    refine id (op_q (q_move rfl (by decide)) ?_)
    refine list_guard_y rfl rfl rfl rfl (by decide) rfl ?_
    refine id (op_q (q_le rfl rfl (by decide)) ?_)
    refine list_cons rfl (op_q (q_pick rfl rfl (by decide)) ?_)
    refine list_cons rfl (op_q (q_assign rfl (by decide)) ?_)
    refine list_nil ?_
    refine hK2 _ ?_; clear hK2 K2
    refine codeT.imp (σ' := [(0, _), (1, _), (2, _), (6, _)]) ?_ (imp_covers ⟨rfl, rfl, rfl, rfl, trivial⟩)
    refine code_ret ?_
    refine ends_ret (cs := []) rfl rfl rfl rfl trivial ?_
    simp [h1]
  simp only [Bool.false_eq_true, if_true, if_false, Decidable.not_not] at h1
  refine list_guard_n rfl rfl rfl rfl (by decide) rfl ?_
  refine list_guard_n rfl rfl rfl rfl (by decide) rfl ?_
  refine list_cons rfl (op_q (q_pick rfl rfl (by decide)) ?_)
  refine list_cons rfl (op_q (q_assign rfl (by decide)) ?_)
  refine list_nil ?_
  refine hK2 _ ?_; clear hK2 K2
  refine code_ret ?_
  refine ends_ret (cs := []) rfl rfl rfl rfl trivial ?_
  simp [h1]
set_option maxRecDepth 4000 in
theorem spec_l2Cell (c : Int) : PCalls Tryz.prog 73 [.int .i64 c] (· = [.val (.bool (decide (0 ≤ c ∧ c ≤ 127)))]) := by
  refine pcalls_of_code (n := 5) az Tryz.func73 (by kernel_rfl) rfl rfl (Nat.le_of_ble_eq_true rfl) (by intro t u h; simp [Tryz.f73] at h) ?_
  refine code_seq (fun K1 hK1 => ?_)
  refine code_region ?_
  refine list_cons rfl (op_q (q_assign rfl (by decide)) ?_)
  refine list_nil ?_
  refine hK1 _ ?_; clear hK1 K1
  refine code_seq (fun K2 hK2 => ?_)
  refine code_region ?_
  refine list_cons rfl (op_q (q_move rfl (by decide)) ?_)
  refine list_cons rfl (op_call _ (spec_l1In _ _ _) rfl rfl (by decide) (by decide) (by decide) rfl ?_)
  rintro _ rfl
  refine list_cons rfl (op_q (q_assign rfl (by decide)) ?_)
  refine list_nil ?_
  refine hK2 _ ?_; clear hK2 K2
  refine codeT.imp (σ' := [(0, _), (2, _)]) ?_ (imp_covers ⟨rfl, rfl, trivial⟩)
  refine code_ret ?_
  refine ends_ret (cs := []) rfl rfl rfl rfl trivial ?_
  rfl
set_option maxRecDepth 4000 in
theorem spec_l2Row (l : List Int) (hl : l.length ≤ 4611686018427387904) : PCalls Tryz.prog 44 [.sl l.length (l.map (.int .i64))] (· = [.val (.bool (decide (RowP l)))]) := by
  refine pcalls_of_code (n := 23) az Tryz.func44 (by kernel_rfl) rfl rfl (Nat.le_of_ble_eq_true rfl) (by intro t u h; simp [Tryz.f44] at h) ?_
  refine code_seq (fun K1 hK1 => ?_)
  refine code_region ?_
  refine list_cons rfl (op_q (q_assign rfl (by decide)) ?_)
  refine list_nil ?_
  refine hK1 _ ?_; clear hK1 K1
  refine code_seq (fun K2 hK2 => ?_)
  refine code_seq (fun K3 hK3 => ?_)
  refine code_region ?_
  refine list_cons rfl (op_q (q_assign rfl (by decide)) ?_)
  refine list_nil ?_
  refine hK3 _ ?_; clear hK3 K3
  refine code_block ?_
  refine code_loop (X := Bool × Int) (fun x => [(0, .par 0 (.sl l.length (l.map (.int .i64)))), (2, .val (.bool x.1)), (3, .val (.int .i64 x.2))]) (fun x => 0 ≤ x.2 ∧ x.2 ≤ 7 ∧ x.2 ≤ l.length ∧ ∀ j, j < x.2.toNat → 0 ≤ l.getD j 0 ∧ l.getD j 0 ≤ 127) (fun x => l.length - x.2.toNat) (_, _) (imp_covers ⟨rfl, rfl, rfl, trivial⟩) ?_ ?_
  · (try dsimp only)
    refine ⟨by omega, by omega, by omega, fun j hj => by simp at hj⟩
  · intro x hI
    obtain ⟨t2, i⟩ := x
    replace hI : 0 ≤ i ∧ i ≤ 7 ∧ i ≤ l.length ∧ ∀ j, j < i.toNat → 0 ≤ l.getD j 0 ∧ l.getD j 0 ≤ 127 := hI
    show codeT _ _ _ [(0, .par 0 (.sl l.length (l.map (.int .i64)))), (2, .val (.bool t2)), (3, .val (.int .i64 i))] _
    obtain ⟨i1, i2, i3, i4⟩ := hI
    refine code_seq (fun K4 hK4 => ?_)
    refine code_seq (fun K5 hK5 => ?_)
    refine code_region ?_
    refine list_cons rfl (op_q (q_move rfl (by decide)) ?_)
    refine list_cons rfl (op_q (q_move rfl (by decide)) ?_)
    refine list_cons rfl (op_q (q_len_sl Tryz.underlying25 rfl rfl (by decide)) ?_)
    refine list_cons rfl (op_q (q_lt rfl rfl (by decide)) ?_)
    refine list_cons rfl (op_q (q_move rfl (by decide)) ?_)
    refine list_guard_d rfl rfl rfl rfl (by decide) rfl (by decide) (fun h1 => ?_) (fun h1 => ?_)
    · simp only [Bool.false_eq_true, if_true, if_false, Decidable.not_not] at h1
      refine id (op_q (q_move rfl (by decide)) ?_)
      refine list_guard_y rfl rfl rfl rfl (by decide) rfl ?_
      refine id (op_q (q_le rfl rfl (by decide)) ?_)
      refine list_cons rfl (op_q (q_pick rfl rfl (by decide)) ?_)
      refine list_nil ?_
      refine hK5 _ ?_; clear hK5 K5
      refine codeT.imp (σ' := [(0, _), (2, _), (3, _), (11, _)]) ?_ (imp_covers ⟨rfl, rfl, rfl, rfl, trivial⟩)
      refine code_cond_d rfl (fun h2 => ?_) (fun h2 => ?_)
      · skip
        (try simp only [Decidable.not_not] at h2)
        refine code_skip ?_
        refine hK4 _ ?_; clear hK4 K4
        refine code_seq (fun K6 hK6 => ?_)
        refine code_block ?_
        refine code_seq (fun K7 hK7 => ?_)
        refine code_region ?_
        refine list_cons rfl (op_q (q_move rfl (by decide)) ?_)
        refine list_cons rfl (op_q (q_move rfl (by decide)) ?_)
        refine list_cons rfl (op_q (q_indexAddr_rd sl_25 rfl (.inl ⟨_, rfl, rfl⟩) rfl (by omega) (by omega) (by decide)) ?_)
        refine list_cons rfl (op_q (q_load_rd one_3 rfl (.inl ⟨_, (by first | rfl | exact congrArg (SV.rpar _) (drop_map1 _ 0 _ (by first | omega | (simp; omega)))), rfl⟩) (by decide)) ?_)
        refine list_cons rfl (op_call _ (spec_l2Cell _) rfl rfl (by decide) (by decide) (by decide) rfl ?_)
        rintro _ rfl
        refine list_cons rfl (op_q (by first | exact q_notd rfl (by decide) | exact q_not rfl (by decide)) ?_)
        refine list_nil ?_
        refine hK7 _ ?_; clear hK7 K7
        refine codeT.imp (σ' := [(0, _), (2, _), (3, _), (19, _)]) ?_ (imp_covers ⟨rfl, rfl, rfl, rfl, trivial⟩)
        refine code_cond_d rfl (fun h3 => ?_) (fun h3 => ?_)
        · skip
          (try simp only [Decidable.not_not] at h3)
          refine code_seq (fun K8 hK8 => ?_)
          refine code_region ?_
          refine list_cons rfl (op_q (q_assign rfl (by decide)) ?_)
          refine list_nil ?_
          refine hK8 _ ?_; clear hK8 K8
          refine code_ret ?_
          refine blk_r ?_
          refine then_r ?_; clear hK6 K6
          refine then_r ?_
          refine blk_r ?_
          refine then_r ?_; clear hK2 K2
          refine ends_ret (cs := []) rfl rfl rfl rfl trivial ?_
          rw [decide_eq_false (fun e => h3 (e.at (by omega)))]
        (try simp only [Decidable.not_not] at h3)
        refine code_skip ?_
        refine blk_n ?_
        refine hK6 _ ?_; clear hK6 K6
        refine code_region ?_
        refine list_cons rfl (op_q (q_move rfl (by decide)) ?_)
        refine list_cons rfl (op_q (by first | exact q_addI rfl rfl (by decide) (by omega) (by omega) | exact q_ib rfl rfl rfl (by decide)) ?_)
        refine list_cons rfl (op_q (q_assign rfl (by decide)) ?_)
        refine list_nil ?_
        refine then_n ⟨(_, _), imp_covers ⟨rfl, rfl, rfl, trivial⟩, ?_, ?_⟩
        · (try dsimp only)
          refine ⟨by omega, by omega, by omega, fun j hj => ?_⟩
          by_cases e : j = i.toNat
          · subst e; exact h3
          · exact i4 j (by omega)
        · (try dsimp only); omega
      (try simp only [Decidable.not_not] at h2)
      refine code_exit ?_
      refine then_x ?_; clear hK4 K4
      refine then_x ?_
      refine blk_hit ?_
      refine hK2 _ ?_; clear hK2 K2
      refine code_seq (fun K9 hK9 => ?_)
      refine code_region ?_
      refine list_cons rfl (op_q (q_move rfl (by decide)) ?_)
      refine list_cons rfl (op_q (q_len_sl Tryz.underlying25 rfl rfl (by decide)) ?_)
      refine list_cons rfl (op_q (q_le rfl rfl (by decide)) ?_)
      refine list_cons rfl (op_q (q_assign rfl (by decide)) ?_)
      refine list_nil ?_
      refine hK9 _ ?_; clear hK9 K9
      refine code_ret ?_
      refine ends_ret (cs := []) rfl rfl rfl rfl trivial ?_
      congr 3
      refine decide_eq_decide.mpr ⟨fun e => RowP.of (by omega) fun j hj => i4 j (by omega), fun e => by have := e.1; omega⟩
    simp only [Bool.false_eq_true, if_true, if_false, Decidable.not_not] at h1
    refine list_guard_n rfl rfl rfl rfl (by decide) rfl ?_
    refine list_cons rfl (op_q (q_pick rfl rfl (by decide)) ?_)
    refine list_nil ?_
    refine hK5 _ ?_; clear hK5 K5
    refine code_cond_f rfl ?_
    refine code_exit ?_
    refine then_x ?_; clear hK4 K4
    refine then_x ?_
    refine blk_hit ?_
    refine hK2 _ ?_; clear hK2 K2
    refine code_seq (fun K10 hK10 => ?_)
    refine code_region ?_
    refine list_cons rfl (op_q (q_move rfl (by decide)) ?_)
    refine list_cons rfl (op_q (q_len_sl Tryz.underlying25 rfl rfl (by decide)) ?_)
    refine list_cons rfl (op_q (q_le rfl rfl (by decide)) ?_)
    refine list_cons rfl (op_q (q_assign rfl (by decide)) ?_)
    refine list_nil ?_
    refine hK10 _ ?_; clear hK10 K10
    refine codeT.imp (σ' := [(0, _), (2, _), (3, _)]) ?_ (imp_covers ⟨rfl, rfl, rfl, trivial⟩)
    refine code_ret ?_
    refine ends_ret (cs := []) rfl rfl rfl rfl trivial ?_
    congr 3
    refine decide_eq_decide.mpr ⟨fun e => RowP.of (by omega) fun j hj => i4 j (by omega), fun e => by have := e.1; omega⟩
set_option maxRecDepth 100000 in
theorem spec_l2Digit (c : Int) (h0 : 0 ≤ c) (h1 : c ≤ 9) : PCalls Tryz.prog 79 [.int .i64 c] (· = [.val (.int .i64 (digT.getD c.toNat 0))]) := by
  have h := below_int (p := fun i => oneInt (crun Tf.tf noExt 200 6 79 [.int .i64 (Int.ofNat i)]) (digT.getD i 0)) (k := 10) (by kernel_rfl) h0 (by omega)
  have e : Int.ofNat c.toNat = c := Int.toNat_of_nonneg h0
  rw [e] at h
  exact pcalls_run Tf.tf (oneInt_ok h)
set_option maxRecDepth 4000 in
theorem spec_l2DigitOf (c : Int) : PCalls Tryz.prog 81 [.int .i64 c] (· = [.val (.int .i64 (digOf c))]) := by
  refine pcalls_of_code (n := 13) az Tryz.func81 (by kernel_rfl) rfl rfl (Nat.le_of_ble_eq_true rfl) (by intro t u h; simp [Tryz.f81] at h) ?_
  refine code_seq (fun K1 hK1 => ?_)
  refine code_region ?_
  refine list_cons rfl (op_q (q_assign rfl (by decide)) ?_)
  refine list_nil ?_
  refine hK1 _ ?_; clear hK1 K1
  refine code_seq (fun K2 hK2 => ?_)
  refine code_seq (fun K3 hK3 => ?_)
  refine code_region ?_
  refine list_cons rfl (op_q (q_assign rfl (by decide)) ?_)
  refine list_nil ?_
  refine hK3 _ ?_; clear hK3 K3
  refine code_block ?_
  refine code_loop (X := Int × Int) (fun x => [(0, .val (.int .i64 c)), (2, .val (.int .i64 x.1)), (3, .val (.int .i64 x.2))]) (fun x => 0 ≤ x.2 ∧ x.2 ≤ 10 ∧ ∀ j : Nat, j < x.2.toNat → digT.getD j 0 ≠ c) (fun x => 10 - x.2.toNat) (_, _) (imp_covers ⟨rfl, rfl, rfl, trivial⟩) ?_ ?_
  · (try dsimp only)
    refine ⟨by omega, by omega, fun j hj => by simp at hj⟩
  · intro x hI
    obtain ⟨t2, d⟩ := x
    replace hI : 0 ≤ d ∧ d ≤ 10 ∧ ∀ j : Nat, j < d.toNat → digT.getD j 0 ≠ c := hI
    show codeT _ _ _ [(0, .val (.int .i64 c)), (2, .val (.int .i64 t2)), (3, .val (.int .i64 d))] _
    obtain ⟨i1, i2, i3⟩ := hI
    refine code_seq (fun K4 hK4 => ?_)
    refine code_seq (fun K5 hK5 => ?_)
    refine code_region ?_
    refine list_cons rfl (op_q (q_move rfl (by decide)) ?_)
    refine list_cons rfl (op_q (q_lt rfl rfl (by decide)) ?_)
    refine list_nil ?_
    refine hK5 _ ?_; clear hK5 K5
    refine code_cond_d rfl (fun h1 => ?_) (fun h1 => ?_)
    · skip
      (try simp only [Decidable.not_not] at h1)
      refine code_skip ?_
      refine hK4 _ ?_; clear hK4 K4
      refine code_seq (fun K6 hK6 => ?_)
      refine code_block ?_
      refine code_seq (fun K7 hK7 => ?_)
      refine code_region ?_
      refine list_cons rfl (op_q (q_move rfl (by decide)) ?_)
      refine list_cons rfl (op_call _ (spec_l2Digit _ (by omega) (by omega)) rfl rfl (by decide) (by decide) (by decide) rfl ?_)
      rintro _ rfl
      refine list_cons rfl (op_q (q_move rfl (by decide)) ?_)
      refine list_cons rfl (op_q (q_eq rfl rfl (by decide)) ?_)
      refine list_nil ?_
      refine hK7 _ ?_; clear hK7 K7
      refine codeT.imp (σ' := [(0, _), (2, _), (3, _), (11, _)]) ?_ (imp_covers ⟨rfl, rfl, rfl, rfl, trivial⟩)
      refine code_cond_d rfl (fun h2 => ?_) (fun h2 => ?_)
      · skip
        (try simp only [Decidable.not_not] at h2)
        refine code_seq (fun K8 hK8 => ?_)
        refine code_region ?_
        refine list_cons rfl (op_q (q_move rfl (by decide)) ?_)
        refine list_cons rfl (op_q (q_assign rfl (by decide)) ?_)
        refine list_nil ?_
        refine hK8 _ ?_; clear hK8 K8
        refine code_ret ?_
        refine blk_r ?_
        refine then_r ?_; clear hK6 K6
        refine then_r ?_
        refine blk_r ?_
        refine then_r ?_; clear hK2 K2
        refine ends_ret (cs := []) rfl rfl rfl rfl trivial ?_
        rw [digOf_at (by omega) (by omega) h2]
      (try simp only [Decidable.not_not] at h2)
      refine code_skip ?_
      refine blk_n ?_
      refine hK6 _ ?_; clear hK6 K6
      refine code_region ?_
      refine list_cons rfl (op_q (q_move rfl (by decide)) ?_)
      refine list_cons rfl (op_q (by first | exact q_addI rfl rfl (by decide) (by omega) (by omega) | exact q_ib rfl rfl rfl (by decide)) ?_)
      refine list_cons rfl (op_q (q_assign rfl (by decide)) ?_)
      refine list_nil ?_
      refine then_n ⟨(_, _), imp_covers ⟨rfl, rfl, rfl, trivial⟩, ?_, ?_⟩
      · (try dsimp only)
        refine ⟨by omega, by omega, fun j hj => ?_⟩
        by_cases e : j = d.toNat
        · subst e; exact h2
        · exact i3 j (by omega)
      · (try dsimp only); omega
    (try simp only [Decidable.not_not] at h1)
    refine code_exit ?_
    refine then_x ?_; clear hK4 K4
    refine then_x ?_
    refine blk_hit ?_
    refine hK2 _ ?_; clear hK2 K2
    refine code_seq (fun K9 hK9 => ?_)
    refine code_region ?_
    refine list_cons rfl (op_q (q_assign rfl (by decide)) ?_)
    refine list_nil ?_
    refine hK9 _ ?_; clear hK9 K9
    refine code_ret ?_
    refine ends_ret (cs := []) rfl rfl rfl rfl trivial ?_
    rw [digOf_none fun j hj => i3 j (by omega)]
set_option maxRecDepth 100000 in
theorem spec_l2Count (c : Int) (h0 : 0 ≤ c) (h1 : c ≤ 127) : PCalls Tryz.prog 66 [.int .i64 c] (· = [.val (.int .i64 (((cnt7 c.toNat : Nat) : Int)))]) := by
  have h := below_int (p := fun i => oneInt (crun Tf.tf noExt 200 6 66 [.int .i64 (Int.ofNat i)]) (((cnt7 i : Nat) : Int))) (k := 128) (by kernel_rfl) h0 (by omega)
  have e : Int.ofNat c.toNat = c := Int.toNat_of_nonneg h0
  rw [e] at h
  exact pcalls_run Tf.tf (oneInt_ok h)
set_option maxRecDepth 100000 in
theorem spec_l2Turn (c : Int) (h0 : 0 ≤ c) (h1 : c ≤ 127) : PCalls Tryz.prog 78 [.int .i64 c] (· = [.val (.int .i64 (((turn7 c.toNat : Nat) : Int)))]) := by
  have h := below_int (p := fun i => oneInt (crun Tf.tf noExt 200 6 78 [.int .i64 (Int.ofNat i)]) (((turn7 i : Nat) : Int))) (k := 128) (by kernel_rfl) h0 (by omega)
  have e : Int.ofNat c.toNat = c := Int.toNat_of_nonneg h0
  rw [e] at h
  exact pcalls_run Tf.tf (oneInt_ok h)
set_option maxRecDepth 100000 in
theorem spec_l2Mirror (c : Int) (h0 : 0 ≤ c) (h1 : c ≤ 127) : PCalls Tryz.prog 82 [.int .i64 c] (· = [.val (.int .i64 (((mir7 c.toNat : Nat) : Int)))]) := by
  have h := below_int (p := fun i => oneInt (crun Tf.tf noExt 200 6 82 [.int .i64 (Int.ofNat i)]) (((mir7 i : Nat) : Int))) (k := 128) (by kernel_rfl) h0 (by omega)
  have e : Int.ofNat c.toNat = c := Int.toNat_of_nonneg h0
  rw [e] at h
  exact pcalls_run Tf.tf (oneInt_ok h)
theorem foldl_take {α β : Type} (f : β → α → β) (d : α) (l : List α) (b : β) {k : Nat} (h : k < l.length) : (l.take (k + 1)).foldl f b = f ((l.take k).foldl f b) (l.getD k d) := by
  rw [take_snocI d l k h, List.foldl_append]; rfl
theorem map_take {α β : Type} (f : α → β) (d : α) (l : List α) {k : Nat} (h : k < l.length) : (l.take (k + 1)).map f = (l.take k).map f ++ [f (l.getD k d)] := by
  rw [take_snocI d l k h, List.map_append]; rfl
theorem rev_drop {α : Type} (d : α) (l : List α) {k : Nat} (h : k < l.length) : (l.drop k).reverse = (l.drop (k + 1)).reverse ++ [l.getD k d] := by
  rw [List.drop_eq_getElem_cons h, List.reverse_cons]; simp [h]
theorem xor7 {a b : Int} (ha : 0 ≤ a ∧ a ≤ 127) (hb : 0 ≤ b ∧ b ≤ 127) : ((a.toNat ^^^ b.toNat : Nat) : Int) ≤ 127 := by
  have := @Nat.xor_lt_two_pow a.toNat b.toNat 7 (by omega) (by omega)
  omega
theorem cnt7_le (n : Nat) : cnt7 n ≤ 7 := by unfold cnt7; omega
theorem turn7_le (n : Nat) : turn7 n ≤ 127 := by unfold turn7; omega
theorem mir7_le (n : Nat) : mir7 n ≤ 127 := by unfold mir7; omega
def turnC (x : Int) : Int := ((turn7 x.toNat : Nat) : Int)
def mirC (x : Int) : Int := ((mir7 x.toNat : Nat) : Int)
theorem turnC_cell (x : Int) : 0 ≤ turnC x ∧ turnC x ≤ 127 := by have := turn7_le x.toNat; unfold turnC; omega
theorem mirC_cell (x : Int) : 0 ≤ mirC x ∧ mirC x ≤ 127 := by have := mir7_le x.toNat; unfold mirC; omega
def turnL (l : List Int) : List Int := l.reverse.map turnC
def mirL (l : List Int) : List Int := l.reverse.map mirC
theorem turnL_len (l : List Int) : (turnL l).length = l.length := by simp [turnL]
theorem mirL_len (l : List Int) : (mirL l).length = l.length := by simp [mirL]
def rowN (n : Nat) : List Int := if h : n < 10 then [digT.getD n 0] else rowN (n / 10) ++ [digT.getD (n % 10) 0]
termination_by n
decreasing_by omega
theorem rowN_lt {n : Nat} (h : n < 10) : rowN n = [digT.getD n 0] := by rw [rowN, dif_pos h]
theorem rowN_ge {n : Nat} (h : ¬ n < 10) : rowN n = rowN (n / 10) ++ [digT.getD (n % 10) 0] := by rw [rowN, dif_neg h]
def rowP (n : Nat) : List Int := if n < 10 then [] else rowN (n / 10)
theorem rowP_cat (n : Nat) : rowN n = rowP n ++ [digT.getD (n % 10) 0] := by
  unfold rowP
  by_cases h : n < 10
  · rw [if_pos h, rowN_lt h, Nat.mod_eq_of_lt h]; rfl
  · rw [if_neg h, rowN_ge h]
theorem rowN_len : ∀ (k n : Nat), 1 ≤ k → n < 10 ^ k → (rowN n).length ≤ k ∧ 1 ≤ (rowN n).length
  | 0, n, h, _ => by omega
  | k + 1, n, _, h => by
    by_cases hn : n < 10
    · rw [rowN_lt hn]; simp
    · rw [rowN_ge hn]
      have h1 : 1 ≤ k := by
        rcases Nat.eq_zero_or_pos k with e | e
        · subst e; simp at h; omega
        · exact e
      have h2 : n / 10 < 10 ^ k := by rw [Nat.pow_succ] at h; omega
      have := rowN_len k (n / 10) h1 h2
      simp; omega
theorem digT_cell (n : Nat) : 0 ≤ digT.getD n 0 ∧ digT.getD n 0 ≤ 127 := by
  by_cases h : n < 10
  · have : n = 0 ∨ n = 1 ∨ n = 2 ∨ n = 3 ∨ n = 4 ∨ n = 5 ∨ n = 6 ∨ n = 7 ∨ n = 8 ∨ n = 9 := by omega
    rcases this with rfl | rfl | rfl | rfl | rfl | rfl | rfl | rfl | rfl | rfl <;> decide
  · have : digT.getD n 0 = 0 := by unfold List.getD; rw [List.getElem?_eq_none (by simp [digT]; omega)]; rfl
    rw [this]; omega
theorem rowN_cells : ∀ (k n : Nat), n < k → ∀ x ∈ rowN n, 0 ≤ x ∧ x ≤ 127
  | 0, n, h => by omega
  | k + 1, n, h => by
    intro x hx
    by_cases hn : n < 10
    · rw [rowN_lt hn] at hx; simp only [List.mem_singleton] at hx; subst hx; exact digT_cell _
    · rw [rowN_ge hn] at hx
      rcases List.mem_append.1 hx with hx | hx
      · exact rowN_cells k (n / 10) (by omega) x hx
      · simp only [List.mem_singleton] at hx; subst hx; exact digT_cell _
theorem rowN_row {n : Nat} (h : n ≤ 999999) : RowP (rowN n) := ⟨(rowN_len 6 n (by omega) (by omega)).1, rowN_cells (n + 1) n (by omega)⟩
def DigsP (l : List Int) : Prop := ∀ x ∈ l, 0 ≤ digOf x
instance (l : List Int) : Decidable (DigsP l) := by unfold DigsP; infer_instance
def numF (l : List Int) : Int := l.foldl (fun n x => 10 * n + digOf x) 0
theorem DigsP.at {l : List Int} (h : DigsP l) {j : Nat} (hj : j < l.length) : 0 ≤ digOf (l.getD j 0) := by
  have : l.getD j 0 = l[j] := by simp [hj]
  rw [this]; exact h _ (List.getElem_mem hj)
theorem DigsP.of {l : List Int} (h : ∀ j, j < l.length → 0 ≤ digOf (l.getD j 0)) : DigsP l := fun x hx => by
  obtain ⟨j, hj, rfl⟩ := List.getElem_of_mem hx
  have := h j hj
  simpa [hj] using this
theorem pow10_le {i : Nat} (h : i ≤ 6) : 10 ^ i ≤ 1000000 := Nat.pow_le_pow_right (n := 10) (by omega) h
def litF (l : List Int) : Int := l.foldl (fun n x => n + ((cnt7 x.toNat : Nat) : Int)) 0
set_option maxRecDepth 4000 in
theorem spec_l2Far (a b : Int) (ha : 0 ≤ a ∧ a ≤ 127) (hb : 0 ≤ b ∧ b ≤ 127) : PCalls Tryz.prog 86 [.int .i64 a, .int .i64 b] (· = [.val (.int .i64 (((cnt7 (a.toNat ^^^ b.toNat) : Nat) : Int)))]) := by
  refine pcalls_of_code (n := 9) az Tryz.func86 (by kernel_rfl) rfl rfl (Nat.le_of_ble_eq_true rfl) (by intro t u h; simp [Tryz.f86] at h) ?_
  refine code_seq (fun K1 hK1 => ?_)
  refine code_region ?_
  refine list_cons rfl (op_q (q_assign rfl (by decide)) ?_)
  refine list_nil ?_
  refine hK1 _ ?_; clear hK1 K1
  refine code_seq (fun K2 hK2 => ?_)
  refine code_region ?_
  refine list_cons rfl (op_q (q_move rfl (by decide)) ?_)
  refine list_cons rfl (op_q (q_move rfl (by decide)) ?_)
  refine list_cons rfl (op_q (by first | exact q_xorI rfl rfl (by decide) (by omega) (by omega) (by omega) (by omega) | exact q_ib rfl rfl rfl (by decide)) ?_)
  refine list_cons rfl (op_call _ (spec_l2Count _ (by omega) (xor7 ha hb)) rfl rfl (by decide) (by decide) (by decide) rfl ?_)
  rintro _ rfl
  refine list_cons rfl (op_q (q_assign rfl (by decide)) ?_)
  refine list_nil ?_
  refine hK2 _ ?_; clear hK2 K2
  refine codeT.imp (σ' := [(0, _), (1, _), (4, _)]) ?_ (imp_covers ⟨rfl, rfl, rfl, trivial⟩)
  refine code_ret ?_
  refine ends_ret (cs := []) rfl rfl rfl rfl trivial ?_
  rfl
set_option maxRecDepth 4000 in
theorem spec_l2RowOf (n : Int) (h0 : 0 ≤ n) (h1 : n ≤ 999999) : PCalls Tryz.prog 53 [.int .i64 n] (· = [.own 0 3 1 (rowN n.toNat).length ((rowN n.toNat).map (.int .i64))]) := by
  refine pcalls_of_code (n := 19) az Tryz.func53 (by kernel_rfl) rfl rfl (Nat.le_of_ble_eq_true rfl) (by intro t u h; simp [Tryz.f53] at h) ?_
  have hlen := (rowN_len 6 n.toNat (by omega) (by omega)).1
  refine code_seq (fun K1 hK1 => ?_)
  refine code_region ?_
  refine list_cons rfl (op_q (q_assign rfl (by decide)) ?_)
  refine list_nil ?_
  refine hK1 _ ?_; clear hK1 K1
  refine code_seq (fun K2 hK2 => ?_)
  refine code_region ?_
  refine list_cons rfl (op_q (q_move rfl (by decide)) ?_)
  refine list_cons rfl (op_q (by first | exact q_remI rfl rfl (by decide) (by omega) (by omega) | exact q_rem rfl rfl (by omega) (by decide)) ?_)
  refine list_cons rfl (op_call _ (spec_l2Digit _ (by omega) (by omega)) rfl rfl (by decide) (by decide) (by decide) rfl ?_)
  rintro _ rfl
  refine list_cons rfl (op_buildSlice sl_25 (parts := [(0, .tmp 6)]) rfl rfl rfl (by decide) (by decide) (by decide) rfl ?_)
  refine list_cons rfl (op_q (q_assign rfl (by decide)) ?_)
  refine list_nil ?_
  refine hK2 _ ?_; clear hK2 K2
  refine codeT.imp (σ' := [(0, _), (2, _), (3, _)]) ?_ (imp_covers ⟨rfl, rfl, rfl, trivial⟩)
  refine code_seq (fun K3 hK3 => ?_)
  refine code_block ?_
  refine code_loop (X := Int × PV × Nat × List PV) (fun x => [(0, .val (.int .i64 x.1)), (2, .val x.2.1), (3, .own 7 3 1 x.2.2.1 x.2.2.2)]) (fun x => 0 ≤ x.1 ∧ x.1 ≤ 999999 ∧ ∃ l : List Int, x.2.2.1 = l.length ∧ x.2.2.2 = l.map (.int .i64) ∧ rowP x.1.toNat ++ l = rowN n.toNat) (fun x => x.1.toNat) (_, _, _, _) (imp_covers ⟨rfl, rfl, rfl, trivial⟩) ?_ ?_
  · (try dsimp only)
    refine ⟨by omega, by omega, [digT.getD (n % 10).toNat 0], rfl, rfl, ?_⟩
    rw [rowP_cat n.toNat, show (n % 10).toNat = n.toNat % 10 by omega]
  · intro x hI
    obtain ⟨n_, t2_p, out_n, out_c⟩ := x
    replace hI : 0 ≤ n_ ∧ n_ ≤ 999999 ∧ ∃ l : List Int, out_n = l.length ∧ out_c = l.map (.int .i64) ∧ rowP n_.toNat ++ l = rowN n.toNat := hI
    show codeT _ _ _ [(0, .val (.int .i64 n_)), (2, .val t2_p), (3, .own 7 3 1 out_n out_c)] _
    obtain ⟨i1, i2, l, rfl, rfl, i3⟩ := hI
    have hlen2 : l.length ≤ 6 := by have := congrArg List.length i3; simp at this; omega
    refine code_seq (fun K4 hK4 => ?_)
    refine code_seq (fun K5 hK5 => ?_)
    refine code_region ?_
    refine list_cons rfl (op_q (q_move rfl (by decide)) ?_)
    refine list_cons rfl (op_q (q_ge rfl rfl (by decide)) ?_)
    refine list_nil ?_
    refine hK5 _ ?_; clear hK5 K5
    refine code_cond_d rfl (fun h1 => ?_) (fun h1 => ?_)
    · skip
      (try simp only [Decidable.not_not] at h1)
      refine code_skip ?_
      refine hK4 _ ?_; clear hK4 K4
      refine code_block ?_
      refine code_seq (fun K6 hK6 => ?_)
      refine code_region ?_
      refine list_cons rfl (op_q (q_move rfl (by decide)) ?_)
      refine list_cons rfl (op_q (by first | exact q_quoI rfl rfl (by decide) (by omega) (by omega) (by omega) | exact q_quoT rfl rfl (by omega) (by decide) (by omega) (by omega) | exact q_quo rfl rfl (by omega) (by decide)) ?_)
      refine list_cons rfl (op_q (q_assign rfl (by decide)) ?_)
      refine list_nil ?_
      refine hK6 _ ?_; clear hK6 K6
      refine code_region ?_
      refine list_cons rfl (op_q (q_move rfl (by decide)) ?_)
      refine list_cons rfl (op_q (by first | exact q_remI rfl rfl (by decide) (by omega) (by omega) | exact q_rem rfl rfl (by omega) (by decide)) ?_)
      refine list_cons rfl (op_call _ (spec_l2Digit _ (by omega) (by omega)) rfl rfl (by decide) (by decide) (by decide) rfl ?_)
      rintro _ rfl
      refine list_cons rfl (op_buildSlice sl_25 (parts := [(0, .tmp 14)]) rfl rfl rfl (by decide) (by decide) (by decide) rfl ?_)
      refine list_cons rfl (op_q (q_move rfl (by decide)) ?_)
      refine list_cons rfl (op_append_gen sl_25 (l := 15) (.inl rfl) rfl rfl (l2 := none) (.inl ⟨rfl, (by first | rfl | exact flat_map _ (fun _ => rfl) _)⟩) (by simp) (by omega) (by decide) (by decide) (by decide) ?_)
      refine list_cons rfl (op_q (q_assign rfl (by decide)) ?_)
      refine list_nil ?_
      refine blk_n ?_
      refine then_n ⟨(_, _, _, _), (imp_covers (σ' := [(0, _), (2, _), (3, _)]) ⟨rfl, rfl, rfl, trivial⟩).trans ((imp_ren 15 7 (by decide) (by decide) rfl).trans (imp_covers ⟨rfl, rfl, rfl, trivial⟩)), ?_, ?_⟩
      · (try dsimp only)
        refine ⟨by omega, by omega, [digT.getD (n_ / 10 % 10).toNat 0] ++ l, by simp; omega, by simp; rfl, ?_⟩
        rw [← i3, show rowP n_.toNat = rowN (n_.toNat / 10) by unfold rowP; rw [if_neg (by omega)], rowP_cat (n_.toNat / 10), show (n_ / 10).toNat = n_.toNat / 10 by omega, show (n_ / 10 % 10).toNat = n_.toNat / 10 % 10 by omega]
        simp
      · (try dsimp only); omega
    (try simp only [Decidable.not_not] at h1)
    refine code_exit ?_
    refine then_x ?_; clear hK4 K4
    refine then_x ?_
    refine blk_hit ?_
    refine hK3 _ ?_; clear hK3 K3
    refine codeT.imp (σ' := [(0, _), (2, _), (3, _)]) ?_ (imp_covers ⟨rfl, rfl, rfl, trivial⟩)
    refine code_seq (fun K7 hK7 => ?_)
    refine code_region ?_
    refine list_cons rfl (op_q (q_move rfl (by decide)) ?_)
    refine list_cons rfl (op_q (q_assign rfl (by decide)) ?_)
    refine list_nil ?_
    refine hK7 _ ?_; clear hK7 K7
    refine code_ret ?_
    refine ends_ret (cs := []) rfl rfl rfl rfl trivial ?_
    have e : rowP n_.toNat = [] := by unfold rowP; rw [if_pos (by omega)]
    rw [e] at i3
    rw [← i3]; rfl
set_option maxRecDepth 4000 in
theorem spec_l2NumberOf (l : List Int) (hl : l.length ≤ 6) : PCalls Tryz.prog 56 [.sl l.length (l.map (.int .i64))] (· = [.val (.int .i64 (if DigsP l then numF l else 0)), .val (.bool (decide (DigsP l ∧ 0 < l.length)))]) := by
  refine pcalls_of_code (n := 28) az Tryz.func56 (by kernel_rfl) rfl rfl (Nat.le_of_ble_eq_true rfl) (by intro t u h; simp [Tryz.f56] at h) ?_
  refine code_seq (fun K1 hK1 => ?_)
  refine code_region ?_
  refine list_cons rfl (op_q (q_assign rfl (by decide)) ?_)
  refine list_cons rfl (op_q (q_assign rfl (by decide)) ?_)
  refine list_nil ?_
  refine hK1 _ ?_; clear hK1 K1
  refine code_seq (fun K2 hK2 => ?_)
  refine code_region ?_
  refine list_cons rfl (op_q (q_assign rfl (by decide)) ?_)
  refine list_nil ?_
  refine hK2 _ ?_; clear hK2 K2
  refine code_seq (fun K3 hK3 => ?_)
  refine code_seq (fun K4 hK4 => ?_)
  refine code_region ?_
  refine list_cons rfl (op_q (q_assign rfl (by decide)) ?_)
  refine list_nil ?_
  refine hK4 _ ?_; clear hK4 K4
  refine code_block ?_
  refine code_loop (X := Int × Bool × Int × Int) (fun x => [(0, .par 0 (.sl l.length (l.map (.int .i64)))), (2, .val (.int .i64 x.1)), (3, .val (.bool x.2.1)), (4, .val (.int .i64 x.2.2.1)), (5, .val (.int .i64 x.2.2.2))]) (fun x => 0 ≤ x.2.2.2 ∧ x.2.2.2 ≤ l.length ∧ x.2.2.1 = numF (l.take x.2.2.2.toNat) ∧ 0 ≤ x.2.2.1 ∧ x.2.2.1 + 1 ≤ 10 ^ x.2.2.2.toNat ∧ ∀ j, j < x.2.2.2.toNat → 0 ≤ digOf (l.getD j 0)) (fun x => l.length - x.2.2.2.toNat) (_, _, _, _) (imp_covers ⟨rfl, rfl, rfl, rfl, rfl, trivial⟩) ?_ ?_
  · (try dsimp only)
    refine ⟨by omega, by omega, rfl, by omega, by simp, fun j hj => by simp at hj⟩
  · intro x hI
    obtain ⟨t2, t3, n, i⟩ := x
    replace hI : 0 ≤ i ∧ i ≤ l.length ∧ n = numF (l.take i.toNat) ∧ 0 ≤ n ∧ n + 1 ≤ 10 ^ i.toNat ∧ ∀ j, j < i.toNat → 0 ≤ digOf (l.getD j 0) := hI
    show codeT _ _ _ [(0, .par 0 (.sl l.length (l.map (.int .i64)))), (2, .val (.int .i64 t2)), (3, .val (.bool t3)), (4, .val (.int .i64 n)), (5, .val (.int .i64 i))] _
    obtain ⟨i1, i2, i3, i4, i5, i6⟩ := hI
    have hp := pow10_le (i := i.toNat) (by omega)
    have hd := digOf_le (l.getD i.toNat 0)
    have hp2 : (10 : Int) ^ i.toNat = ((10 ^ i.toNat : Nat) : Int) := by simp
    refine code_seq (fun K5 hK5 => ?_)
    refine code_seq (fun K6 hK6 => ?_)
    refine code_region ?_
    refine list_cons rfl (op_q (q_move rfl (by decide)) ?_)
    refine list_cons rfl (op_q (q_move rfl (by decide)) ?_)
    refine list_cons rfl (op_q (q_len_sl Tryz.underlying25 rfl rfl (by decide)) ?_)
    refine list_cons rfl (op_q (q_lt rfl rfl (by decide)) ?_)
    refine list_nil ?_
    refine hK6 _ ?_; clear hK6 K6
    refine code_cond_d rfl (fun h1 => ?_) (fun h1 => ?_)
    · skip
      (try simp only [Decidable.not_not] at h1)
      refine code_skip ?_
      refine hK5 _ ?_; clear hK5 K5
      refine code_seq (fun K7 hK7 => ?_)
      refine code_block ?_
      refine code_seq (fun K8 hK8 => ?_)
      refine code_region ?_
      refine list_cons rfl (op_q (q_move rfl (by decide)) ?_)
      refine list_cons rfl (op_q (q_move rfl (by decide)) ?_)
      refine list_cons rfl (op_q (q_indexAddr_rd sl_25 rfl (.inl ⟨_, rfl, rfl⟩) rfl (by omega) (by omega) (by decide)) ?_)
      refine list_cons rfl (op_q (q_load_rd one_3 rfl (.inl ⟨_, (by first | rfl | exact congrArg (SV.rpar _) (drop_map1 _ 0 _ (by first | omega | (simp; omega)))), rfl⟩) (by decide)) ?_)
      refine list_cons rfl (op_call _ (spec_l2DigitOf _) rfl rfl (by decide) (by decide) (by decide) rfl ?_)
      rintro _ rfl
      refine list_cons rfl (op_q (q_assign rfl (by decide)) ?_)
      refine list_nil ?_
      refine hK8 _ ?_; clear hK8 K8
      refine codeT.imp (σ' := [(0, _), (2, _), (3, _), (4, _), (5, _), (6, _)]) ?_ (imp_covers ⟨rfl, rfl, rfl, rfl, rfl, rfl, trivial⟩)
      refine code_seq (fun K9 hK9 => ?_)
      refine code_seq (fun K10 hK10 => ?_)
      refine code_region ?_
      refine list_cons rfl (op_q (q_move rfl (by decide)) ?_)
      refine list_cons rfl (op_q (q_lt rfl rfl (by decide)) ?_)
      refine list_nil ?_
      refine hK10 _ ?_; clear hK10 K10
      refine code_cond_d rfl (fun h2 => ?_) (fun h2 => ?_)
      · skip
        (try simp only [Decidable.not_not] at h2)
        refine code_seq (fun K11 hK11 => ?_)
        refine code_region ?_
        refine list_cons rfl (op_q (q_assign rfl (by decide)) ?_)
        refine list_cons rfl (op_q (q_assign rfl (by decide)) ?_)
        refine list_nil ?_
        refine hK11 _ ?_; clear hK11 K11
        refine code_ret ?_
        refine then_r ?_; clear hK9 K9
        refine blk_r ?_
        refine then_r ?_; clear hK7 K7
        refine then_r ?_
        refine blk_r ?_
        refine then_r ?_; clear hK3 K3
        refine ends_ret (cs := []) rfl rfl rfl rfl trivial ?_
        have e : ¬ DigsP l := fun e => by have := e.at (j := i.toNat) (by omega); omega
        rw [if_neg e, decide_eq_false (fun k => e k.1)]
      (try simp only [Decidable.not_not] at h2)
      refine code_skip ?_
      refine hK9 _ ?_; clear hK9 K9
      refine code_region ?_
      refine list_cons rfl (op_q (q_move rfl (by decide)) ?_)
      refine list_cons rfl (op_q (by first | exact q_mulI rfl rfl (by decide) (by omega) (by omega) | exact q_ib rfl rfl rfl (by decide)) ?_)
      refine list_cons rfl (op_q (q_move rfl (by decide)) ?_)
      refine list_cons rfl (op_q (by first | exact q_addI rfl rfl (by decide) (by omega) (by omega) | exact q_ib rfl rfl rfl (by decide)) ?_)
      refine list_cons rfl (op_q (q_assign rfl (by decide)) ?_)
      refine list_nil ?_
      refine blk_n ?_
      refine hK7 _ ?_; clear hK7 K7
      refine code_region ?_
      refine list_cons rfl (op_q (q_move rfl (by decide)) ?_)
      refine list_cons rfl (op_q (by first | exact q_addI rfl rfl (by decide) (by omega) (by omega) | exact q_ib rfl rfl rfl (by decide)) ?_)
      refine list_cons rfl (op_q (q_assign rfl (by decide)) ?_)
      refine list_nil ?_
      refine then_n ⟨(_, _, _, _), imp_covers ⟨rfl, rfl, rfl, rfl, rfl, trivial⟩, ?_, ?_⟩
      · (try dsimp only)
        refine ⟨by omega, by omega, ?_, by omega, ?_, fun j hj => ?_⟩
        · rw [show (i + 1).toNat = i.toNat + 1 by omega, numF, foldl_take _ 0 _ _ (by omega), i3]; rfl
        · rw [show (i + 1).toNat = i.toNat + 1 by omega, Int.pow_succ]; omega
        · by_cases e : j = i.toNat
          · subst e; omega
          · exact i6 j (by omega)
      · (try dsimp only); omega
    (try simp only [Decidable.not_not] at h1)
    refine code_exit ?_
    refine then_x ?_; clear hK5 K5
    refine then_x ?_
    refine blk_hit ?_
    refine hK3 _ ?_; clear hK3 K3
    refine code_seq (fun K12 hK12 => ?_)
    refine code_region ?_
    refine list_cons rfl (op_q (q_move rfl (by decide)) ?_)
    refine list_cons rfl (op_q (q_move rfl (by decide)) ?_)
    refine list_cons rfl (op_q (q_len_sl Tryz.underlying25 rfl rfl (by decide)) ?_)
    refine list_cons rfl (op_q (q_gt rfl rfl (by decide)) ?_)
    refine list_cons rfl (op_q (q_assign rfl (by decide)) ?_)
    refine list_cons rfl (op_q (q_assign rfl (by decide)) ?_)
    refine list_nil ?_
    refine hK12 _ ?_; clear hK12 K12
    refine codeT.imp (σ' := [(0, _), (2, _), (3, _), (4, _), (5, _)]) ?_ (imp_covers ⟨rfl, rfl, rfl, rfl, rfl, trivial⟩)
    refine code_ret ?_
    refine ends_ret (cs := []) rfl rfl rfl rfl trivial ?_
    have e : DigsP l := DigsP.of fun j hj => i6 j (by omega)
    rw [if_pos e, i3, List.take_of_length_le (by omega)]
    congr 4
    exact decide_eq_decide.mpr ⟨fun k => ⟨e, by omega⟩, fun k => by omega⟩
set_option maxRecDepth 4000 in
theorem spec_l2TurnRow (l : List Int) (hl : RowP l) : PCalls Tryz.prog 52 [.sl l.length (l.map (.int .i64))] (· = [.own 0 3 1 (turnL l).length ((turnL l).map (.int .i64))]) := by
  refine pcalls_of_code (n := 22) az Tryz.func52 (by kernel_rfl) rfl rfl (Nat.le_of_ble_eq_true rfl) (by intro t u h; simp [Tryz.f52] at h) ?_
  have hl6 := hl.1
  refine code_seq (fun K1 hK1 => ?_)
  refine code_region ?_
  refine list_cons rfl (op_q (q_assign rfl (by decide)) ?_)
  refine list_nil ?_
  refine hK1 _ ?_; clear hK1 K1
  refine code_seq (fun K2 hK2 => ?_)
  refine code_region ?_
  refine list_cons rfl (op_buildSlice sl_25 (parts := []) rfl rfl rfl (by decide) (by decide) (by decide) rfl ?_)
  refine list_cons rfl (op_q (q_assign rfl (by decide)) ?_)
  refine list_nil ?_
  refine hK2 _ ?_; clear hK2 K2
  refine code_seq (fun K3 hK3 => ?_)
  refine code_seq (fun K4 hK4 => ?_)
  refine code_region ?_
  refine list_cons rfl (op_q (q_move rfl (by decide)) ?_)
  refine list_cons rfl (op_q (q_len_sl Tryz.underlying25 rfl rfl (by decide)) ?_)
  refine list_cons rfl (op_q (by first | exact q_subI rfl rfl (by decide) (by omega) (by omega) | exact q_ib rfl rfl rfl (by decide)) ?_)
  refine list_cons rfl (op_q (q_assign rfl (by decide)) ?_)
  refine list_nil ?_
  refine hK4 _ ?_; clear hK4 K4
  refine code_block ?_
  refine code_loop (X := PV × Nat × List PV × Int) (fun x => [(0, .par 0 (.sl l.length (l.map (.int .i64)))), (2, .val x.1), (3, .own 5 3 1 x.2.1 x.2.2.1), (4, .val (.int .i64 x.2.2.2))]) (fun x => -1 ≤ x.2.2.2 ∧ x.2.2.2 < l.length ∧ x.2.1 = l.length - (x.2.2.2 + 1).toNat ∧ x.2.2.1 = ((l.drop (x.2.2.2 + 1).toNat).reverse.map turnC).map (.int .i64)) (fun x => (x.2.2.2 + 1).toNat) (_, _, _, _) (imp_covers ⟨rfl, rfl, rfl, rfl, trivial⟩) ?_ ?_
  · (try dsimp only)
    refine ⟨by omega, by omega, by omega, ?_⟩
    rw [List.drop_eq_nil_of_le (by omega)]; rfl
  · intro x hI
    obtain ⟨t2_p, out_n, out_c, i⟩ := x
    replace hI : -1 ≤ i ∧ i < l.length ∧ out_n = l.length - (i + 1).toNat ∧ out_c = ((l.drop (i + 1).toNat).reverse.map turnC).map (.int .i64) := hI
    show codeT _ _ _ [(0, .par 0 (.sl l.length (l.map (.int .i64)))), (2, .val t2_p), (3, .own 5 3 1 out_n out_c), (4, .val (.int .i64 i))] _
    obtain ⟨i1, i2, rfl, rfl⟩ := hI
    have hc := fun (k : 0 ≤ i) => hl.at (j := i.toNat) (by omega)
    refine code_seq (fun K5 hK5 => ?_)
    refine code_seq (fun K6 hK6 => ?_)
    refine code_region ?_
    refine list_cons rfl (op_q (q_move rfl (by decide)) ?_)
    refine list_cons rfl (op_q (q_ge rfl rfl (by decide)) ?_)
    refine list_nil ?_
    refine hK6 _ ?_; clear hK6 K6
    refine code_cond_d rfl (fun h1 => ?_) (fun h1 => ?_)
    · skip
      (try simp only [Decidable.not_not] at h1)
      refine code_skip ?_
      refine hK5 _ ?_; clear hK5 K5
      refine code_seq (fun K7 hK7 => ?_)
      refine code_block ?_
      refine code_region ?_
      refine list_cons rfl (op_q (q_move rfl (by decide)) ?_)
      refine list_cons rfl (op_q (q_move rfl (by decide)) ?_)
      refine list_cons rfl (op_q (q_move rfl (by decide)) ?_)
      refine list_cons rfl (op_q (q_indexAddr_rd sl_25 rfl (.inl ⟨_, rfl, rfl⟩) rfl (by omega) (by omega) (by decide)) ?_)
      refine list_cons rfl (op_q (q_load_rd one_3 rfl (.inl ⟨_, (by first | rfl | exact congrArg (SV.rpar _) (drop_map1 _ 0 _ (by first | omega | (simp; omega)))), rfl⟩) (by decide)) ?_)
      refine list_cons rfl (op_call _ (spec_l2Turn _ (hc (by omega)).1 (hc (by omega)).2) rfl rfl (by decide) (by decide) (by decide) rfl ?_)
      rintro _ rfl
      refine list_cons rfl (op_buildSlice sl_25 (parts := [(0, .tmp 18)]) rfl rfl rfl (by decide) (by decide) (by decide) rfl ?_)
      refine list_cons rfl (op_append_gen sl_25 (l := 5) (.inl rfl) rfl rfl (l2 := none) (.inl ⟨rfl, (by first | rfl | exact flat_map _ (fun _ => rfl) _)⟩) (by first | rfl | simp | omega) (by omega) (by decide) (by decide) (by decide) ?_)
      refine list_cons rfl (op_q (q_assign rfl (by decide)) ?_)
      refine list_nil ?_
      refine blk_n ?_
      refine hK7 _ ?_; clear hK7 K7
      refine codeT.imp (σ' := [(0, _), (2, _), (3, _), (4, _)]) ?_ (imp_covers ⟨rfl, rfl, rfl, rfl, trivial⟩)
      refine code_region ?_
      refine list_cons rfl (op_q (q_move rfl (by decide)) ?_)
      refine list_cons rfl (op_q (by first | exact q_subI rfl rfl (by decide) (by omega) (by omega) | exact q_ib rfl rfl rfl (by decide)) ?_)
      refine list_cons rfl (op_q (q_assign rfl (by decide)) ?_)
      refine list_nil ?_
      refine then_n ⟨(_, _, _, _), imp_covers ⟨rfl, rfl, rfl, rfl, trivial⟩, ?_, ?_⟩
      · (try dsimp only)
        refine ⟨by omega, by omega, by omega, ?_⟩
        rw [show (i - 1 + 1).toNat = i.toNat by omega, rev_drop 0 l (k := i.toNat) (by omega), show (i + 1).toNat = i.toNat + 1 by omega]
        simp; rfl
      · (try dsimp only); omega
    (try simp only [Decidable.not_not] at h1)
    refine code_exit ?_
    refine then_x ?_; clear hK5 K5
    refine then_x ?_
    refine blk_hit ?_
    refine hK3 _ ?_; clear hK3 K3
    refine code_seq (fun K8 hK8 => ?_)
    refine code_region ?_
    refine list_cons rfl (op_q (q_move rfl (by decide)) ?_)
    refine list_cons rfl (op_q (q_assign rfl (by decide)) ?_)
    refine list_nil ?_
    refine hK8 _ ?_; clear hK8 K8
    refine code_ret ?_
    refine ends_ret (cs := []) rfl rfl rfl rfl trivial ?_
    rw [show (i + 1).toNat = 0 by omega, List.drop_zero, Nat.sub_zero, ← turnL_len l]; rfl
set_option maxRecDepth 4000 in
theorem spec_l2MirrorRow (l : List Int) (hl : RowP l) : PCalls Tryz.prog 59 [.sl l.length (l.map (.int .i64))] (· = [.own 0 3 1 (mirL l).length ((mirL l).map (.int .i64))]) := by
  refine pcalls_of_code (n := 22) az Tryz.func59 (by kernel_rfl) rfl rfl (Nat.le_of_ble_eq_true rfl) (by intro t u h; simp [Tryz.f59] at h) ?_
  have hl6 := hl.1
  refine code_seq (fun K1 hK1 => ?_)
  refine code_region ?_
  refine list_cons rfl (op_q (q_assign rfl (by decide)) ?_)
  refine list_nil ?_
  refine hK1 _ ?_; clear hK1 K1
  refine code_seq (fun K2 hK2 => ?_)
  refine code_region ?_
  refine list_cons rfl (op_buildSlice sl_25 (parts := []) rfl rfl rfl (by decide) (by decide) (by decide) rfl ?_)
  refine list_cons rfl (op_q (q_assign rfl (by decide)) ?_)
  refine list_nil ?_
  refine hK2 _ ?_; clear hK2 K2
  refine code_seq (fun K3 hK3 => ?_)
  refine code_seq (fun K4 hK4 => ?_)
  refine code_region ?_
  refine list_cons rfl (op_q (q_move rfl (by decide)) ?_)
  refine list_cons rfl (op_q (q_len_sl Tryz.underlying25 rfl rfl (by decide)) ?_)
  refine list_cons rfl (op_q (by first | exact q_subI rfl rfl (by decide) (by omega) (by omega) | exact q_ib rfl rfl rfl (by decide)) ?_)
  refine list_cons rfl (op_q (q_assign rfl (by decide)) ?_)
  refine list_nil ?_
  refine hK4 _ ?_; clear hK4 K4
  refine code_block ?_
  refine code_loop (X := PV × Nat × List PV × Int) (fun x => [(0, .par 0 (.sl l.length (l.map (.int .i64)))), (2, .val x.1), (3, .own 5 3 1 x.2.1 x.2.2.1), (4, .val (.int .i64 x.2.2.2))]) (fun x => -1 ≤ x.2.2.2 ∧ x.2.2.2 < l.length ∧ x.2.1 = l.length - (x.2.2.2 + 1).toNat ∧ x.2.2.1 = ((l.drop (x.2.2.2 + 1).toNat).reverse.map mirC).map (.int .i64)) (fun x => (x.2.2.2 + 1).toNat) (_, _, _, _) (imp_covers ⟨rfl, rfl, rfl, rfl, trivial⟩) ?_ ?_
  · (try dsimp only)
    refine ⟨by omega, by omega, by omega, ?_⟩
    rw [List.drop_eq_nil_of_le (by omega)]; rfl
  · intro x hI
    obtain ⟨t2_p, out_n, out_c, i⟩ := x
    replace hI : -1 ≤ i ∧ i < l.length ∧ out_n = l.length - (i + 1).toNat ∧ out_c = ((l.drop (i + 1).toNat).reverse.map mirC).map (.int .i64) := hI
    show codeT _ _ _ [(0, .par 0 (.sl l.length (l.map (.int .i64)))), (2, .val t2_p), (3, .own 5 3 1 out_n out_c), (4, .val (.int .i64 i))] _
    obtain ⟨i1, i2, rfl, rfl⟩ := hI
    have hc := fun (k : 0 ≤ i) => hl.at (j := i.toNat) (by omega)
    refine code_seq (fun K5 hK5 => ?_)
    refine code_seq (fun K6 hK6 => ?_)
    refine code_region ?_
    refine list_cons rfl (op_q (q_move rfl (by decide)) ?_)
    refine list_cons rfl (op_q (q_ge rfl rfl (by decide)) ?_)
    refine list_nil ?_
    refine hK6 _ ?_; clear hK6 K6
    refine code_cond_d rfl (fun h1 => ?_) (fun h1 => ?_)
    · skip
      (try simp only [Decidable.not_not] at h1)
      refine code_skip ?_
      refine hK5 _ ?_; clear hK5 K5
      refine code_seq (fun K7 hK7 => ?_)
      refine code_block ?_
      refine code_region ?_
      refine list_cons rfl (op_q (q_move rfl (by decide)) ?_)
      refine list_cons rfl (op_q (q_move rfl (by decide)) ?_)
      refine list_cons rfl (op_q (q_move rfl (by decide)) ?_)
      refine list_cons rfl (op_q (q_indexAddr_rd sl_25 rfl (.inl ⟨_, rfl, rfl⟩) rfl (by omega) (by omega) (by decide)) ?_)
      refine list_cons rfl (op_q (q_load_rd one_3 rfl (.inl ⟨_, (by first | rfl | exact congrArg (SV.rpar _) (drop_map1 _ 0 _ (by first | omega | (simp; omega)))), rfl⟩) (by decide)) ?_)
      refine list_cons rfl (op_call _ (spec_l2Mirror _ (hc (by omega)).1 (hc (by omega)).2) rfl rfl (by decide) (by decide) (by decide) rfl ?_)
      rintro _ rfl
      refine list_cons rfl (op_buildSlice sl_25 (parts := [(0, .tmp 18)]) rfl rfl rfl (by decide) (by decide) (by decide) rfl ?_)
      refine list_cons rfl (op_append_gen sl_25 (l := 5) (.inl rfl) rfl rfl (l2 := none) (.inl ⟨rfl, (by first | rfl | exact flat_map _ (fun _ => rfl) _)⟩) (by first | rfl | simp | omega) (by omega) (by decide) (by decide) (by decide) ?_)
      refine list_cons rfl (op_q (q_assign rfl (by decide)) ?_)
      refine list_nil ?_
      refine blk_n ?_
      refine hK7 _ ?_; clear hK7 K7
      refine codeT.imp (σ' := [(0, _), (2, _), (3, _), (4, _)]) ?_ (imp_covers ⟨rfl, rfl, rfl, rfl, trivial⟩)
      refine code_region ?_
      refine list_cons rfl (op_q (q_move rfl (by decide)) ?_)
      refine list_cons rfl (op_q (by first | exact q_subI rfl rfl (by decide) (by omega) (by omega) | exact q_ib rfl rfl rfl (by decide)) ?_)
      refine list_cons rfl (op_q (q_assign rfl (by decide)) ?_)
      refine list_nil ?_
      refine then_n ⟨(_, _, _, _), imp_covers ⟨rfl, rfl, rfl, rfl, trivial⟩, ?_, ?_⟩
      · (try dsimp only)
        refine ⟨by omega, by omega, by omega, ?_⟩
        rw [show (i - 1 + 1).toNat = i.toNat by omega, rev_drop 0 l (k := i.toNat) (by omega), show (i + 1).toNat = i.toNat + 1 by omega]
        simp; rfl
      · (try dsimp only); omega
    (try simp only [Decidable.not_not] at h1)
    refine code_exit ?_
    refine then_x ?_; clear hK5 K5
    refine then_x ?_
    refine blk_hit ?_
    refine hK3 _ ?_; clear hK3 K3
    refine code_seq (fun K8 hK8 => ?_)
    refine code_region ?_
    refine list_cons rfl (op_q (q_move rfl (by decide)) ?_)
    refine list_cons rfl (op_q (q_assign rfl (by decide)) ?_)
    refine list_nil ?_
    refine hK8 _ ?_; clear hK8 K8
    refine code_ret ?_
    refine ends_ret (cs := []) rfl rfl rfl rfl trivial ?_
    rw [show (i + 1).toNat = 0 by omega, List.drop_zero, Nat.sub_zero, ← mirL_len l]; rfl
theorem list_eqI {α : Type} (d : α) (a b : List α) (h : a.length = b.length) (k : ∀ j, j < a.length → a.getD j d = b.getD j d) : a = b := by
  apply List.ext_getElem h
  intro j h1 h2
  have := k j h1
  simpa [h1, h2] using this
def OrdP (s : List UInt8) : Prop := ∀ i, i < s.length → 97 ≤ (s.getD i 0).toNat ∧ (s.getD i 0).toNat ≤ 103 ∧ (0 < i → (s.getD (i - 1) 0).toNat < (s.getD i 0).toNat)
instance (s : List UInt8) : Decidable (OrdP s) := by unfold OrdP; infer_instance
def orF (s : List UInt8) : Nat := s.foldl (fun c b => c ||| 2 ^ (b.toNat - 97)) 0
theorem orF_snoc (s : List UInt8) {k : Nat} (h : k < s.length) : orF (s.take (k + 1)) = orF (s.take k) ||| 2 ^ ((s.getD k 0).toNat - 97) := by
  unfold orF; rw [foldl_take _ 0 _ _ h]
theorem or7 {a k : Nat} (ha : a < 128) (hk : k ≤ 6) : a ||| 2 ^ k < 128 := by
  have : 2 ^ k < 2 ^ 7 := Nat.pow_lt_pow_right (by omega) (by omega)
  exact @Nat.or_lt_two_pow a (2 ^ k) 7 (by omega) this
set_option maxRecDepth 4000 in
theorem spec_l1Same (a b : List Int) (hl : a.length ≤ 4611686018427387904) : PCalls Tryz.prog 57 [.sl a.length (a.map (.int .i64)), .sl b.length (b.map (.int .i64))] (· = [.val (.bool (decide (a = b)))]) := by
  refine pcalls_of_code (n := 26) az Tryz.func57 (by kernel_rfl) rfl rfl (Nat.le_of_ble_eq_true rfl) (by intro t u h; simp [Tryz.f57] at h) ?_
  refine code_seq (fun K1 hK1 => ?_)
  refine code_region ?_
  refine list_cons rfl (op_q (q_assign rfl (by decide)) ?_)
  refine list_nil ?_
  refine hK1 _ ?_; clear hK1 K1
  refine code_seq (fun K2 hK2 => ?_)
  refine code_seq (fun K3 hK3 => ?_)
  refine code_region ?_
  refine list_cons rfl (op_q (q_move rfl (by decide)) ?_)
  refine list_cons rfl (op_q (q_len_sl Tryz.underlying25 rfl rfl (by decide)) ?_)
  refine list_cons rfl (op_q (q_move rfl (by decide)) ?_)
  refine list_cons rfl (op_q (q_len_sl Tryz.underlying25 rfl rfl (by decide)) ?_)
  refine list_cons rfl (op_q (q_ne rfl rfl (by decide)) ?_)
  refine list_nil ?_
  refine hK3 _ ?_; clear hK3 K3
  refine code_cond_d rfl (fun h1 => ?_) (fun h1 => ?_)
  · skip
    (try simp only [Decidable.not_not] at h1)
    refine code_seq (fun K4 hK4 => ?_)
    refine code_region ?_
    refine list_cons rfl (op_q (q_assign rfl (by decide)) ?_)
    refine list_nil ?_
    refine hK4 _ ?_; clear hK4 K4
    refine code_ret ?_
    refine then_r ?_; clear hK2 K2
    refine ends_ret (cs := []) rfl rfl rfl rfl trivial ?_
    rw [decide_eq_false (fun e => h1 (by rw [e]))]
  (try simp only [Decidable.not_not] at h1)
  refine code_skip ?_
  refine hK2 _ ?_; clear hK2 K2
  refine code_seq (fun K5 hK5 => ?_)
  refine code_seq (fun K6 hK6 => ?_)
  refine code_region ?_
  refine list_cons rfl (op_q (q_assign rfl (by decide)) ?_)
  refine list_nil ?_
  refine hK6 _ ?_; clear hK6 K6
  refine code_block ?_
  refine code_loop (X := Bool × Int) (fun x => [(0, .par 0 (.sl a.length (a.map (.int .i64)))), (1, .par 1 (.sl b.length (b.map (.int .i64)))), (4, .val (.bool x.1)), (5, .val (.int .i64 x.2))]) (fun x => 0 ≤ x.2 ∧ x.2 ≤ a.length ∧ ∀ j, j < x.2.toNat → a.getD j 0 = b.getD j 0) (fun x => a.length - x.2.toNat) (_, _) (imp_covers ⟨rfl, rfl, rfl, rfl, trivial⟩) ?_ ?_
  · (try dsimp only)
    refine ⟨by omega, by omega, fun j hj => by simp at hj⟩
  · intro x hI
    obtain ⟨t4, i⟩ := x
    replace hI : 0 ≤ i ∧ i ≤ a.length ∧ ∀ j, j < i.toNat → a.getD j 0 = b.getD j 0 := hI
    show codeT _ _ _ [(0, .par 0 (.sl a.length (a.map (.int .i64)))), (1, .par 1 (.sl b.length (b.map (.int .i64)))), (4, .val (.bool t4)), (5, .val (.int .i64 i))] _
    obtain ⟨i1, i2, i3⟩ := hI
    refine code_seq (fun K7 hK7 => ?_)
    refine code_seq (fun K8 hK8 => ?_)
    refine code_region ?_
    refine list_cons rfl (op_q (q_move rfl (by decide)) ?_)
    refine list_cons rfl (op_q (q_move rfl (by decide)) ?_)
    refine list_cons rfl (op_q (q_len_sl Tryz.underlying25 rfl rfl (by decide)) ?_)
    refine list_cons rfl (op_q (q_lt rfl rfl (by decide)) ?_)
    refine list_nil ?_
    refine hK8 _ ?_; clear hK8 K8
    refine code_cond_d rfl (fun h2 => ?_) (fun h2 => ?_)
    · skip
      (try simp only [Decidable.not_not] at h2)
      refine code_skip ?_
      refine hK7 _ ?_; clear hK7 K7
      refine code_seq (fun K9 hK9 => ?_)
      refine code_block ?_
      refine code_seq (fun K10 hK10 => ?_)
      refine code_draw (by kernel_rfl) (by kernel_rfl) ?_
      refine draw_q rfl (q_move rfl (by decide)) ?_
      refine draw_q rfl (q_move rfl (by decide)) ?_
      refine draw_q rfl (q_indexAddr_rd sl_25 rfl (.inl ⟨_, rfl, rfl⟩) rfl (by omega) (by omega) (by decide)) ?_
      refine draw_q rfl (q_load_rd one_3 rfl (.inl ⟨_, (by first | rfl | exact congrArg (SV.rpar _) (drop_map1 _ 0 _ (by first | omega | (simp; omega)))), rfl⟩) (by decide)) ?_
      refine draw_q rfl (q_move rfl (by decide)) ?_
      refine draw_q rfl (q_move rfl (by decide)) ?_
      refine draw_q rfl (q_indexAddr_rd sl_25 rfl (.inl ⟨_, rfl, rfl⟩) rfl (by omega) (by omega) (by decide)) ?_
      refine draw_q rfl (q_load_rd one_3 rfl (.inl ⟨_, (by first | rfl | exact congrArg (SV.rpar _) (drop_map1 _ 0 _ (by first | omega | (simp; omega)))), rfl⟩) (by decide)) ?_
      refine draw_q rfl (q_ne rfl rfl (by decide)) ?_
      refine draw_nil ?_
      refine hK10 _ ?_; clear hK10 K10
      refine codeT.imp (σ' := [(0, _), (1, _), (4, _), (5, _), (25, _)]) ?_ (imp_covers ⟨rfl, rfl, rfl, rfl, rfl, trivial⟩)
      refine code_cond_d rfl (fun h3 => ?_) (fun h3 => ?_)
      · skip
        (try simp only [Decidable.not_not] at h3)
        refine code_seq (fun K11 hK11 => ?_)
        refine code_region ?_
        refine list_cons rfl (op_q (q_assign rfl (by decide)) ?_)
        refine list_nil ?_
        refine hK11 _ ?_; clear hK11 K11
        refine code_ret ?_
        refine blk_r ?_
        refine then_r ?_; clear hK9 K9
        refine then_r ?_
        refine blk_r ?_
        refine then_r ?_; clear hK5 K5
        refine ends_ret (cs := []) rfl rfl rfl rfl trivial ?_
        rw [decide_eq_false (fun e => h3 (by rw [e]))]
      (try simp only [Decidable.not_not] at h3)
      refine code_skip ?_
      refine blk_n ?_
      refine hK9 _ ?_; clear hK9 K9
      refine code_region ?_
      refine list_cons rfl (op_q (q_move rfl (by decide)) ?_)
      refine list_cons rfl (op_q (by first | exact q_addI rfl rfl (by decide) (by omega) (by omega) | exact q_ib rfl rfl rfl (by decide)) ?_)
      refine list_cons rfl (op_q (q_assign rfl (by decide)) ?_)
      refine list_nil ?_
      refine then_n ⟨(_, _), imp_covers ⟨rfl, rfl, rfl, rfl, trivial⟩, ?_, ?_⟩
      · (try dsimp only)
        refine ⟨by omega, by omega, fun j hj => ?_⟩
        by_cases e : j = i.toNat
        · subst e; exact h3
        · exact i3 j (by omega)
      · (try dsimp only); omega
    (try simp only [Decidable.not_not] at h2)
    refine code_exit ?_
    refine then_x ?_; clear hK7 K7
    refine then_x ?_
    refine blk_hit ?_
    refine hK5 _ ?_; clear hK5 K5
    refine code_seq (fun K12 hK12 => ?_)
    refine code_region ?_
    refine list_cons rfl (op_q (q_assign rfl (by decide)) ?_)
    refine list_nil ?_
    refine hK12 _ ?_; clear hK12 K12
    refine code_ret ?_
    refine ends_ret (cs := []) rfl rfl rfl rfl trivial ?_
    rw [decide_eq_true (list_eqI 0 a b (by omega) fun j hj => i3 j (by omega))]
def ltrT : List Int := [119, 124, 57, 94, 121, 113, 116, 30, 56, 84, 92, 115, 80, 120, 28, 110]
def ltrS : List UInt8 := [97, 98, 99, 100, 101, 102, 104, 106, 108, 110, 111, 112, 114, 116, 117, 121]
def plR (r : Int) : Int := if r = 97 then 0 else if r = 98 then 1 else if r = 99 then 2 else if r = 100 then 3 else if r = 101 then 4 else if r = 102 then 5 else if r = 104 then 6 else if r = 106 then 7 else if r = 108 then 8 else if r = 110 then 9 else if r = 111 then 10 else if r = 112 then 11 else if r = 114 then 12 else if r = 116 then 13 else if r = 117 then 14 else if r = 121 then 15 else -1
def rdC (c : Int) : Int := if c = 119 then 0 else if c = 124 then 1 else if c = 57 then 2 else if c = 94 then 3 else if c = 121 then 4 else if c = 113 then 5 else if c = 116 then 6 else if c = 30 then 7 else if c = 56 then 8 else if c = 84 then 9 else if c = 92 then 10 else if c = 115 then 11 else if c = 80 then 12 else if c = 120 then 13 else if c = 28 then 14 else if c = 110 then 15 else -1
def plB (b : UInt8) : Int := plR b.toNat
theorem plR_le (r : Int) : -1 ≤ plR r ∧ plR r ≤ 15 := by
  unfold plR
  repeat' split
  all_goals omega
theorem rdC_le (r : Int) : -1 ≤ rdC r ∧ rdC r ≤ 15 := by
  unfold rdC
  repeat' split
  all_goals omega
theorem plB_le (b : UInt8) : -1 ≤ plB b ∧ plB b ≤ 15 := plR_le _
theorem lt16 {k : Int} (h0 : 0 ≤ k) (h1 : k ≤ 15) : k = 0 ∨ k = 1 ∨ k = 2 ∨ k = 3 ∨ k = 4 ∨ k = 5 ∨ k = 6 ∨ k = 7 ∨ k = 8 ∨ k = 9 ∨ k = 10 ∨ k = 11 ∨ k = 12 ∨ k = 13 ∨ k = 14 ∨ k = 15 := by omega
theorem ltr_pl {k : Int} (h0 : 0 ≤ k) (h1 : k ≤ 15) : plR ((ltrS.getD k.toNat 0).toNat : Int) = k := by
  rcases lt16 h0 h1 with rfl | rfl | rfl | rfl | rfl | rfl | rfl | rfl | rfl | rfl | rfl | rfl | rfl | rfl | rfl | rfl <;> rfl
theorem ltr_rd {k : Int} (h0 : 0 ≤ k) (h1 : k ≤ 15) : rdC (ltrT.getD k.toNat 0) = k := by
  rcases lt16 h0 h1 with rfl | rfl | rfl | rfl | rfl | rfl | rfl | rfl | rfl | rfl | rfl | rfl | rfl | rfl | rfl | rfl <;> rfl
theorem plR_at {k r : Int} (h0 : 0 ≤ k) (h1 : k ≤ 15) (h : ((ltrS.getD k.toNat 0).toNat : Int) = r) : plR r = k := by subst h; exact ltr_pl h0 h1
theorem rdC_at {k c : Int} (h0 : 0 ≤ k) (h1 : k ≤ 15) (h : ltrT.getD k.toNat 0 = c) : rdC c = k := by subst h; exact ltr_rd h0 h1
theorem plR_cs {r k : Int} (hk : plR r = k) : (r = 97 ∧ k = 0) ∨ (r = 98 ∧ k = 1) ∨ (r = 99 ∧ k = 2) ∨ (r = 100 ∧ k = 3) ∨ (r = 101 ∧ k = 4) ∨ (r = 102 ∧ k = 5) ∨ (r = 104 ∧ k = 6) ∨ (r = 106 ∧ k = 7) ∨ (r = 108 ∧ k = 8) ∨ (r = 110 ∧ k = 9) ∨ (r = 111 ∧ k = 10) ∨ (r = 112 ∧ k = 11) ∨ (r = 114 ∧ k = 12) ∨ (r = 116 ∧ k = 13) ∨ (r = 117 ∧ k = 14) ∨ (r = 121 ∧ k = 15) ∨ k = -1 := by
  unfold plR at hk
  by_cases h : r = 97
  · rw [if_pos h] at hk; exact .inl ⟨h, hk.symm⟩
  rw [if_neg h] at hk; refine .inr ?_; clear h
  by_cases h : r = 98
  · rw [if_pos h] at hk; exact .inl ⟨h, hk.symm⟩
  rw [if_neg h] at hk; refine .inr ?_; clear h
  by_cases h : r = 99
  · rw [if_pos h] at hk; exact .inl ⟨h, hk.symm⟩
  rw [if_neg h] at hk; refine .inr ?_; clear h
  by_cases h : r = 100
  · rw [if_pos h] at hk; exact .inl ⟨h, hk.symm⟩
  rw [if_neg h] at hk; refine .inr ?_; clear h
  by_cases h : r = 101
  · rw [if_pos h] at hk; exact .inl ⟨h, hk.symm⟩
  rw [if_neg h] at hk; refine .inr ?_; clear h
  by_cases h : r = 102
  · rw [if_pos h] at hk; exact .inl ⟨h, hk.symm⟩
  rw [if_neg h] at hk; refine .inr ?_; clear h
  by_cases h : r = 104
  · rw [if_pos h] at hk; exact .inl ⟨h, hk.symm⟩
  rw [if_neg h] at hk; refine .inr ?_; clear h
  by_cases h : r = 106
  · rw [if_pos h] at hk; exact .inl ⟨h, hk.symm⟩
  rw [if_neg h] at hk; refine .inr ?_; clear h
  by_cases h : r = 108
  · rw [if_pos h] at hk; exact .inl ⟨h, hk.symm⟩
  rw [if_neg h] at hk; refine .inr ?_; clear h
  by_cases h : r = 110
  · rw [if_pos h] at hk; exact .inl ⟨h, hk.symm⟩
  rw [if_neg h] at hk; refine .inr ?_; clear h
  by_cases h : r = 111
  · rw [if_pos h] at hk; exact .inl ⟨h, hk.symm⟩
  rw [if_neg h] at hk; refine .inr ?_; clear h
  by_cases h : r = 112
  · rw [if_pos h] at hk; exact .inl ⟨h, hk.symm⟩
  rw [if_neg h] at hk; refine .inr ?_; clear h
  by_cases h : r = 114
  · rw [if_pos h] at hk; exact .inl ⟨h, hk.symm⟩
  rw [if_neg h] at hk; refine .inr ?_; clear h
  by_cases h : r = 116
  · rw [if_pos h] at hk; exact .inl ⟨h, hk.symm⟩
  rw [if_neg h] at hk; refine .inr ?_; clear h
  by_cases h : r = 117
  · rw [if_pos h] at hk; exact .inl ⟨h, hk.symm⟩
  rw [if_neg h] at hk; refine .inr ?_; clear h
  by_cases h : r = 121
  · rw [if_pos h] at hk; exact .inl ⟨h, hk.symm⟩
  rw [if_neg h] at hk; refine .inr ?_; clear h
  exact hk.symm
theorem rdC_cs {c k : Int} (hk : rdC c = k) : (c = 119 ∧ k = 0) ∨ (c = 124 ∧ k = 1) ∨ (c = 57 ∧ k = 2) ∨ (c = 94 ∧ k = 3) ∨ (c = 121 ∧ k = 4) ∨ (c = 113 ∧ k = 5) ∨ (c = 116 ∧ k = 6) ∨ (c = 30 ∧ k = 7) ∨ (c = 56 ∧ k = 8) ∨ (c = 84 ∧ k = 9) ∨ (c = 92 ∧ k = 10) ∨ (c = 115 ∧ k = 11) ∨ (c = 80 ∧ k = 12) ∨ (c = 120 ∧ k = 13) ∨ (c = 28 ∧ k = 14) ∨ (c = 110 ∧ k = 15) ∨ k = -1 := by
  unfold rdC at hk
  by_cases h : c = 119
  · rw [if_pos h] at hk; exact .inl ⟨h, hk.symm⟩
  rw [if_neg h] at hk; refine .inr ?_; clear h
  by_cases h : c = 124
  · rw [if_pos h] at hk; exact .inl ⟨h, hk.symm⟩
  rw [if_neg h] at hk; refine .inr ?_; clear h
  by_cases h : c = 57
  · rw [if_pos h] at hk; exact .inl ⟨h, hk.symm⟩
  rw [if_neg h] at hk; refine .inr ?_; clear h
  by_cases h : c = 94
  · rw [if_pos h] at hk; exact .inl ⟨h, hk.symm⟩
  rw [if_neg h] at hk; refine .inr ?_; clear h
  by_cases h : c = 121
  · rw [if_pos h] at hk; exact .inl ⟨h, hk.symm⟩
  rw [if_neg h] at hk; refine .inr ?_; clear h
  by_cases h : c = 113
  · rw [if_pos h] at hk; exact .inl ⟨h, hk.symm⟩
  rw [if_neg h] at hk; refine .inr ?_; clear h
  by_cases h : c = 116
  · rw [if_pos h] at hk; exact .inl ⟨h, hk.symm⟩
  rw [if_neg h] at hk; refine .inr ?_; clear h
  by_cases h : c = 30
  · rw [if_pos h] at hk; exact .inl ⟨h, hk.symm⟩
  rw [if_neg h] at hk; refine .inr ?_; clear h
  by_cases h : c = 56
  · rw [if_pos h] at hk; exact .inl ⟨h, hk.symm⟩
  rw [if_neg h] at hk; refine .inr ?_; clear h
  by_cases h : c = 84
  · rw [if_pos h] at hk; exact .inl ⟨h, hk.symm⟩
  rw [if_neg h] at hk; refine .inr ?_; clear h
  by_cases h : c = 92
  · rw [if_pos h] at hk; exact .inl ⟨h, hk.symm⟩
  rw [if_neg h] at hk; refine .inr ?_; clear h
  by_cases h : c = 115
  · rw [if_pos h] at hk; exact .inl ⟨h, hk.symm⟩
  rw [if_neg h] at hk; refine .inr ?_; clear h
  by_cases h : c = 80
  · rw [if_pos h] at hk; exact .inl ⟨h, hk.symm⟩
  rw [if_neg h] at hk; refine .inr ?_; clear h
  by_cases h : c = 120
  · rw [if_pos h] at hk; exact .inl ⟨h, hk.symm⟩
  rw [if_neg h] at hk; refine .inr ?_; clear h
  by_cases h : c = 28
  · rw [if_pos h] at hk; exact .inl ⟨h, hk.symm⟩
  rw [if_neg h] at hk; refine .inr ?_; clear h
  by_cases h : c = 110
  · rw [if_pos h] at hk; exact .inl ⟨h, hk.symm⟩
  rw [if_neg h] at hk; refine .inr ?_; clear h
  exact hk.symm
theorem pl_back {r : Int} (h : 0 ≤ plR r) : ((ltrS.getD (plR r).toNat 0).toNat : Int) = r := by
  rcases plR_cs (r := r) rfl with ⟨h1, h2⟩ | ⟨h1, h2⟩ | ⟨h1, h2⟩ | ⟨h1, h2⟩ | ⟨h1, h2⟩ | ⟨h1, h2⟩ | ⟨h1, h2⟩ | ⟨h1, h2⟩ | ⟨h1, h2⟩ | ⟨h1, h2⟩ | ⟨h1, h2⟩ | ⟨h1, h2⟩ | ⟨h1, h2⟩ | ⟨h1, h2⟩ | ⟨h1, h2⟩ | ⟨h1, h2⟩ | h2 <;> first | omega | (rw [h2, h1]; rfl)
theorem rd_back {c : Int} (h : 0 ≤ rdC c) : ltrT.getD (rdC c).toNat 0 = c := by
  rcases rdC_cs (c := c) rfl with ⟨h1, h2⟩ | ⟨h1, h2⟩ | ⟨h1, h2⟩ | ⟨h1, h2⟩ | ⟨h1, h2⟩ | ⟨h1, h2⟩ | ⟨h1, h2⟩ | ⟨h1, h2⟩ | ⟨h1, h2⟩ | ⟨h1, h2⟩ | ⟨h1, h2⟩ | ⟨h1, h2⟩ | ⟨h1, h2⟩ | ⟨h1, h2⟩ | ⟨h1, h2⟩ | ⟨h1, h2⟩ | h2 <;> first | omega | (rw [h2, h1]; rfl)
theorem plR_none {r : Int} (h : ∀ j : Nat, j < 16 → ((ltrS.getD j 0).toNat : Int) ≠ r) : plR r = -1 := by
  rcases Int.lt_or_le (plR r) 0 with k | k
  · have := plR_le r; omega
  · have h2 := plR_le r
    exact absurd (pl_back k) (h (plR r).toNat (by omega))
theorem rdC_none {c : Int} (h : ∀ j : Nat, j < 16 → ltrT.getD j 0 ≠ c) : rdC c = -1 := by
  rcases Int.lt_or_le (rdC c) 0 with k | k
  · have := rdC_le c; omega
  · have h2 := rdC_le c
    exact absurd (rd_back k) (h (rdC c).toNat (by omega))
theorem ltrT_cell (n : Nat) : 0 ≤ ltrT.getD n 0 ∧ ltrT.getD n 0 ≤ 127 := by
  by_cases h : n < 16
  · have : n = 0 ∨ n = 1 ∨ n = 2 ∨ n = 3 ∨ n = 4 ∨ n = 5 ∨ n = 6 ∨ n = 7 ∨ n = 8 ∨ n = 9 ∨ n = 10 ∨ n = 11 ∨ n = 12 ∨ n = 13 ∨ n = 14 ∨ n = 15 := by omega
    rcases this with rfl | rfl | rfl | rfl | rfl | rfl | rfl | rfl | rfl | rfl | rfl | rfl | rfl | rfl | rfl | rfl <;> decide
  · have : ltrT.getD n 0 = 0 := by unfold List.getD; rw [List.getElem?_eq_none (by simp [ltrT]; omega)]; rfl
    rw [this]; omega
def LtP (s : List UInt8) : Prop := ∀ b ∈ s, 0 ≤ plB b
instance (s : List UInt8) : Decidable (LtP s) := by unfold LtP; infer_instance
theorem LtP.at {s : List UInt8} (h : LtP s) {j : Nat} (hj : j < s.length) : 0 ≤ plB (s.getD j 0) := by
  have : s.getD j 0 = s[j] := by simp [hj]
  rw [this]; exact h _ (List.getElem_mem hj)
theorem LtP.of {s : List UInt8} (h : ∀ j, j < s.length → 0 ≤ plB (s.getD j 0)) : LtP s := fun x hx => by
  obtain ⟨j, hj, rfl⟩ := List.getElem_of_mem hx
  have := h j hj
  simpa [hj] using this
def WrdP (s : List UInt8) (m : Int) : Prop := (s.length : Int) ≤ m ∧ LtP s
instance (s : List UInt8) (m : Int) : Decidable (WrdP s m) := by unfold WrdP; infer_instance
def cellW (b : UInt8) : Int := ltrT.getD (plB b).toNat 0
def rowW (s : List UInt8) : List Int := s.map cellW
theorem rowW_len (s : List UInt8) : (rowW s).length = s.length := by simp [rowW]
theorem cellW_cell (b : UInt8) : 0 ≤ cellW b ∧ cellW b ≤ 127 := ltrT_cell _
theorem rowW_cells (s : List UInt8) : ∀ x ∈ rowW s, 0 ≤ x ∧ x ≤ 127 := fun x hx => by
  obtain ⟨b, _, rfl⟩ := List.mem_map.1 hx
  exact cellW_cell b
theorem rowW_row {s : List UInt8} (h : s.length ≤ 6) : RowP (rowW s) := ⟨by rw [rowW_len]; exact h, rowW_cells s⟩
theorem rowW_at (s : List UInt8) (j : Nat) : 0 ≤ (rowW s).getD j 0 ∧ (rowW s).getD j 0 ≤ 127 := by
  by_cases h : j < (rowW s).length
  · have : (rowW s).getD j 0 = (rowW s)[j] := by simp [h]
    rw [this]; exact rowW_cells s _ (List.getElem_mem h)
  · have : (rowW s).getD j 0 = 0 := by unfold List.getD; rw [List.getElem?_eq_none (by omega)]; rfl
    rw [this]; omega
def SpP (l : List Int) : Prop := ∀ x ∈ l, 0 ≤ rdC x
instance (l : List Int) : Decidable (SpP l) := by unfold SpP; infer_instance
theorem SpP.at {l : List Int} (h : SpP l) {j : Nat} (hj : j < l.length) : 0 ≤ rdC (l.getD j 0) := by
  have : l.getD j 0 = l[j] := by simp [hj]
  rw [this]; exact h _ (List.getElem_mem hj)
theorem SpP.of {l : List Int} (h : ∀ j, j < l.length → 0 ≤ rdC (l.getD j 0)) : SpP l := fun x hx => by
  obtain ⟨j, hj, rfl⟩ := List.getElem_of_mem hx
  have := h j hj
  simpa [hj] using this
def letC (c : Int) : UInt8 := ltrS.getD (rdC c).toNat 0
def spT (l : List Int) : List UInt8 := l.map letC
theorem spT_len (l : List Int) : (spT l).length = l.length := by simp [spT]
theorem cut1 (k : Nat) (h : k < 16) : (ltrS.drop k).take 1 = [ltrS.getD k 0] := by
  have : k = 0 ∨ k = 1 ∨ k = 2 ∨ k = 3 ∨ k = 4 ∨ k = 5 ∨ k = 6 ∨ k = 7 ∨ k = 8 ∨ k = 9 ∨ k = 10 ∨ k = 11 ∨ k = 12 ∨ k = 13 ∨ k = 14 ∨ k = 15 := by omega
  rcases this with rfl | rfl | rfl | rfl | rfl | rfl | rfl | rfl | rfl | rfl | rfl | rfl | rfl | rfl | rfl | rfl <;> rfl
theorem cutL {k : Int} (h0 : 0 ≤ k) (h1 : k ≤ 15) : (ltrS.drop k.toNat).take ((k + 1).toNat - k.toNat) = [ltrS.getD k.toNat 0] := by
  rw [show (k + 1).toNat - k.toNat = 1 by omega, cut1 _ (by omega)]
set_option maxRecDepth 100000 in
theorem spec_l10Of (c : Int) (h0 : 0 ≤ c) (h1 : c ≤ 15) : PCalls Tryz.prog 60 [.int .i64 c] (· = [.val (.int .i64 (ltrT.getD c.toNat 0))]) := by
  have h := below_int (p := fun i => oneInt (crun Tf.tf noExt 200 6 60 [.int .i64 (Int.ofNat i)]) (ltrT.getD i 0)) (k := 16) (by kernel_rfl) h0 (by omega)
  have e : Int.ofNat c.toNat = c := Int.toNat_of_nonneg h0
  rw [e] at h
  exact pcalls_run Tf.tf (oneInt_ok h)
set_option maxRecDepth 4000 in
theorem spec_l10Place (b : UInt8) : PCalls Tryz.prog 61 [.int .u8 b.toNat] (· = [.val (.int .i64 (plB b))]) := by
  refine pcalls_of_code (n := 13) az Tryz.func61 (by kernel_rfl) rfl rfl (Nat.le_of_ble_eq_true rfl) (by intro t u h; simp [Tryz.f61] at h) ?_
  refine code_seq (fun K1 hK1 => ?_)
  refine code_region ?_
  refine list_cons rfl (op_q (q_assign rfl (by decide)) ?_)
  refine list_nil ?_
  refine hK1 _ ?_; clear hK1 K1
  refine code_seq (fun K2 hK2 => ?_)
  refine code_seq (fun K3 hK3 => ?_)
  refine code_region ?_
  refine list_cons rfl (op_q (q_assign rfl (by decide)) ?_)
  refine list_nil ?_
  refine hK3 _ ?_; clear hK3 K3
  refine code_block ?_
  refine code_loop (X := Int × Int) (fun x => [(0, .val (.int .u8 b.toNat)), (2, .val (.int .i64 x.1)), (3, .val (.int .i64 x.2))]) (fun x => 0 ≤ x.2 ∧ x.2 ≤ 16 ∧ ∀ j : Nat, j < x.2.toNat → ((ltrS.getD j 0).toNat : Int) ≠ b.toNat) (fun x => 16 - x.2.toNat) (_, _) (imp_covers ⟨rfl, rfl, rfl, trivial⟩) ?_ ?_
  · (try dsimp only)
    refine ⟨by omega, by omega, fun j hj => by simp at hj⟩
  · intro x hI
    obtain ⟨t2, k⟩ := x
    replace hI : 0 ≤ k ∧ k ≤ 16 ∧ ∀ j : Nat, j < k.toNat → ((ltrS.getD j 0).toNat : Int) ≠ b.toNat := hI
    show codeT _ _ _ [(0, .val (.int .u8 b.toNat)), (2, .val (.int .i64 t2)), (3, .val (.int .i64 k))] _
    obtain ⟨i1, i2, i3⟩ := hI
    have hL : ltrS.length = 16 := rfl
    refine code_seq (fun K4 hK4 => ?_)
    refine code_seq (fun K5 hK5 => ?_)
    refine code_region ?_
    refine list_cons rfl (op_q (q_move rfl (by decide)) ?_)
    refine list_cons rfl (op_q (q_lt rfl rfl (by decide)) ?_)
    refine list_nil ?_
    refine hK5 _ ?_; clear hK5 K5
    refine code_cond_d rfl (fun h1 => ?_) (fun h1 => ?_)
    · skip
      (try simp only [Decidable.not_not] at h1)
      refine code_skip ?_
      refine hK4 _ ?_; clear hK4 K4
      refine code_seq (fun K6 hK6 => ?_)
      refine code_block ?_
      refine code_seq (fun K7 hK7 => ?_)
      refine code_region ?_
      refine list_cons rfl (op_q (q_move rfl (by decide)) ?_)
      refine list_cons rfl (op_q (q_index_str Tryz.underlying9 rfl rfl (by omega) (by omega) (by decide)) ?_)
      refine list_cons rfl (op_q (q_move rfl (by decide)) ?_)
      refine list_cons rfl (op_q (q_eq rfl rfl (by decide)) ?_)
      refine list_nil ?_
      refine hK7 _ ?_; clear hK7 K7
      refine code_cond_d rfl (fun h2 => ?_) (fun h2 => ?_)
      · skip
        (try simp only [Decidable.not_not] at h2)
        refine code_seq (fun K8 hK8 => ?_)
        refine code_region ?_
        refine list_cons rfl (op_q (q_move rfl (by decide)) ?_)
        refine list_cons rfl (op_q (q_assign rfl (by decide)) ?_)
        refine list_nil ?_
        refine hK8 _ ?_; clear hK8 K8
        refine codeT.imp (σ' := [(0, _), (2, _), (3, _)]) ?_ (imp_covers ⟨rfl, rfl, rfl, trivial⟩)
        refine code_ret ?_
        refine blk_r ?_
        refine then_r ?_; clear hK6 K6
        refine then_r ?_
        refine blk_r ?_
        refine then_r ?_; clear hK2 K2
        refine ends_ret (cs := []) rfl rfl rfl rfl trivial ?_
        first
          | (rw [show plB b = k from plR_at (by omega) (by omega) h2]; done)
          | (rw [show plB b = -1 from plR_none fun j hj => i3 j (by omega)]; done)
      (try simp only [Decidable.not_not] at h2)
      refine code_skip ?_
      refine blk_n ?_
      refine hK6 _ ?_; clear hK6 K6
      refine code_region ?_
      refine list_cons rfl (op_q (q_move rfl (by decide)) ?_)
      refine list_cons rfl (op_q (by first | exact q_addI rfl rfl (by decide) (by omega) (by omega) | exact q_ib rfl rfl rfl (by decide)) ?_)
      refine list_cons rfl (op_q (q_assign rfl (by decide)) ?_)
      refine list_nil ?_
      refine then_n ⟨(_, _), imp_covers ⟨rfl, rfl, rfl, trivial⟩, ?_, ?_⟩
      · (try dsimp only)
        refine ⟨by omega, by omega, fun j hj => ?_⟩
        by_cases e : j = k.toNat
        · subst e; exact h2
        · exact i3 j (by omega)
      · (try dsimp only); omega
    (try simp only [Decidable.not_not] at h1)
    refine code_exit ?_
    refine then_x ?_; clear hK4 K4
    refine then_x ?_
    refine blk_hit ?_
    refine hK2 _ ?_; clear hK2 K2
    refine code_seq (fun K9 hK9 => ?_)
    refine code_region ?_
    refine list_cons rfl (op_q (q_assign rfl (by decide)) ?_)
    refine list_nil ?_
    refine hK9 _ ?_; clear hK9 K9
    refine code_ret ?_
    refine ends_ret (cs := []) rfl rfl rfl rfl trivial ?_
    first
      | (rw [show plB b = k from plR_at (by omega) (by omega) h1]; done)
      | (rw [show plB b = -1 from plR_none fun j hj => i3 j (by omega)]; done)
set_option maxRecDepth 4000 in
theorem spec_l10Read (c : Int) : PCalls Tryz.prog 63 [.int .i64 c] (· = [.val (.int .i64 (rdC c))]) := by
  refine pcalls_of_code (n := 13) az Tryz.func63 (by kernel_rfl) rfl rfl (Nat.le_of_ble_eq_true rfl) (by intro t u h; simp [Tryz.f63] at h) ?_
  refine code_seq (fun K1 hK1 => ?_)
  refine code_region ?_
  refine list_cons rfl (op_q (q_assign rfl (by decide)) ?_)
  refine list_nil ?_
  refine hK1 _ ?_; clear hK1 K1
  refine code_seq (fun K2 hK2 => ?_)
  refine code_seq (fun K3 hK3 => ?_)
  refine code_region ?_
  refine list_cons rfl (op_q (q_assign rfl (by decide)) ?_)
  refine list_nil ?_
  refine hK3 _ ?_; clear hK3 K3
  refine code_block ?_
  refine code_loop (X := Int × Int) (fun x => [(0, .val (.int .i64 c)), (2, .val (.int .i64 x.1)), (3, .val (.int .i64 x.2))]) (fun x => 0 ≤ x.2 ∧ x.2 ≤ 16 ∧ ∀ j : Nat, j < x.2.toNat → ltrT.getD j 0 ≠ c) (fun x => 16 - x.2.toNat) (_, _) (imp_covers ⟨rfl, rfl, rfl, trivial⟩) ?_ ?_
  · (try dsimp only)
    refine ⟨by omega, by omega, fun j hj => by simp at hj⟩
  · intro x hI
    obtain ⟨t2, k⟩ := x
    replace hI : 0 ≤ k ∧ k ≤ 16 ∧ ∀ j : Nat, j < k.toNat → ltrT.getD j 0 ≠ c := hI
    show codeT _ _ _ [(0, .val (.int .i64 c)), (2, .val (.int .i64 t2)), (3, .val (.int .i64 k))] _
    obtain ⟨i1, i2, i3⟩ := hI
    refine code_seq (fun K4 hK4 => ?_)
    refine code_seq (fun K5 hK5 => ?_)
    refine code_region ?_
    refine list_cons rfl (op_q (q_move rfl (by decide)) ?_)
    refine list_cons rfl (op_q (q_lt rfl rfl (by decide)) ?_)
    refine list_nil ?_
    refine hK5 _ ?_; clear hK5 K5
    refine code_cond_d rfl (fun h1 => ?_) (fun h1 => ?_)
    · skip
      (try simp only [Decidable.not_not] at h1)
      refine code_skip ?_
      refine hK4 _ ?_; clear hK4 K4
      refine code_seq (fun K6 hK6 => ?_)
      refine code_block ?_
      refine code_seq (fun K7 hK7 => ?_)
      refine code_region ?_
      refine list_cons rfl (op_q (q_move rfl (by decide)) ?_)
      refine list_cons rfl (op_call _ (spec_l10Of _ (by omega) (by omega)) rfl rfl (by decide) (by decide) (by decide) rfl ?_)
      rintro _ rfl
      refine list_cons rfl (op_q (q_move rfl (by decide)) ?_)
      refine list_cons rfl (op_q (q_eq rfl rfl (by decide)) ?_)
      refine list_nil ?_
      refine hK7 _ ?_; clear hK7 K7
      refine codeT.imp (σ' := [(0, _), (2, _), (3, _), (11, _)]) ?_ (imp_covers ⟨rfl, rfl, rfl, rfl, trivial⟩)
      refine code_cond_d rfl (fun h2 => ?_) (fun h2 => ?_)
      · skip
        (try simp only [Decidable.not_not] at h2)
        refine code_seq (fun K8 hK8 => ?_)
        refine code_region ?_
        refine list_cons rfl (op_q (q_move rfl (by decide)) ?_)
        refine list_cons rfl (op_q (q_assign rfl (by decide)) ?_)
        refine list_nil ?_
        refine hK8 _ ?_; clear hK8 K8
        refine code_ret ?_
        refine blk_r ?_
        refine then_r ?_; clear hK6 K6
        refine then_r ?_
        refine blk_r ?_
        refine then_r ?_; clear hK2 K2
        refine ends_ret (cs := []) rfl rfl rfl rfl trivial ?_
        first
          | (rw [rdC_at (by omega) (by omega) h2]; done)
          | (rw [rdC_none fun j hj => i3 j (by omega)]; done)
      (try simp only [Decidable.not_not] at h2)
      refine code_skip ?_
      refine blk_n ?_
      refine hK6 _ ?_; clear hK6 K6
      refine code_region ?_
      refine list_cons rfl (op_q (q_move rfl (by decide)) ?_)
      refine list_cons rfl (op_q (by first | exact q_addI rfl rfl (by decide) (by omega) (by omega) | exact q_ib rfl rfl rfl (by decide)) ?_)
      refine list_cons rfl (op_q (q_assign rfl (by decide)) ?_)
      refine list_nil ?_
      refine then_n ⟨(_, _), imp_covers ⟨rfl, rfl, rfl, trivial⟩, ?_, ?_⟩
      · (try dsimp only)
        refine ⟨by omega, by omega, fun j hj => ?_⟩
        by_cases e : j = k.toNat
        · subst e; exact h2
        · exact i3 j (by omega)
      · (try dsimp only); omega
    (try simp only [Decidable.not_not] at h1)
    refine code_exit ?_
    refine then_x ?_; clear hK4 K4
    refine then_x ?_
    refine blk_hit ?_
    refine hK2 _ ?_; clear hK2 K2
    refine code_seq (fun K9 hK9 => ?_)
    refine code_region ?_
    refine list_cons rfl (op_q (q_assign rfl (by decide)) ?_)
    refine list_nil ?_
    refine hK9 _ ?_; clear hK9 K9
    refine code_ret ?_
    refine ends_ret (cs := []) rfl rfl rfl rfl trivial ?_
    first
      | (rw [rdC_at (by omega) (by omega) h1]; done)
      | (rw [rdC_none fun j hj => i3 j (by omega)]; done)
set_option maxRecDepth 4000 in
theorem spec_l10Word (s : List UInt8) (m : Int) (hs : s.length ≤ 4611686018427387904) (h0 : 0 ≤ m) (h1 : m ≤ 1000) : PCalls Tryz.prog 36 [.str s, .int .i64 m] (· = [.val (.bool (decide (WrdP s m)))]) := by
  refine pcalls_of_code (n := 26) az Tryz.func36 (by kernel_rfl) rfl rfl (Nat.le_of_ble_eq_true rfl) (by intro t u h; simp [Tryz.f36] at h) ?_
  refine code_seq (fun K1 hK1 => ?_)
  refine code_region ?_
  refine list_cons rfl (op_q (q_assign rfl (by decide)) ?_)
  refine list_nil ?_
  refine hK1 _ ?_; clear hK1 K1
  refine code_seq (fun K2 hK2 => ?_)
  refine code_seq (fun K3 hK3 => ?_)
  refine code_region ?_
  refine list_cons rfl (op_q (q_assign rfl (by decide)) ?_)
  refine list_nil ?_
  refine hK3 _ ?_; clear hK3 K3
  refine code_block ?_
  refine code_loop (X := Bool × Int) (fun x => [(0, .val (.str s)), (1, .val (.int .i64 m)), (4, .val (.bool x.1)), (5, .val (.int .i64 x.2))]) (fun x => 0 ≤ x.2 ∧ x.2 ≤ s.length ∧ x.2 ≤ m + 1 ∧ ∀ j, j < x.2.toNat → 0 ≤ plB (s.getD j 0)) (fun x => s.length - x.2.toNat) (_, _) (imp_covers ⟨rfl, rfl, rfl, rfl, trivial⟩) ?_ ?_
  · (try dsimp only)
    refine ⟨by omega, by omega, by omega, fun j hj => by simp at hj⟩
  · intro x hI
    obtain ⟨t4, i⟩ := x
    replace hI : 0 ≤ i ∧ i ≤ s.length ∧ i ≤ m + 1 ∧ ∀ j, j < i.toNat → 0 ≤ plB (s.getD j 0) := hI
    show codeT _ _ _ [(0, .val (.str s)), (1, .val (.int .i64 m)), (4, .val (.bool t4)), (5, .val (.int .i64 i))] _
    obtain ⟨i1, i2, i2m, i3⟩ := hI
    refine code_seq (fun K4 hK4 => ?_)
    refine code_seq (fun K5 hK5 => ?_)
    refine code_region ?_
    refine list_cons rfl (op_q (q_move rfl (by decide)) ?_)
    refine list_cons rfl (op_q (q_move rfl (by decide)) ?_)
    refine list_cons rfl (op_q (q_len_str Tryz.underlying9 rfl (by decide)) ?_)
    refine list_cons rfl (op_q (q_lt rfl rfl (by decide)) ?_)
    refine list_cons rfl (op_q (q_move rfl (by decide)) ?_)
    refine list_guard_d rfl rfl rfl rfl (by decide) rfl (by decide) (fun h1 => ?_) (fun h1 => ?_)
    · simp only [Bool.false_eq_true, if_true, if_false, Decidable.not_not] at h1
      refine id (op_q (q_move rfl (by decide)) ?_)
      refine list_guard_y rfl rfl rfl rfl (by decide) rfl ?_
      refine id (op_q (q_move rfl (by decide)) ?_)
      refine list_guard_y rfl rfl rfl rfl (by decide) rfl ?_
      refine id (op_q (q_le rfl rfl (by decide)) ?_)
      refine list_cons rfl (op_q (q_pick rfl rfl (by decide)) ?_)
      refine list_nil ?_
      refine hK5 _ ?_; clear hK5 K5
      refine codeT.imp (σ' := [(0, _), (1, _), (4, _), (5, _), (14, _)]) ?_ (imp_covers ⟨rfl, rfl, rfl, rfl, rfl, trivial⟩)
      refine code_cond_d rfl (fun h2 => ?_) (fun h2 => ?_)
      · skip
        (try simp only [Decidable.not_not] at h2)
        refine code_skip ?_
        refine hK4 _ ?_; clear hK4 K4
        refine code_seq (fun K6 hK6 => ?_)
        refine code_block ?_
        refine code_seq (fun K7 hK7 => ?_)
        refine code_region ?_
        refine list_cons rfl (op_q (q_move rfl (by decide)) ?_)
        refine list_cons rfl (op_q (q_move rfl (by decide)) ?_)
        refine list_cons rfl (op_q (q_index_str Tryz.underlying9 rfl rfl (by omega) (by omega) (by decide)) ?_)
        refine list_cons rfl (op_call _ (spec_l10Place _) rfl rfl (by decide) (by decide) (by decide) rfl ?_)
        rintro _ rfl
        refine list_cons rfl (op_q (q_lt rfl rfl (by decide)) ?_)
        refine list_nil ?_
        refine hK7 _ ?_; clear hK7 K7
        refine codeT.imp (σ' := [(0, _), (1, _), (4, _), (5, _), (21, _)]) ?_ (imp_covers ⟨rfl, rfl, rfl, rfl, rfl, trivial⟩)
        refine code_cond_d rfl (fun h3 => ?_) (fun h3 => ?_)
        · skip
          (try simp only [Decidable.not_not] at h3)
          refine code_seq (fun K8 hK8 => ?_)
          refine code_region ?_
          refine list_cons rfl (op_q (q_assign rfl (by decide)) ?_)
          refine list_nil ?_
          refine hK8 _ ?_; clear hK8 K8
          refine code_ret ?_
          refine blk_r ?_
          refine then_r ?_; clear hK6 K6
          refine then_r ?_
          refine blk_r ?_
          refine then_r ?_; clear hK2 K2
          refine ends_ret (cs := []) rfl rfl rfl rfl trivial ?_
          first
            | (have e : ¬ WrdP s m := fun e => by have := e.2.at (j := i.toNat) (by omega); omega
               rw [decide_eq_false e]; done)
            | (have e : ((s.length : Int) ≤ m) ↔ WrdP s m := ⟨fun e => ⟨e, LtP.of fun j hj => i3 j (by omega)⟩, fun e => e.1⟩
               simp only [e]; done)
        (try simp only [Decidable.not_not] at h3)
        refine code_skip ?_
        refine blk_n ?_
        refine hK6 _ ?_; clear hK6 K6
        refine code_region ?_
        refine list_cons rfl (op_q (q_move rfl (by decide)) ?_)
        refine list_cons rfl (op_q (by first | exact q_addI rfl rfl (by decide) (by omega) (by omega) | exact q_ib rfl rfl rfl (by decide)) ?_)
        refine list_cons rfl (op_q (q_assign rfl (by decide)) ?_)
        refine list_nil ?_
        refine then_n ⟨(_, _), imp_covers ⟨rfl, rfl, rfl, rfl, trivial⟩, ?_, ?_⟩
        · (try dsimp only)
          refine ⟨by omega, by omega, by omega, fun j hj => ?_⟩
          by_cases e : j = i.toNat
          · subst e; omega
          · exact i3 j (by omega)
        · (try dsimp only); omega
      (try simp only [Decidable.not_not] at h2)
      refine code_exit ?_
      refine then_x ?_; clear hK4 K4
      refine then_x ?_
      refine blk_hit ?_
      refine hK2 _ ?_; clear hK2 K2
      refine code_seq (fun K9 hK9 => ?_)
      refine code_region ?_
      refine list_cons rfl (op_q (q_move rfl (by decide)) ?_)
      refine list_cons rfl (op_q (q_len_str Tryz.underlying9 rfl (by decide)) ?_)
      refine list_cons rfl (op_q (q_move rfl (by decide)) ?_)
      refine list_cons rfl (op_q (q_le rfl rfl (by decide)) ?_)
      refine list_cons rfl (op_q (q_assign rfl (by decide)) ?_)
      refine list_nil ?_
      refine hK9 _ ?_; clear hK9 K9
      refine code_ret ?_
      refine ends_ret (cs := []) rfl rfl rfl rfl trivial ?_
      first
        | (have e : ¬ WrdP s m := fun e => by have := e.2.at (j := i.toNat) (by omega); omega
           rw [decide_eq_false e]; done)
        | (have e : ((s.length : Int) ≤ m) ↔ WrdP s m := ⟨fun e => ⟨e, LtP.of fun j hj => i3 j (by omega)⟩, fun e => e.1⟩
           simp only [e]; done)
    simp only [Bool.false_eq_true, if_true, if_false, Decidable.not_not] at h1
    refine list_guard_n rfl rfl rfl rfl (by decide) rfl ?_
    refine list_guard_n rfl rfl rfl rfl (by decide) rfl ?_
    refine list_cons rfl (op_q (q_pick rfl rfl (by decide)) ?_)
    refine list_nil ?_
    refine hK5 _ ?_; clear hK5 K5
    refine code_cond_f rfl ?_
    refine code_exit ?_
    refine then_x ?_; clear hK4 K4
    refine then_x ?_
    refine blk_hit ?_
    refine hK2 _ ?_; clear hK2 K2
    refine code_seq (fun K10 hK10 => ?_)
    refine code_region ?_
    refine list_cons rfl (op_q (q_move rfl (by decide)) ?_)
    refine list_cons rfl (op_q (q_len_str Tryz.underlying9 rfl (by decide)) ?_)
    refine list_cons rfl (op_q (q_move rfl (by decide)) ?_)
    refine list_cons rfl (op_q (q_le rfl rfl (by decide)) ?_)
    refine list_cons rfl (op_q (q_assign rfl (by decide)) ?_)
    refine list_nil ?_
    refine hK10 _ ?_; clear hK10 K10
    refine codeT.imp (σ' := [(0, _), (1, _), (4, _), (5, _)]) ?_ (imp_covers ⟨rfl, rfl, rfl, rfl, trivial⟩)
    refine code_ret ?_
    refine ends_ret (cs := []) rfl rfl rfl rfl trivial ?_
    first
      | (have e : ¬ WrdP s m := fun e => by have := e.2.at (j := i.toNat) (by omega); omega
         rw [decide_eq_false e]; done)
      | (have e : ((s.length : Int) ≤ m) ↔ WrdP s m := ⟨fun e => ⟨e, LtP.of fun j hj => i3 j (by omega)⟩, fun e => e.1⟩
         simp only [e]; done)
set_option maxRecDepth 4000 in
theorem spec_LetterCell (s : List UInt8) (hs : s.length ≤ 4611686018427387904) : PCalls Tryz.prog 23 [.str s] (· = [.val (.int .i64 (if s.length = 1 ∧ LtP s then cellW (s.getD 0 0) else 0)), .val (.bool (decide (s.length = 1 ∧ LtP s)))]) := by
  refine pcalls_of_code (n := 16) az Tryz.func23 (by kernel_rfl) rfl rfl (Nat.le_of_ble_eq_true rfl) (by intro t u h; simp [Tryz.f23] at h) ?_
  have hpb := plB_le (s.getD 0 0)
  refine code_seq (fun K1 hK1 => ?_)
  refine code_region ?_
  refine list_cons rfl (op_q (q_assign rfl (by decide)) ?_)
  refine list_cons rfl (op_q (q_assign rfl (by decide)) ?_)
  refine list_nil ?_
  refine hK1 _ ?_; clear hK1 K1
  refine code_seq (fun K2 hK2 => ?_)
  refine code_seq (fun K3 hK3 => ?_)
  refine code_region ?_
  refine list_cons rfl (op_q (q_move rfl (by decide)) ?_)
  refine list_cons rfl (op_q (q_len_str Tryz.underlying9 rfl (by decide)) ?_)
  refine list_cons rfl (op_q (q_ne rfl rfl (by decide)) ?_)
  refine list_cons rfl (op_q (q_move rfl (by decide)) ?_)
  refine list_guard_d rfl rfl rfl rfl (by decide) rfl (by decide) (fun h1 => ?_) (fun h1 => ?_)
  · simp only [Bool.false_eq_true, if_true, if_false, Decidable.not_not] at h1
    (try simp only [Decidable.not_not] at h1); (try have hLt : LtP s := (h1 : WrdP s 1).2)
    refine id (op_q (q_move rfl (by decide)) ?_)
    refine list_guard_y rfl rfl rfl rfl (by decide) rfl ?_
    refine id (op_call _ (spec_l10Word _ _ (by first | omega | assumption) (by omega) (by omega)) rfl rfl (by decide) (by decide) (by decide) rfl ?_)
    rintro _ rfl
    refine list_guard_y rfl rfl rfl rfl (by decide) rfl ?_
    refine id (op_q (by first | exact q_notd rfl (by decide) | exact q_not rfl (by decide)) ?_)
    refine list_cons rfl (op_q (q_pick rfl rfl (by decide)) ?_)
    refine list_nil ?_
    refine hK3 _ ?_; clear hK3 K3
    refine codeT.imp (σ' := [(0, _), (2, _), (3, _), (11, _)]) ?_ (imp_covers ⟨rfl, rfl, rfl, rfl, trivial⟩)
    refine code_cond_d rfl (fun h2 => ?_) (fun h2 => ?_)
    · skip
      (try simp only [Decidable.not_not] at h2); (try have hLt : LtP s := (h2 : WrdP s 1).2)
      refine code_seq (fun K4 hK4 => ?_)
      refine code_region ?_
      refine list_cons rfl (op_q (q_assign rfl (by decide)) ?_)
      refine list_cons rfl (op_q (q_assign rfl (by decide)) ?_)
      refine list_nil ?_
      refine hK4 _ ?_; clear hK4 K4
      refine code_ret ?_
      refine then_r ?_; clear hK2 K2
      refine ends_ret (cs := []) rfl rfl rfl rfl trivial ?_
      first
        | (have e : ¬ (s.length = 1 ∧ LtP s) := fun e => absurd (by omega) h2
           simp only [if_neg e, decide_eq_false e]; done)
        | (have e : ¬ (s.length = 1 ∧ LtP s) := fun e => absurd (⟨by omega, e.2⟩ : WrdP s 1) h2
           simp only [if_neg e, decide_eq_false e]; done)
        | (have e : s.length = 1 ∧ LtP s := ⟨by omega, hLt⟩
           simp only [if_pos e, decide_eq_true e]; first | done | rfl)
    (try simp only [Decidable.not_not] at h2); (try have hLt : LtP s := (h2 : WrdP s 1).2)
    refine code_skip ?_
    refine hK2 _ ?_; clear hK2 K2
    refine code_seq (fun K5 hK5 => ?_)
    refine code_region ?_
    refine list_cons rfl (op_q (q_move rfl (by decide)) ?_)
    refine list_cons rfl (op_q (q_index_str Tryz.underlying9 rfl rfl (by omega) (by omega) (by decide)) ?_)
    refine list_cons rfl (op_call _ (spec_l10Place _) rfl rfl (by decide) (by decide) (by decide) rfl ?_)
    rintro _ rfl
    refine list_cons rfl (op_call _ (spec_l10Of _ (LtP.at (by assumption) (by omega)) hpb.2) rfl rfl (by decide) (by decide) (by decide) rfl ?_)
    rintro _ rfl
    refine list_cons rfl (op_q (q_assign rfl (by decide)) ?_)
    refine list_cons rfl (op_q (q_assign rfl (by decide)) ?_)
    refine list_nil ?_
    refine hK5 _ ?_; clear hK5 K5
    refine codeT.imp (σ' := [(0, _), (2, _), (3, _)]) ?_ (imp_covers ⟨rfl, rfl, rfl, trivial⟩)
    refine code_ret ?_
    refine ends_ret (cs := []) rfl rfl rfl rfl trivial ?_
    first
      | (have e : ¬ (s.length = 1 ∧ LtP s) := fun e => absurd (by omega) h2
         simp only [if_neg e, decide_eq_false e]; done)
      | (have e : ¬ (s.length = 1 ∧ LtP s) := fun e => absurd (⟨by omega, e.2⟩ : WrdP s 1) h2
         simp only [if_neg e, decide_eq_false e]; done)
      | (have e : s.length = 1 ∧ LtP s := ⟨by omega, hLt⟩
         simp only [if_pos e, decide_eq_true e]; first | done | rfl)
  simp only [Bool.false_eq_true, if_true, if_false, Decidable.not_not] at h1
  (try simp only [Decidable.not_not] at h1); (try have hLt : LtP s := (h1 : WrdP s 1).2)
  refine list_guard_n rfl rfl rfl rfl (by decide) rfl ?_
  refine list_guard_n rfl rfl rfl rfl (by decide) rfl ?_
  refine list_cons rfl (op_q (q_pick rfl rfl (by decide)) ?_)
  refine list_nil ?_
  refine hK3 _ ?_; clear hK3 K3
  refine code_cond_t rfl ?_
  refine code_seq (fun K6 hK6 => ?_)
  refine code_region ?_
  refine list_cons rfl (op_q (q_assign rfl (by decide)) ?_)
  refine list_cons rfl (op_q (q_assign rfl (by decide)) ?_)
  refine list_nil ?_
  refine hK6 _ ?_; clear hK6 K6
  refine code_ret ?_
  refine then_r ?_; clear hK2 K2
  refine ends_ret (cs := []) rfl rfl rfl rfl trivial ?_
  first
    | (have e : ¬ (s.length = 1 ∧ LtP s) := fun e => absurd (by omega) h1
       simp only [if_neg e, decide_eq_false e]; done)
    | (have e : ¬ (s.length = 1 ∧ LtP s) := fun e => absurd (⟨by omega, e.2⟩ : WrdP s 1) h1
       simp only [if_neg e, decide_eq_false e]; done)
    | (have e : s.length = 1 ∧ LtP s := ⟨by omega, hLt⟩
       simp only [if_pos e, decide_eq_true e]; first | done | rfl)
set_option maxRecDepth 4000 in
theorem spec_LetterOf (c : Int) : PCalls Tryz.prog 26 [.int .i64 c] (· = [.val (.str (if 0 ≤ rdC c then [letC c] else [])), .val (.bool (decide (0 ≤ rdC c)))]) := by
  refine pcalls_of_code (n := 13) az Tryz.func26 (by kernel_rfl) rfl rfl (Nat.le_of_ble_eq_true rfl) (by intro t u h; simp [Tryz.f26] at h) ?_
  have hrd := rdC_le c
  refine code_seq (fun K1 hK1 => ?_)
  refine code_region ?_
  refine list_cons rfl (op_q (q_assign rfl (by decide)) ?_)
  refine list_cons rfl (op_q (q_assign rfl (by decide)) ?_)
  refine list_nil ?_
  refine hK1 _ ?_; clear hK1 K1
  refine code_seq (fun K2 hK2 => ?_)
  refine code_region ?_
  refine list_cons rfl (op_q (q_move rfl (by decide)) ?_)
  refine list_cons rfl (op_call _ (spec_l10Read _) rfl rfl (by decide) (by decide) (by decide) rfl ?_)
  rintro _ rfl
  refine list_cons rfl (op_q (q_assign rfl (by decide)) ?_)
  refine list_nil ?_
  refine hK2 _ ?_; clear hK2 K2
  refine codeT.imp (σ' := [(0, _), (2, _), (3, _), (4, _)]) ?_ (imp_covers ⟨rfl, rfl, rfl, rfl, trivial⟩)
  refine code_seq (fun K3 hK3 => ?_)
  refine code_seq (fun K4 hK4 => ?_)
  refine code_region ?_
  refine list_cons rfl (op_q (q_move rfl (by decide)) ?_)
  refine list_cons rfl (op_q (q_lt rfl rfl (by decide)) ?_)
  refine list_nil ?_
  refine hK4 _ ?_; clear hK4 K4
  refine code_cond_d rfl (fun h1 => ?_) (fun h1 => ?_)
  · skip
    (try simp only [Decidable.not_not] at h1)
    refine code_seq (fun K5 hK5 => ?_)
    refine code_region ?_
    refine list_cons rfl (op_q (q_assign rfl (by decide)) ?_)
    refine list_cons rfl (op_q (q_assign rfl (by decide)) ?_)
    refine list_nil ?_
    refine hK5 _ ?_; clear hK5 K5
    refine code_ret ?_
    refine then_r ?_; clear hK3 K3
    refine ends_ret (cs := []) rfl rfl rfl rfl trivial ?_
    first
      | (have e : ¬ 0 ≤ rdC c := by omega
         simp only [if_neg e, decide_eq_false e]; done)
      | (have e : 0 ≤ rdC c := by omega
         simp only [if_pos e, decide_eq_true e, ← cutL e hrd.2, letC]; first | done | rfl)
  (try simp only [Decidable.not_not] at h1)
  refine code_skip ?_
  refine hK3 _ ?_; clear hK3 K3
  refine code_seq (fun K6 hK6 => ?_)
  refine code_region ?_
  refine list_cons rfl (op_q (q_move rfl (by decide)) ?_)
  refine list_cons rfl (op_q (q_move rfl (by decide)) ?_)
  refine list_cons rfl (op_q (by first | exact q_addI rfl rfl (by decide) (by omega) (by omega) | exact q_ib rfl rfl rfl (by decide)) ?_)
  refine list_cons rfl (op_q (q_slice_str Tryz.underlying9 rfl ⟨_, rfl⟩ ⟨_, rfl⟩ (by first | omega | (show _ ≤ ((16 : Nat) : Int); omega)) (by first | omega | (show _ ≤ ((16 : Nat) : Int); omega)) (by first | omega | (show _ ≤ ((16 : Nat) : Int); omega)) (by decide)) ?_)
  refine list_cons rfl (op_q (q_assign rfl (by decide)) ?_)
  refine list_cons rfl (op_q (q_assign rfl (by decide)) ?_)
  refine list_nil ?_
  refine hK6 _ ?_; clear hK6 K6
  refine code_ret ?_
  refine ends_ret (cs := []) rfl rfl rfl rfl trivial ?_
  first
    | (have e : ¬ 0 ≤ rdC c := by omega
       simp only [if_neg e, decide_eq_false e]; done)
    | (have e : 0 ≤ rdC c := by omega
       simp only [if_pos e, decide_eq_true e, ← cutL e hrd.2, letC]; first | done | rfl)
set_option maxRecDepth 4000 in
theorem spec_l10Row (s : List UInt8) (h : LtP s) (hl : s.length ≤ 1000) : PCalls Tryz.prog 37 [.str s] (· = [.own 0 3 1 (rowW s).length ((rowW s).map (.int .i64))]) := by
  refine pcalls_of_code (n := 21) az Tryz.func37 (by kernel_rfl) rfl rfl (Nat.le_of_ble_eq_true rfl) (by intro t u h; simp [Tryz.f37] at h) ?_
  refine code_seq (fun K1 hK1 => ?_)
  refine code_region ?_
  refine list_cons rfl (op_q (q_assign rfl (by decide)) ?_)
  refine list_nil ?_
  refine hK1 _ ?_; clear hK1 K1
  refine code_seq (fun K2 hK2 => ?_)
  refine code_region ?_
  refine list_cons rfl (op_buildSlice sl_25 (parts := []) rfl rfl rfl (by decide) (by decide) (by decide) rfl ?_)
  refine list_cons rfl (op_q (q_assign rfl (by decide)) ?_)
  refine list_nil ?_
  refine hK2 _ ?_; clear hK2 K2
  refine code_seq (fun K3 hK3 => ?_)
  refine code_seq (fun K4 hK4 => ?_)
  refine code_region ?_
  refine list_cons rfl (op_q (q_assign rfl (by decide)) ?_)
  refine list_nil ?_
  refine hK4 _ ?_; clear hK4 K4
  refine code_block ?_
  refine code_loop (X := PV × Nat × List PV × Int) (fun x => [(0, .val (.str s)), (2, .val x.1), (3, .own 5 3 1 x.2.1 x.2.2.1), (4, .val (.int .i64 x.2.2.2))]) (fun x => 0 ≤ x.2.2.2 ∧ x.2.2.2 ≤ s.length ∧ x.2.1 = x.2.2.2.toNat ∧ x.2.2.1 = (rowW (s.take x.2.2.2.toNat)).map (.int .i64)) (fun x => s.length - x.2.2.2.toNat) (_, _, _, _) (imp_covers ⟨rfl, rfl, rfl, rfl, trivial⟩) ?_ ?_
  · (try dsimp only)
    exact ⟨by omega, by omega, rfl, rfl⟩
  · intro x hI
    obtain ⟨t2_p, out_n, out_c, i⟩ := x
    replace hI : 0 ≤ i ∧ i ≤ s.length ∧ out_n = i.toNat ∧ out_c = (rowW (s.take i.toNat)).map (.int .i64) := hI
    show codeT _ _ _ [(0, .val (.str s)), (2, .val t2_p), (3, .own 5 3 1 out_n out_c), (4, .val (.int .i64 i))] _
    obtain ⟨i1, i2, rfl, rfl⟩ := hI
    have hpb := plB_le (s.getD i.toNat 0)
    have hp0 := fun e : i < s.length => h.at (j := i.toNat) (by omega)
    have hlw : (rowW (s.take i.toNat)).length = i.toNat := by rw [rowW_len, List.length_take]; omega
    refine code_seq (fun K5 hK5 => ?_)
    refine code_seq (fun K6 hK6 => ?_)
    refine code_region ?_
    refine list_cons rfl (op_q (q_move rfl (by decide)) ?_)
    refine list_cons rfl (op_q (q_move rfl (by decide)) ?_)
    refine list_cons rfl (op_q (q_len_str Tryz.underlying9 rfl (by decide)) ?_)
    refine list_cons rfl (op_q (q_lt rfl rfl (by decide)) ?_)
    refine list_nil ?_
    refine hK6 _ ?_; clear hK6 K6
    refine code_cond_d rfl (fun h1 => ?_) (fun h1 => ?_)
    · skip
      (try simp only [Decidable.not_not] at h1)
      refine code_skip ?_
      refine hK5 _ ?_; clear hK5 K5
      refine code_seq (fun K7 hK7 => ?_)
      refine code_block ?_
      refine code_region ?_
      refine list_cons rfl (op_q (q_move rfl (by decide)) ?_)
      refine list_cons rfl (op_q (q_move rfl (by decide)) ?_)
      refine list_cons rfl (op_q (q_move rfl (by decide)) ?_)
      refine list_cons rfl (op_q (q_index_str Tryz.underlying9 rfl rfl (by omega) (by omega) (by decide)) ?_)
      refine list_cons rfl (op_call _ (spec_l10Place _) rfl rfl (by decide) (by decide) (by decide) rfl ?_)
      rintro _ rfl
      refine list_cons rfl (op_call _ (spec_l10Of _ (hp0 (by omega)) hpb.2) rfl rfl (by decide) (by decide) (by decide) rfl ?_)
      rintro _ rfl
      refine list_cons rfl (op_buildSlice sl_25 (parts := [(0, .tmp 17)]) rfl rfl rfl (by decide) (by decide) (by decide) rfl ?_)
      refine list_cons rfl (op_append_gen sl_25 (l := 5) (.inl rfl) rfl rfl (l2 := none) (.inl ⟨rfl, (by first | rfl | exact flat_map _ (fun _ => rfl) _)⟩) (by first | rfl | (simp; done) | (simp; omega)) (by omega) (by decide) (by decide) (by decide) ?_)
      refine list_cons rfl (op_q (q_assign rfl (by decide)) ?_)
      refine list_nil ?_
      refine blk_n ?_
      refine hK7 _ ?_; clear hK7 K7
      refine codeT.imp (σ' := [(0, _), (2, _), (3, _), (4, _)]) ?_ (imp_covers ⟨rfl, rfl, rfl, rfl, trivial⟩)
      refine code_region ?_
      refine list_cons rfl (op_q (q_move rfl (by decide)) ?_)
      refine list_cons rfl (op_q (by first | exact q_addI rfl rfl (by decide) (by omega) (by omega) | exact q_ib rfl rfl rfl (by decide)) ?_)
      refine list_cons rfl (op_q (q_assign rfl (by decide)) ?_)
      refine list_nil ?_
      refine then_n ⟨(_, _, _, _), imp_covers ⟨rfl, rfl, rfl, rfl, trivial⟩, ?_, ?_⟩
      · (try dsimp only)
        refine ⟨by omega, by omega, by omega, ?_⟩
        rw [show (i + 1).toNat = i.toNat + 1 by omega, take_snocI 0 s i.toNat (by omega)]
        unfold rowW
        rw [List.map_append, List.map_append]; rfl
      · (try dsimp only); omega
    (try simp only [Decidable.not_not] at h1)
    refine code_exit ?_
    refine then_x ?_; clear hK5 K5
    refine then_x ?_
    refine blk_hit ?_
    refine hK3 _ ?_; clear hK3 K3
    refine code_seq (fun K8 hK8 => ?_)
    refine code_region ?_
    refine list_cons rfl (op_q (q_move rfl (by decide)) ?_)
    refine list_cons rfl (op_q (q_assign rfl (by decide)) ?_)
    refine list_nil ?_
    refine hK8 _ ?_; clear hK8 K8
    refine code_ret ?_
    refine ends_ret (cs := []) rfl rfl rfl rfl trivial ?_
    have e : i.toNat = s.length := by omega
    rw [e, List.take_length, rowW_len]
set_option maxRecDepth 4000 in
theorem spec_RowOfWord (s : List UInt8) (hs : s.length ≤ 4611686018427387904) : PCalls Tryz.prog 7 [.str s] (· = [.own 0 3 1 (if WrdP s 6 then rowW s else []).length ((if WrdP s 6 then rowW s else []).map (.int .i64)), .val (.bool (decide (WrdP s 6)))]) := by
  refine pcalls_of_code (n := 10) az Tryz.func7 (by kernel_rfl) rfl rfl (Nat.le_of_ble_eq_true rfl) (by intro t u h; simp [Tryz.f7] at h) ?_
  refine code_seq (fun K1 hK1 => ?_)
  refine code_region ?_
  refine list_cons rfl (op_q (q_assign rfl (by decide)) ?_)
  refine list_cons rfl (op_q (q_assign rfl (by decide)) ?_)
  refine list_nil ?_
  refine hK1 _ ?_; clear hK1 K1
  refine code_seq (fun K2 hK2 => ?_)
  refine code_seq (fun K3 hK3 => ?_)
  refine code_region ?_
  refine list_cons rfl (op_q (q_move rfl (by decide)) ?_)
  refine list_cons rfl (op_call _ (spec_l10Word _ _ (by first | omega | assumption) (by omega) (by omega)) rfl rfl (by decide) (by decide) (by decide) rfl ?_)
  rintro _ rfl
  refine list_cons rfl (op_q (by first | exact q_notd rfl (by decide) | exact q_not rfl (by decide)) ?_)
  refine list_nil ?_
  refine hK3 _ ?_; clear hK3 K3
  refine codeT.imp (σ' := [(0, _), (2, _), (3, _), (6, _)]) ?_ (imp_covers ⟨rfl, rfl, rfl, rfl, trivial⟩)
  refine code_cond_d rfl (fun h1 => ?_) (fun h1 => ?_)
  · skip
    (try simp only [Decidable.not_not] at h1)
    refine code_seq (fun K4 hK4 => ?_)
    refine code_region ?_
    refine list_cons rfl (op_buildSlice sl_25 (parts := []) rfl rfl rfl (by decide) (by decide) (by decide) rfl ?_)
    refine list_cons rfl (op_q (q_assign rfl (by decide)) ?_)
    refine list_cons rfl (op_q (q_assign rfl (by decide)) ?_)
    refine list_nil ?_
    refine hK4 _ ?_; clear hK4 K4
    refine code_ret ?_
    refine then_r ?_; clear hK2 K2
    refine ends_ret (cs := []) rfl rfl rfl rfl trivial ?_
    simp only [if_neg h1, decide_eq_false h1]; rfl
  (try simp only [Decidable.not_not] at h1)
  refine code_skip ?_
  refine hK2 _ ?_; clear hK2 K2
  refine code_seq (fun K5 hK5 => ?_)
  refine code_region ?_
  refine list_cons rfl (op_q (q_move rfl (by decide)) ?_)
  refine list_cons rfl (op_call _ (spec_l10Row s h1.2 (by have := h1.1; omega)) rfl rfl (by decide) (by decide) (by decide) rfl ?_)
  rintro _ rfl
  refine list_cons rfl (op_q (q_assign rfl (by decide)) ?_)
  refine list_cons rfl (op_q (q_assign rfl (by decide)) ?_)
  refine list_nil ?_
  refine hK5 _ ?_; clear hK5 K5
  refine codeT.imp (σ' := [(0, _), (2, _), (3, _)]) ?_ (imp_covers ⟨rfl, rfl, rfl, trivial⟩)
  refine code_ret ?_
  refine ends_ret (cs := []) rfl rfl rfl rfl trivial ?_
  simp only [if_pos h1, decide_eq_true h1]
set_option maxRecDepth 4000 in
theorem spec_l10Spelt (l : List Int) (hl : l.length ≤ 1000) : PCalls Tryz.prog 45 [.sl l.length (l.map (.int .i64))] (· = [.val (.str (if SpP l then spT l else [])), .val (.bool (decide (SpP l)))]) := by
  refine pcalls_of_code (n := 27) az Tryz.func45 (by kernel_rfl) rfl rfl (Nat.le_of_ble_eq_true rfl) (by intro t u h; simp [Tryz.f45] at h) ?_
  refine code_seq (fun K1 hK1 => ?_)
  refine code_region ?_
  refine list_cons rfl (op_q (q_assign rfl (by decide)) ?_)
  refine list_cons rfl (op_q (q_assign rfl (by decide)) ?_)
  refine list_nil ?_
  refine hK1 _ ?_; clear hK1 K1
  refine code_seq (fun K2 hK2 => ?_)
  refine code_region ?_
  refine list_cons rfl (op_q (q_assign rfl (by decide)) ?_)
  refine list_nil ?_
  refine hK2 _ ?_; clear hK2 K2
  refine code_seq (fun K3 hK3 => ?_)
  refine code_seq (fun K4 hK4 => ?_)
  refine code_region ?_
  refine list_cons rfl (op_q (q_assign rfl (by decide)) ?_)
  refine list_nil ?_
  refine hK4 _ ?_; clear hK4 K4
  refine code_block ?_
  refine code_loop (X := List UInt8 × Bool × List UInt8 × Int) (fun x => [(0, .par 0 (.sl l.length (l.map (.int .i64)))), (2, .val (.str x.1)), (3, .val (.bool x.2.1)), (4, .val (.str x.2.2.1)), (5, .val (.int .i64 x.2.2.2))]) (fun x => 0 ≤ x.2.2.2 ∧ x.2.2.2 ≤ l.length ∧ x.2.2.1 = spT (l.take x.2.2.2.toNat) ∧ ∀ j, j < x.2.2.2.toNat → 0 ≤ rdC (l.getD j 0)) (fun x => l.length - x.2.2.2.toNat) (_, _, _, _) (imp_covers ⟨rfl, rfl, rfl, rfl, rfl, trivial⟩) ?_ ?_
  · (try dsimp only)
    exact ⟨by omega, by omega, rfl, fun j hj => by simp at hj⟩
  · intro x hI
    obtain ⟨t2, t3, s, i⟩ := x
    replace hI : 0 ≤ i ∧ i ≤ l.length ∧ s = spT (l.take i.toNat) ∧ ∀ j, j < i.toNat → 0 ≤ rdC (l.getD j 0) := hI
    show codeT _ _ _ [(0, .par 0 (.sl l.length (l.map (.int .i64)))), (2, .val (.str t2)), (3, .val (.bool t3)), (4, .val (.str s)), (5, .val (.int .i64 i))] _
    obtain ⟨i1, i2, rfl, i3⟩ := hI
    have hrd := rdC_le (l.getD i.toNat 0)
    have hL : ltrS.length = 16 := rfl
    have hsl : (spT (l.take i.toNat)).length = i.toNat := by rw [spT_len, List.length_take]; omega
    refine code_seq (fun K5 hK5 => ?_)
    refine code_seq (fun K6 hK6 => ?_)
    refine code_region ?_
    refine list_cons rfl (op_q (q_move rfl (by decide)) ?_)
    refine list_cons rfl (op_q (q_move rfl (by decide)) ?_)
    refine list_cons rfl (op_q (q_len_sl Tryz.underlying25 rfl rfl (by decide)) ?_)
    refine list_cons rfl (op_q (q_lt rfl rfl (by decide)) ?_)
    refine list_nil ?_
    refine hK6 _ ?_; clear hK6 K6
    refine code_cond_d rfl (fun h1 => ?_) (fun h1 => ?_)
    · skip
      (try simp only [Decidable.not_not] at h1)
      refine code_skip ?_
      refine hK5 _ ?_; clear hK5 K5
      refine code_seq (fun K7 hK7 => ?_)
      refine code_block ?_
      refine code_seq (fun K8 hK8 => ?_)
      refine code_region ?_
      refine list_cons rfl (op_q (q_move rfl (by decide)) ?_)
      refine list_cons rfl (op_q (q_move rfl (by decide)) ?_)
      refine list_cons rfl (op_q (q_indexAddr_rd sl_25 rfl (.inl ⟨_, rfl, rfl⟩) rfl (by omega) (by omega) (by decide)) ?_)
      refine list_cons rfl (op_q (q_load_rd one_3 rfl (.inl ⟨_, (by first | rfl | exact congrArg (SV.rpar _) (drop_map1 _ 0 _ (by first | omega | (simp; omega)))), rfl⟩) (by decide)) ?_)
      refine list_cons rfl (op_call _ (spec_l10Read _) rfl rfl (by decide) (by decide) (by decide) rfl ?_)
      rintro _ rfl
      refine list_cons rfl (op_q (q_assign rfl (by decide)) ?_)
      refine list_nil ?_
      refine hK8 _ ?_; clear hK8 K8
      refine codeT.imp (σ' := [(0, _), (2, _), (3, _), (4, _), (5, _), (6, _)]) ?_ (imp_covers ⟨rfl, rfl, rfl, rfl, rfl, rfl, trivial⟩)
      refine code_seq (fun K9 hK9 => ?_)
      refine code_seq (fun K10 hK10 => ?_)
      refine code_region ?_
      refine list_cons rfl (op_q (q_move rfl (by decide)) ?_)
      refine list_cons rfl (op_q (q_lt rfl rfl (by decide)) ?_)
      refine list_nil ?_
      refine hK10 _ ?_; clear hK10 K10
      refine code_cond_d rfl (fun h2 => ?_) (fun h2 => ?_)
      · skip
        (try simp only [Decidable.not_not] at h2)
        refine code_seq (fun K11 hK11 => ?_)
        refine code_region ?_
        refine list_cons rfl (op_q (q_assign rfl (by decide)) ?_)
        refine list_cons rfl (op_q (q_assign rfl (by decide)) ?_)
        refine list_nil ?_
        refine hK11 _ ?_; clear hK11 K11
        refine code_ret ?_
        refine then_r ?_; clear hK9 K9
        refine blk_r ?_
        refine then_r ?_; clear hK7 K7
        refine then_r ?_
        refine blk_r ?_
        refine then_r ?_; clear hK3 K3
        refine ends_ret (cs := []) rfl rfl rfl rfl trivial ?_
        first
          | (have e : ¬ SpP l := fun e => by have := e.at (j := i.toNat) (by omega); omega
             simp only [if_neg e, decide_eq_false e]; done)
          | (have e : SpP l := SpP.of fun j hj => i3 j (by omega)
             simp only [if_pos e, decide_eq_true e, List.take_of_length_le (show l.length ≤ i.toNat by omega)]; done)
      (try simp only [Decidable.not_not] at h2)
      refine code_skip ?_
      refine hK9 _ ?_; clear hK9 K9
      refine code_region ?_
      refine list_cons rfl (op_q (q_move rfl (by decide)) ?_)
      refine list_cons rfl (op_q (q_move rfl (by decide)) ?_)
      refine list_cons rfl (op_q (q_move rfl (by decide)) ?_)
      refine list_cons rfl (op_q (by first | exact q_addI rfl rfl (by decide) (by omega) (by omega) | exact q_ib rfl rfl rfl (by decide)) ?_)
      refine list_cons rfl (op_q (q_slice_str Tryz.underlying9 rfl ⟨_, rfl⟩ ⟨_, rfl⟩ (by first | omega | (show _ ≤ ((16 : Nat) : Int); omega)) (by first | omega | (show _ ≤ ((16 : Nat) : Int); omega)) (by first | omega | (show _ ≤ ((16 : Nat) : Int); omega)) (by decide)) ?_)
      refine list_cons rfl (op_q (q_cat rfl rfl (by first | omega | (simp only [List.length_append, List.length_cons, List.length_nil]; omega) | (simp; omega)) (by decide)) ?_)
      refine list_cons rfl (op_q (q_assign rfl (by decide)) ?_)
      refine list_nil ?_
      refine blk_n ?_
      refine hK7 _ ?_; clear hK7 K7
      refine codeT.imp (σ' := [(0, _), (2, _), (3, _), (4, _), (5, _), (6, _)]) ?_ (imp_covers ⟨rfl, rfl, rfl, rfl, rfl, rfl, trivial⟩)
      refine code_region ?_
      refine list_cons rfl (op_q (q_move rfl (by decide)) ?_)
      refine list_cons rfl (op_q (by first | exact q_addI rfl rfl (by decide) (by omega) (by omega) | exact q_ib rfl rfl rfl (by decide)) ?_)
      refine list_cons rfl (op_q (q_assign rfl (by decide)) ?_)
      refine list_nil ?_
      refine then_n ⟨(_, _, _, _), imp_covers ⟨rfl, rfl, rfl, rfl, rfl, trivial⟩, ?_, ?_⟩
      · (try dsimp only)
        have hk0 : 0 ≤ rdC (l.getD i.toNat 0) := by omega
        refine ⟨by omega, by omega, ?_, fun j hj => ?_⟩
        · rw [show (i + 1).toNat = i.toNat + 1 by omega, show spT (l.take (i.toNat + 1)) = spT (l.take i.toNat) ++ [letC (l.getD i.toNat 0)] from map_take letC 0 l (by omega)]
          exact congrArg (spT (l.take i.toNat) ++ ·) (cutL hk0 hrd.2)
        · by_cases e : j = i.toNat
          · subst e; omega
          · exact i3 j (by omega)
      · (try dsimp only); omega
    (try simp only [Decidable.not_not] at h1)
    refine code_exit ?_
    refine then_x ?_; clear hK5 K5
    refine then_x ?_
    refine blk_hit ?_
    refine hK3 _ ?_; clear hK3 K3
    refine code_seq (fun K12 hK12 => ?_)
    refine code_region ?_
    refine list_cons rfl (op_q (q_move rfl (by decide)) ?_)
    refine list_cons rfl (op_q (q_assign rfl (by decide)) ?_)
    refine list_cons rfl (op_q (q_assign rfl (by decide)) ?_)
    refine list_nil ?_
    refine hK12 _ ?_; clear hK12 K12
    refine code_ret ?_
    refine ends_ret (cs := []) rfl rfl rfl rfl trivial ?_
    first
      | (have e : ¬ SpP l := fun e => by have := e.at (j := i.toNat) (by omega); omega
         simp only [if_neg e, decide_eq_false e]; done)
      | (have e : SpP l := SpP.of fun j hj => i3 j (by omega)
         simp only [if_pos e, decide_eq_true e, List.take_of_length_le (show l.length ≤ i.toNat by omega)]; done)
set_option maxRecDepth 4000 in
theorem spec_WordOfRow (l : List Int) (hl : l.length ≤ 4611686018427387904) : PCalls Tryz.prog 11 [.sl l.length (l.map (.int .i64))] (· = [.val (.str (if RowP l ∧ SpP l then spT l else [])), .val (.bool (decide (RowP l ∧ SpP l)))]) := by
  refine pcalls_of_code (n := 11) az Tryz.func11 (by kernel_rfl) rfl rfl (Nat.le_of_ble_eq_true rfl) (by intro t u h; simp [Tryz.f11] at h) ?_
  refine code_seq (fun K1 hK1 => ?_)
  refine code_region ?_
  refine list_cons rfl (op_q (q_assign rfl (by decide)) ?_)
  refine list_cons rfl (op_q (q_assign rfl (by decide)) ?_)
  refine list_nil ?_
  refine hK1 _ ?_; clear hK1 K1
  refine code_seq (fun K2 hK2 => ?_)
  refine code_seq (fun K3 hK3 => ?_)
  refine code_region ?_
  refine list_cons rfl (op_q (q_move rfl (by decide)) ?_)
  refine list_cons rfl (op_call _ (spec_l2Row _ (by first | omega | (simp; omega))) rfl rfl (by decide) (by decide) (by decide) rfl ?_)
  rintro _ rfl
  refine list_cons rfl (op_q (by first | exact q_notd rfl (by decide) | exact q_not rfl (by decide)) ?_)
  refine list_nil ?_
  refine hK3 _ ?_; clear hK3 K3
  refine codeT.imp (σ' := [(0, _), (2, _), (3, _), (6, _)]) ?_ (imp_covers ⟨rfl, rfl, rfl, rfl, trivial⟩)
  refine code_cond_d rfl (fun h1 => ?_) (fun h1 => ?_)
  · skip
    (try simp only [Decidable.not_not] at h1)
    refine code_seq (fun K4 hK4 => ?_)
    refine code_region ?_
    refine list_cons rfl (op_q (q_assign rfl (by decide)) ?_)
    refine list_cons rfl (op_q (q_assign rfl (by decide)) ?_)
    refine list_nil ?_
    refine hK4 _ ?_; clear hK4 K4
    refine code_ret ?_
    refine then_r ?_; clear hK2 K2
    refine ends_ret (cs := []) rfl rfl rfl rfl trivial ?_
    rw [if_neg (fun k => h1 k.1), decide_eq_false (fun k => h1 k.1)]
  (try simp only [Decidable.not_not] at h1)
  refine code_skip ?_
  refine hK2 _ ?_; clear hK2 K2
  refine code_seq (fun K5 hK5 => ?_)
  refine code_region ?_
  refine list_cons rfl (op_q (q_move rfl (by decide)) ?_)
  refine list_cons rfl (op_call _ (spec_l10Spelt _ (by have := h1.1; omega)) rfl rfl (by decide) (by decide) (by decide) rfl ?_)
  rintro _ rfl
  refine list_cons rfl (op_q (q_extract rfl rfl (by decide)) ?_)
  refine list_cons rfl (op_q (q_extract rfl rfl (by decide)) ?_)
  refine list_cons rfl (op_q (q_assign rfl (by decide)) ?_)
  refine list_cons rfl (op_q (q_assign rfl (by decide)) ?_)
  refine list_nil ?_
  refine hK5 _ ?_; clear hK5 K5
  refine codeT.imp (σ' := [(0, _), (2, _), (3, _)]) ?_ (imp_covers ⟨rfl, rfl, rfl, trivial⟩)
  refine code_ret ?_
  refine ends_ret (cs := []) rfl rfl rfl rfl trivial ?_
  simp only [h1, true_and]
set_option maxRecDepth 4000 in
theorem spec_WordOfNumber (n : Int) : PCalls Tryz.prog 14 [.int .i64 n] (· = [.val (.str (if (0 ≤ n ∧ n ≤ 999999) ∧ SpP (turnL (rowN n.toNat)) then spT (turnL (rowN n.toNat)) else [])), .val (.bool (decide ((0 ≤ n ∧ n ≤ 999999) ∧ SpP (turnL (rowN n.toNat)))))]) := by
  refine pcalls_of_code (n := 13) az Tryz.func14 (by kernel_rfl) rfl rfl (Nat.le_of_ble_eq_true rfl) (by intro t u h; simp [Tryz.f14] at h) ?_
  refine code_seq (fun K1 hK1 => ?_)
  refine code_region ?_
  refine list_cons rfl (op_q (q_assign rfl (by decide)) ?_)
  refine list_cons rfl (op_q (q_assign rfl (by decide)) ?_)
  refine list_nil ?_
  refine hK1 _ ?_; clear hK1 K1
  refine code_seq (fun K2 hK2 => ?_)
  refine code_seq (fun K3 hK3 => ?_)
  refine code_region ?_
  refine list_cons rfl (op_q (q_move rfl (by decide)) ?_)
  refine list_cons rfl (op_call _ (spec_l1In _ _ _) rfl rfl (by decide) (by decide) (by decide) rfl ?_)
  rintro _ rfl
  refine list_cons rfl (op_q (by first | exact q_notd rfl (by decide) | exact q_not rfl (by decide)) ?_)
  refine list_nil ?_
  refine hK3 _ ?_; clear hK3 K3
  refine codeT.imp (σ' := [(0, _), (2, _), (3, _), (6, _)]) ?_ (imp_covers ⟨rfl, rfl, rfl, rfl, trivial⟩)
  refine code_cond_d rfl (fun h1 => ?_) (fun h1 => ?_)
  · skip
    (try simp only [Decidable.not_not] at h1)
    refine code_seq (fun K4 hK4 => ?_)
    refine code_region ?_
    refine list_cons rfl (op_q (q_assign rfl (by decide)) ?_)
    refine list_cons rfl (op_q (q_assign rfl (by decide)) ?_)
    refine list_nil ?_
    refine hK4 _ ?_; clear hK4 K4
    refine code_ret ?_
    refine then_r ?_; clear hK2 K2
    refine ends_ret (cs := []) rfl rfl rfl rfl trivial ?_
    rw [if_neg (fun k => h1 k.1), decide_eq_false (fun k => h1 k.1)]
  (try simp only [Decidable.not_not] at h1)
  refine code_skip ?_
  refine hK2 _ ?_; clear hK2 K2
  refine code_seq (fun K5 hK5 => ?_)
  refine code_region ?_
  refine list_cons rfl (op_q (q_move rfl (by decide)) ?_)
  refine list_cons rfl (op_call _ (spec_l2RowOf _ (by omega) (by omega)) rfl rfl (by decide) (by decide) (by decide) rfl ?_)
  rintro _ rfl
  refine list_cons rfl (op_call _ (spec_l2TurnRow _ (rowN_row (by omega))) rfl rfl (by decide) (by decide) (by decide) rfl ?_)
  rintro _ rfl
  refine list_cons rfl (op_call _ (spec_l10Spelt _ (by rw [turnL_len]; have := (rowN_row (n := n.toNat) (by omega)).1; omega)) rfl rfl (by decide) (by decide) (by decide) rfl ?_)
  rintro _ rfl
  refine list_cons rfl (op_q (q_extract rfl rfl (by decide)) ?_)
  refine list_cons rfl (op_q (q_extract rfl rfl (by decide)) ?_)
  refine list_cons rfl (op_q (q_assign rfl (by decide)) ?_)
  refine list_cons rfl (op_q (q_assign rfl (by decide)) ?_)
  refine list_nil ?_
  refine hK5 _ ?_; clear hK5 K5
  refine codeT.imp (σ' := [(0, _), (2, _), (3, _)]) ?_ (imp_covers ⟨rfl, rfl, rfl, trivial⟩)
  refine code_ret ?_
  refine ends_ret (cs := []) rfl rfl rfl rfl trivial ?_
  simp only [h1, true_and, and_self]
theorem digOf_inv {c : Int} (h : 0 ≤ digOf c) : digT.getD (digOf c).toNat 0 = c := by
  by_cases h0 : c = 63
  · subst h0; rfl
  by_cases h1 : c = 6
  · subst h1; rfl
  by_cases h2 : c = 91
  · subst h2; rfl
  by_cases h3 : c = 79
  · subst h3; rfl
  by_cases h4 : c = 102
  · subst h4; rfl
  by_cases h5 : c = 109
  · subst h5; rfl
  by_cases h6 : c = 125
  · subst h6; rfl
  by_cases h7 : c = 7
  · subst h7; rfl
  by_cases h8 : c = 127
  · subst h8; rfl
  by_cases h9 : c = 111
  · subst h9; rfl
  exfalso
  unfold digOf at h
  rw [if_neg h0, if_neg h1, if_neg h2, if_neg h3, if_neg h4, if_neg h5, if_neg h6, if_neg h7, if_neg h8, if_neg h9] at h
  omega
theorem numF_app (l : List Int) (x : Int) : numF (l ++ [x]) = 10 * numF l + digOf x := by simp [numF]
theorem numF_bd : ∀ (n : Nat) (l : List Int), l.length = n → DigsP l → 0 ≤ numF l ∧ numF l < ((10 ^ n : Nat) : Int)
  | 0, l, hl, _ => by
    have : l = [] := List.eq_nil_of_length_eq_zero hl
    subst this; exact ⟨by decide, by decide⟩
  | n + 1, l, hl, h => by
    obtain ⟨a, x, rfl⟩ : ∃ a x, l = a ++ [x] := ⟨l.dropLast, l.getLast (by intro e; rw [e] at hl; simp at hl), (List.dropLast_concat_getLast _).symm⟩
    have ih := numF_bd n a (by simpa using hl) (fun y hy => h y (List.mem_append_left _ hy))
    have hx := h x (by simp)
    have hx2 := digOf_le x
    rw [numF_app, Nat.pow_succ]
    generalize 10 ^ n = q at ih ⊢
    omega
theorem numF_pos : ∀ (n : Nat) (l : List Int), l.length = n + 1 → DigsP l → 1 ≤ digOf (l.getD 0 0) → 1 ≤ numF l
  | 0, l, hl, _, h1 => by
    match l, hl with
    | [x], _ => show 1 ≤ 10 * (0 : Int) + digOf x; have : digOf ([x].getD 0 0) = digOf x := rfl; omega
  | n + 1, l, hl, h, h1 => by
    obtain ⟨a, x, rfl⟩ : ∃ a x, l = a ++ [x] := ⟨l.dropLast, l.getLast (by intro e; rw [e] at hl; simp at hl), (List.dropLast_concat_getLast _).symm⟩
    have ha : a.length = n + 1 := by simpa using hl
    have hx := h x (by simp)
    have e : (a ++ [x]).getD 0 0 = a.getD 0 0 := by rw [List.getD_eq_getElem?_getD, List.getElem?_append_left (by omega), ← List.getD_eq_getElem?_getD]
    rw [e] at h1
    have ih := numF_pos n a ha (fun y hy => h y (List.mem_append_left _ hy)) h1
    rw [numF_app]; omega
theorem rowN_back : ∀ (n : Nat) (l : List Int), l.length = n + 1 → DigsP l → (n = 0 ∨ 1 ≤ digOf (l.getD 0 0)) → rowN (numF l).toNat = l
  | 0, l, hl, h, _ => by
    match l, hl with
    | [x], _ =>
      have hx := h x (by simp)
      have hx2 := digOf_le x
      have e : numF [x] = digOf x := by show 10 * (0 : Int) + digOf x = _; omega
      rw [e, rowN_lt (by omega), digOf_inv hx]
  | n + 1, l, hl, h, h1 => by
    obtain ⟨a, x, rfl⟩ : ∃ a x, l = a ++ [x] := ⟨l.dropLast, l.getLast (by intro e; rw [e] at hl; simp at hl), (List.dropLast_concat_getLast _).symm⟩
    have ha : a.length = n + 1 := by simpa using hl
    have hx := h x (by simp)
    have hx2 := digOf_le x
    have hA : DigsP a := fun y hy => h y (List.mem_append_left _ hy)
    have e : (a ++ [x]).getD 0 0 = a.getD 0 0 := by rw [List.getD_eq_getElem?_getD, List.getElem?_append_left (by omega), ← List.getD_eq_getElem?_getD]
    rw [e] at h1
    have h2 : 1 ≤ digOf (a.getD 0 0) := by rcases h1 with h1 | h1; omega; exact h1
    have hp := numF_pos n a ha hA h2
    have ih := rowN_back n a ha hA (.inr h2)
    rw [numF_app, rowN_ge (by omega), show (10 * numF a + digOf x).toNat / 10 = (numF a).toNat by omega, ih, show (10 * numF a + digOf x).toNat % 10 = (digOf x).toNat by omega, digOf_inv hx]
theorem turn_ltr (k : Nat) (h : k < 16) (h1 : 0 ≤ digOf (turnC (ltrT.getD k 0))) : 1 ≤ digOf (turnC (ltrT.getD k 0)) := by
  have : k = 0 ∨ k = 1 ∨ k = 2 ∨ k = 3 ∨ k = 4 ∨ k = 5 ∨ k = 6 ∨ k = 7 ∨ k = 8 ∨ k = 9 ∨ k = 10 ∨ k = 11 ∨ k = 12 ∨ k = 13 ∨ k = 14 ∨ k = 15 := by omega
  revert h1
  rcases this with rfl | rfl | rfl | rfl | rfl | rfl | rfl | rfl | rfl | rfl | rfl | rfl | rfl | rfl | rfl | rfl <;> decide
def NwP (s : List UInt8) : Prop := WrdP s 6 ∧ 0 < s.length ∧ DigsP (turnL (rowW s))
instance (s : List UInt8) : Decidable (NwP s) := by unfold NwP; infer_instance
def nwF (s : List UInt8) : Int := numF (turnL (rowW s))
theorem nw_len (s : List UInt8) : (turnL (rowW s)).length = s.length := by rw [turnL_len, rowW_len]
theorem nw_bd {s : List UInt8} (h : WrdP s 6) (hd : DigsP (turnL (rowW s))) : 0 ≤ nwF s ∧ nwF s ≤ 999999 := by
  have h1 := numF_bd s.length (turnL (rowW s)) (nw_len s) hd
  have h2 : 10 ^ s.length ≤ 1000000 := pow10_le (by have := h.1; omega)
  unfold nwF; omega
theorem nw_back {s : List UInt8} (h : NwP s) : rowN (nwF s).toNat = turnL (rowW s) := by
  obtain ⟨⟨_, hL⟩, h0, hd⟩ := h
  have hlen := nw_len s
  refine rowN_back (s.length - 1) _ (by omega) hd (.inr ?_)
  have h1 := hd.at (j := 0) (by omega)
  have e : (turnL (rowW s)).getD 0 0 = turnC ((rowW s).getD (s.length - 1) 0) := by
    unfold turnL
    have hr := rowW_len s
    rw [List.getD_eq_getElem?_getD, List.getElem?_map, List.getElem?_reverse (by omega), hr, Nat.sub_zero, List.getElem?_eq_getElem (by omega)]
    simp [List.getElem?_eq_getElem (show s.length - 1 < (rowW s).length by omega)]
  have e2 : (rowW s).getD (s.length - 1) 0 = cellW (s.getD (s.length - 1) 0) := by
    unfold rowW
    simp [List.getElem?_eq_getElem (show s.length - 1 < s.length by omega)]
  rw [e, e2] at h1 ⊢
  have hp := plB_le (s.getD (s.length - 1) 0)
  have hp0 := hL.at (j := s.length - 1) (by omega)
  exact turn_ltr _ (by omega) h1
set_option maxRecDepth 4000 in
theorem spec_NumberOfWord (s : List UInt8) (hs : s.length ≤ 4611686018427387904) : PCalls Tryz.prog 17 [.str s] (· = [.val (.int .i64 (if NwP s then nwF s else 0)), .val (.bool (decide (NwP s)))]) := by
  refine pcalls_of_code (n := 32) az Tryz.func17 (by kernel_rfl) rfl rfl (Nat.le_of_ble_eq_true rfl) (by intro t u h; simp [Tryz.f17] at h) ?_
  have hnl := nw_len s
  refine code_seq (fun K1 hK1 => ?_)
  refine code_region ?_
  refine list_cons rfl (op_q (q_assign rfl (by decide)) ?_)
  refine list_cons rfl (op_q (q_assign rfl (by decide)) ?_)
  refine list_nil ?_
  refine hK1 _ ?_; clear hK1 K1
  refine code_seq (fun K2 hK2 => ?_)
  refine code_seq (fun K3 hK3 => ?_)
  refine code_region ?_
  refine list_cons rfl (op_q (q_move rfl (by decide)) ?_)
  refine list_cons rfl (op_call _ (spec_l10Word _ _ (by first | omega | assumption) (by omega) (by omega)) rfl rfl (by decide) (by decide) (by decide) rfl ?_)
  rintro _ rfl
  refine list_cons rfl (op_q (by first | exact q_notd rfl (by decide) | exact q_not rfl (by decide)) ?_)
  refine list_cons rfl (op_q (q_move rfl (by decide)) ?_)
  refine list_guard_d rfl rfl rfl rfl (by decide) rfl (by decide) (fun h1 => ?_) (fun h1 => ?_)
  · simp only [Bool.false_eq_true, if_true, if_false, Decidable.not_not] at h1
    refine id (op_q (q_move rfl (by decide)) ?_)
    refine list_guard_y rfl rfl rfl rfl (by decide) rfl ?_
    refine id (op_q (q_seq rfl rfl (by decide)) ?_)
    refine list_cons rfl (op_q (q_pick rfl rfl (by decide)) ?_)
    refine list_nil ?_
    refine hK3 _ ?_; clear hK3 K3
    refine codeT.imp (σ' := [(0, _), (2, _), (3, _), (13, _)]) ?_ (imp_covers ⟨rfl, rfl, rfl, rfl, trivial⟩)
    refine code_cond_d rfl (fun h2 => ?_) (fun h2 => ?_)
    · skip
      (try simp only [Decidable.not_not] at h2)
      refine code_seq (fun K4 hK4 => ?_)
      refine code_region ?_
      refine list_cons rfl (op_q (q_assign rfl (by decide)) ?_)
      refine list_cons rfl (op_q (q_assign rfl (by decide)) ?_)
      refine list_nil ?_
      refine hK4 _ ?_; clear hK4 K4
      refine code_ret ?_
      refine then_r ?_; clear hK2 K2
      refine ends_ret (cs := []) rfl rfl rfl rfl trivial ?_
      first
        | (have e : ¬ NwP s := fun e => absurd e.1 (by assumption)
           simp only [if_neg e, decide_eq_false e]; done)
        | (have e : ¬ NwP s := fun e => by have h := e.2.1; rw [show s = [] by assumption] at h; exact absurd h (by decide)
           simp only [if_neg e, decide_eq_false e]; done)
        | (have e : ¬ NwP s := fun e => absurd (⟨e.2.2, by have := e.2.1; omega⟩ : DigsP (turnL (rowW s)) ∧ 0 < (turnL (rowW s)).length) (by assumption)
           simp only [if_neg e, decide_eq_false e]; done)
        | (have hd : DigsP (turnL (rowW s)) ∧ 0 < (turnL (rowW s)).length := by assumption
           have e : NwP s := ⟨by assumption, by have := hd.2; omega, hd.1⟩
           simp only [if_pos hd.1] at *
           first
           | (simp only [if_pos e, decide_eq_true e]; first | done | rfl)
           | exact absurd (nw_back e) (by assumption))
    (try simp only [Decidable.not_not] at h2)
    refine code_skip ?_
    refine hK2 _ ?_; clear hK2 K2
    refine code_seq (fun K5 hK5 => ?_)
    refine code_region ?_
    refine list_cons rfl (op_q (q_move rfl (by decide)) ?_)
    refine list_cons rfl (op_call _ (spec_l10Row s (show WrdP s 6 by assumption).2 (by have := (show WrdP s 6 by assumption).1; omega)) rfl rfl (by decide) (by decide) (by decide) rfl ?_)
    rintro _ rfl
    refine list_cons rfl (op_call _ (spec_l2TurnRow _ (rowW_row (by have := (show WrdP s 6 by assumption).1; omega))) rfl rfl (by decide) (by decide) (by decide) rfl ?_)
    rintro _ rfl
    refine list_cons rfl (op_q (q_assign rfl (by decide)) ?_)
    refine list_nil ?_
    refine hK5 _ ?_; clear hK5 K5
    refine codeT.imp (σ' := [(0, _), (2, _), (3, _), (4, _)]) ?_ (imp_covers ⟨rfl, rfl, rfl, rfl, trivial⟩)
    refine code_seq (fun K6 hK6 => ?_)
    refine code_region ?_
    refine list_cons rfl (op_q (q_move rfl (by decide)) ?_)
    refine list_cons rfl (op_call _ (spec_l2NumberOf _ (by have := (show WrdP s 6 by assumption).1; omega)) rfl rfl (by decide) (by decide) (by decide) rfl ?_)
    rintro _ rfl
    refine list_cons rfl (op_q (q_move rfl (by decide)) ?_)
    refine list_cons rfl (op_q (q_extract rfl rfl (by decide)) ?_)
    refine list_cons rfl (op_q (q_extract rfl rfl (by decide)) ?_)
    refine list_cons rfl (op_q (q_assign rfl (by decide)) ?_)
    refine list_cons rfl (op_q (q_assign rfl (by decide)) ?_)
    refine list_nil ?_
    refine hK6 _ ?_; clear hK6 K6
    refine codeT.imp (σ' := [(0, _), (2, _), (3, _), (4, _), (5, _), (6, _)]) ?_ (imp_covers ⟨rfl, rfl, rfl, rfl, rfl, rfl, trivial⟩)
    refine code_seq (fun K7 hK7 => ?_)
    refine code_seq (fun K8 hK8 => ?_)
    refine code_region ?_
    refine list_cons rfl (op_q (q_move rfl (by decide)) ?_)
    refine list_cons rfl (op_q (by first | exact q_notd rfl (by decide) | exact q_not rfl (by decide)) ?_)
    refine list_cons rfl (op_q (q_move rfl (by decide)) ?_)
    refine list_guard_d rfl rfl rfl rfl (by decide) rfl (by decide) (fun h3 => ?_) (fun h3 => ?_)
    · simp only [Bool.false_eq_true, if_true, if_false, Decidable.not_not] at h3
      refine id (op_q (q_move rfl (by decide)) ?_)
      refine list_guard_y rfl rfl rfl rfl (by decide) rfl ?_
      refine id (op_call _ (spec_l2RowOf _ (by split; exact (nw_bd (show WrdP s 6 by assumption) (by assumption)).1; omega) (by split; exact (nw_bd (show WrdP s 6 by assumption) (by assumption)).2; omega)) rfl rfl (by decide) (by decide) (by decide) rfl ?_)
      rintro _ rfl
      refine list_guard_y rfl rfl rfl rfl (by decide) rfl ?_
      refine id (op_q (q_move rfl (by decide)) ?_)
      refine list_guard_y rfl rfl rfl rfl (by decide) rfl ?_
      refine id (op_call _ (spec_l1Same _ _ (Nat.le_trans (rowN_row (by split; (have := nw_bd (show WrdP s 6 by assumption) (by assumption); unfold nwF at this; omega); decide)).1 (by decide))) rfl rfl (by decide) (by decide) (by decide) rfl ?_)
      rintro _ rfl
      refine list_guard_y rfl rfl rfl rfl (by decide) rfl ?_
      refine id (op_q (by first | exact q_notd rfl (by decide) | exact q_not rfl (by decide)) ?_)
      refine list_cons rfl (op_q (q_pick rfl rfl (by decide)) ?_)
      refine list_nil ?_
      refine hK8 _ ?_; clear hK8 K8
      refine codeT.imp (σ' := [(0, _), (2, _), (3, _), (4, _), (5, _), (6, _), (30, _)]) ?_ (imp_covers ⟨rfl, rfl, rfl, rfl, rfl, rfl, rfl, trivial⟩)
      refine code_cond_d rfl (fun h4 => ?_) (fun h4 => ?_)
      · skip
        (try simp only [Decidable.not_not] at h4)
        refine code_seq (fun K9 hK9 => ?_)
        refine code_region ?_
        refine list_cons rfl (op_q (q_assign rfl (by decide)) ?_)
        refine list_cons rfl (op_q (q_assign rfl (by decide)) ?_)
        refine list_nil ?_
        refine hK9 _ ?_; clear hK9 K9
        refine code_ret ?_
        refine then_r ?_; clear hK7 K7
        refine ends_ret (cs := []) rfl rfl rfl rfl trivial ?_
        first
          | (have e : ¬ NwP s := fun e => absurd e.1 (by assumption)
             simp only [if_neg e, decide_eq_false e]; done)
          | (have e : ¬ NwP s := fun e => by have h := e.2.1; rw [show s = [] by assumption] at h; exact absurd h (by decide)
             simp only [if_neg e, decide_eq_false e]; done)
          | (have e : ¬ NwP s := fun e => absurd (⟨e.2.2, by have := e.2.1; omega⟩ : DigsP (turnL (rowW s)) ∧ 0 < (turnL (rowW s)).length) (by assumption)
             simp only [if_neg e, decide_eq_false e]; done)
          | (have hd : DigsP (turnL (rowW s)) ∧ 0 < (turnL (rowW s)).length := by assumption
             have e : NwP s := ⟨by assumption, by have := hd.2; omega, hd.1⟩
             simp only [if_pos hd.1] at *
             first
             | (simp only [if_pos e, decide_eq_true e]; first | done | rfl)
             | exact absurd (nw_back e) (by assumption))
      (try simp only [Decidable.not_not] at h4)
      refine code_skip ?_
      refine hK7 _ ?_; clear hK7 K7
      refine code_seq (fun K10 hK10 => ?_)
      refine code_region ?_
      refine list_cons rfl (op_q (q_move rfl (by decide)) ?_)
      refine list_cons rfl (op_q (q_assign rfl (by decide)) ?_)
      refine list_cons rfl (op_q (q_assign rfl (by decide)) ?_)
      refine list_nil ?_
      refine hK10 _ ?_; clear hK10 K10
      refine code_ret ?_
      refine ends_ret (cs := []) rfl rfl rfl rfl trivial ?_
      first
        | (have e : ¬ NwP s := fun e => absurd e.1 (by assumption)
           simp only [if_neg e, decide_eq_false e]; done)
        | (have e : ¬ NwP s := fun e => by have h := e.2.1; rw [show s = [] by assumption] at h; exact absurd h (by decide)
           simp only [if_neg e, decide_eq_false e]; done)
        | (have e : ¬ NwP s := fun e => absurd (⟨e.2.2, by have := e.2.1; omega⟩ : DigsP (turnL (rowW s)) ∧ 0 < (turnL (rowW s)).length) (by assumption)
           simp only [if_neg e, decide_eq_false e]; done)
        | (have hd : DigsP (turnL (rowW s)) ∧ 0 < (turnL (rowW s)).length := by assumption
           have e : NwP s := ⟨by assumption, by have := hd.2; omega, hd.1⟩
           simp only [if_pos hd.1] at *
           first
           | (simp only [if_pos e, decide_eq_true e]; first | done | rfl)
           | exact absurd (nw_back e) (by assumption))
    simp only [Bool.false_eq_true, if_true, if_false, Decidable.not_not] at h3
    refine list_guard_n rfl rfl rfl rfl (by decide) rfl ?_
    refine list_guard_n rfl rfl rfl rfl (by decide) rfl ?_
    refine list_guard_n rfl rfl rfl rfl (by decide) rfl ?_
    refine list_guard_n rfl rfl rfl rfl (by decide) rfl ?_
    refine list_cons rfl (op_q (q_pick rfl rfl (by decide)) ?_)
    refine list_nil ?_
    refine hK8 _ ?_; clear hK8 K8
    refine code_cond_t rfl ?_
    refine code_seq (fun K11 hK11 => ?_)
    refine code_region ?_
    refine list_cons rfl (op_q (q_assign rfl (by decide)) ?_)
    refine list_cons rfl (op_q (q_assign rfl (by decide)) ?_)
    refine list_nil ?_
    refine hK11 _ ?_; clear hK11 K11
    refine code_ret ?_
    refine then_r ?_; clear hK7 K7
    refine ends_ret (cs := []) rfl rfl rfl rfl trivial ?_
    first
      | (have e : ¬ NwP s := fun e => absurd e.1 (by assumption)
         simp only [if_neg e, decide_eq_false e]; done)
      | (have e : ¬ NwP s := fun e => by have h := e.2.1; rw [show s = [] by assumption] at h; exact absurd h (by decide)
         simp only [if_neg e, decide_eq_false e]; done)
      | (have e : ¬ NwP s := fun e => absurd (⟨e.2.2, by have := e.2.1; omega⟩ : DigsP (turnL (rowW s)) ∧ 0 < (turnL (rowW s)).length) (by assumption)
         simp only [if_neg e, decide_eq_false e]; done)
      | (have hd : DigsP (turnL (rowW s)) ∧ 0 < (turnL (rowW s)).length := by assumption
         have e : NwP s := ⟨by assumption, by have := hd.2; omega, hd.1⟩
         simp only [if_pos hd.1] at *
         first
         | (simp only [if_pos e, decide_eq_true e]; first | done | rfl)
         | exact absurd (nw_back e) (by assumption))
  simp only [Bool.false_eq_true, if_true, if_false, Decidable.not_not] at h1
  refine list_guard_n rfl rfl rfl rfl (by decide) rfl ?_
  refine list_cons rfl (op_q (q_pick rfl rfl (by decide)) ?_)
  refine list_nil ?_
  refine hK3 _ ?_; clear hK3 K3
  refine code_cond_t rfl ?_
  refine code_seq (fun K12 hK12 => ?_)
  refine code_region ?_
  refine list_cons rfl (op_q (q_assign rfl (by decide)) ?_)
  refine list_cons rfl (op_q (q_assign rfl (by decide)) ?_)
  refine list_nil ?_
  refine hK12 _ ?_; clear hK12 K12
  refine code_ret ?_
  refine then_r ?_; clear hK2 K2
  refine ends_ret (cs := []) rfl rfl rfl rfl trivial ?_
  first
    | (have e : ¬ NwP s := fun e => absurd e.1 (by assumption)
       simp only [if_neg e, decide_eq_false e]; done)
    | (have e : ¬ NwP s := fun e => by have h := e.2.1; rw [show s = [] by assumption] at h; exact absurd h (by decide)
       simp only [if_neg e, decide_eq_false e]; done)
    | (have e : ¬ NwP s := fun e => absurd (⟨e.2.2, by have := e.2.1; omega⟩ : DigsP (turnL (rowW s)) ∧ 0 < (turnL (rowW s)).length) (by assumption)
       simp only [if_neg e, decide_eq_false e]; done)
    | (have hd : DigsP (turnL (rowW s)) ∧ 0 < (turnL (rowW s)).length := by assumption
       have e : NwP s := ⟨by assumption, by have := hd.2; omega, hd.1⟩
       simp only [if_pos hd.1] at *
       first
       | (simp only [if_pos e, decide_eq_true e]; first | done | rfl)
       | exact absurd (nw_back e) (by assumption))
theorem litF_bd : ∀ (l : List Int) (k : Nat), 0 ≤ litF (l.take k) ∧ litF (l.take k) ≤ 7 * k
  | l, 0 => by rw [List.take_zero]; exact ⟨by decide, by decide⟩
  | l, k + 1 => by
    have ih := litF_bd l k
    by_cases h : k < l.length
    · have := cnt7_le (l.getD k 0).toNat
      unfold litF at ih ⊢
      rw [foldl_take _ 0 _ _ h]; omega
    · rw [List.take_of_length_le (by omega)]
      rw [List.take_of_length_le (by omega)] at ih; omega
set_option maxRecDepth 4000 in
theorem spec_WordLit (s : List UInt8) (hs : s.length ≤ 4611686018427387904) : PCalls Tryz.prog 29 [.str s] (· = [.val (.int .i64 (if WrdP s 12 then litF (rowW s) else 0)), .val (.bool (decide (WrdP s 12)))]) := by
  refine pcalls_of_code (n := 26) az Tryz.func29 (by kernel_rfl) rfl rfl (Nat.le_of_ble_eq_true rfl) (by intro t u h; simp [Tryz.f29] at h) ?_
  have hrl := rowW_len s
  refine code_seq (fun K1 hK1 => ?_)
  refine code_region ?_
  refine list_cons rfl (op_q (q_assign rfl (by decide)) ?_)
  refine list_cons rfl (op_q (q_assign rfl (by decide)) ?_)
  refine list_nil ?_
  refine hK1 _ ?_; clear hK1 K1
  refine code_seq (fun K2 hK2 => ?_)
  refine code_seq (fun K3 hK3 => ?_)
  refine code_region ?_
  refine list_cons rfl (op_q (q_move rfl (by decide)) ?_)
  refine list_cons rfl (op_call _ (spec_l10Word _ _ (by first | omega | assumption) (by omega) (by omega)) rfl rfl (by decide) (by decide) (by decide) rfl ?_)
  rintro _ rfl
  refine list_cons rfl (op_q (by first | exact q_notd rfl (by decide) | exact q_not rfl (by decide)) ?_)
  refine list_nil ?_
  refine hK3 _ ?_; clear hK3 K3
  refine codeT.imp (σ' := [(0, _), (2, _), (3, _), (9, _)]) ?_ (imp_covers ⟨rfl, rfl, rfl, rfl, trivial⟩)
  refine code_cond_d rfl (fun h1 => ?_) (fun h1 => ?_)
  · skip
    (try simp only [Decidable.not_not] at h1)
    refine code_seq (fun K4 hK4 => ?_)
    refine code_region ?_
    refine list_cons rfl (op_q (q_assign rfl (by decide)) ?_)
    refine list_cons rfl (op_q (q_assign rfl (by decide)) ?_)
    refine list_nil ?_
    refine hK4 _ ?_; clear hK4 K4
    refine code_ret ?_
    refine then_r ?_; clear hK2 K2
    refine ends_ret (cs := []) rfl rfl rfl rfl trivial ?_
    first
      | (simp only [if_neg h1, decide_eq_false h1]; done)
      | (rw [List.take_of_length_le (show (rowW s).length ≤ i.toNat by omega)]
         simp only [if_pos h1, decide_eq_true h1]; done)
  (try simp only [Decidable.not_not] at h1)
  refine code_skip ?_
  refine hK2 _ ?_; clear hK2 K2
  refine code_seq (fun K5 hK5 => ?_)
  refine code_region ?_
  refine list_cons rfl (op_q (q_move rfl (by decide)) ?_)
  refine list_cons rfl (op_call _ (spec_l10Row s h1.2 (by have := h1.1; omega)) rfl rfl (by decide) (by decide) (by decide) rfl ?_)
  rintro _ rfl
  refine list_cons rfl (op_q (q_assign rfl (by decide)) ?_)
  refine list_cons rfl (op_q (q_assign rfl (by decide)) ?_)
  refine list_nil ?_
  refine hK5 _ ?_; clear hK5 K5
  refine codeT.imp (σ' := [(0, _), (2, _), (3, _), (4, _), (5, _)]) ?_ (imp_covers ⟨rfl, rfl, rfl, rfl, rfl, trivial⟩)
  refine code_seq (fun K6 hK6 => ?_)
  refine code_seq (fun K7 hK7 => ?_)
  refine code_region ?_
  refine list_cons rfl (op_q (q_assign rfl (by decide)) ?_)
  refine list_nil ?_
  refine hK7 _ ?_; clear hK7 K7
  refine code_block ?_
  refine code_loop (X := Int × Bool × Int × Nat × List PV × Int) (fun x => [(0, .val (.str s)), (2, .val (.int .i64 x.1)), (3, .val (.bool x.2.1)), (4, .val (.int .i64 x.2.2.1)), (5, .own 11 3 1 x.2.2.2.1 x.2.2.2.2.1), (6, .val (.int .i64 x.2.2.2.2.2))]) (fun x => 0 ≤ x.2.2.2.2.2 ∧ x.2.2.2.2.2 ≤ s.length ∧ x.2.2.2.1 = s.length ∧ x.2.2.2.2.1 = (rowW s).map (.int .i64) ∧ x.2.2.1 = litF ((rowW s).take x.2.2.2.2.2.toNat)) (fun x => s.length - x.2.2.2.2.2.toNat) (_, _, _, _, _, _) (imp_covers ⟨rfl, rfl, rfl, rfl, rfl, rfl, trivial⟩) ?_ ?_
  · (try dsimp only)
    exact ⟨by omega, by omega, by omega, rfl, rfl⟩
  · intro x hI
    obtain ⟨t2, t3, sum, r_n, r_c, i⟩ := x
    replace hI : 0 ≤ i ∧ i ≤ s.length ∧ r_n = s.length ∧ r_c = (rowW s).map (.int .i64) ∧ sum = litF ((rowW s).take i.toNat) := hI
    show codeT _ _ _ [(0, .val (.str s)), (2, .val (.int .i64 t2)), (3, .val (.bool t3)), (4, .val (.int .i64 sum)), (5, .own 11 3 1 r_n r_c), (6, .val (.int .i64 i))] _
    obtain ⟨i1, i2, rfl, rfl, rfl⟩ := hI
    have hci := rowW_at s i.toNat
    have hl12 := h1.1
    have hlb := litF_bd (rowW s) i.toNat
    have hc7 := cnt7_le ((rowW s).getD i.toNat 0).toNat
    refine code_seq (fun K8 hK8 => ?_)
    refine code_seq (fun K9 hK9 => ?_)
    refine code_region ?_
    refine list_cons rfl (op_q (q_move rfl (by decide)) ?_)
    refine list_cons rfl (op_q (q_move rfl (by decide)) ?_)
    refine list_cons rfl (op_q (q_len_sl Tryz.underlying25 rfl rfl (by decide)) ?_)
    refine list_cons rfl (op_q (q_lt rfl rfl (by decide)) ?_)
    refine list_nil ?_
    refine hK9 _ ?_; clear hK9 K9
    refine code_cond_d rfl (fun h2 => ?_) (fun h2 => ?_)
    · skip
      (try simp only [Decidable.not_not] at h2)
      refine code_skip ?_
      refine hK8 _ ?_; clear hK8 K8
      refine code_seq (fun K10 hK10 => ?_)
      refine code_block ?_
      refine code_region ?_
      refine list_cons rfl (op_q (q_move rfl (by decide)) ?_)
      refine list_cons rfl (op_q (q_move rfl (by decide)) ?_)
      refine list_cons rfl (op_q (q_move rfl (by decide)) ?_)
      refine list_cons rfl (op_q (q_indexAddr_own sl_25 rfl rfl (by omega) (by omega) (by decide)) ?_)
      refine list_cons rfl (op_q (q_load one_3 5 rfl rfl rfl (by first | rfl | exact get_map1 _ 0 _ (by first | omega | (simp; omega))) (by decide)) ?_)
      refine list_cons rfl (op_call _ (spec_l2Count _ (hci).1 (hci).2) rfl rfl (by decide) (by decide) (by decide) rfl ?_)
      rintro _ rfl
      refine list_cons rfl (op_q (by first | exact q_addI rfl rfl (by decide) (by omega) (by omega) | exact q_ib rfl rfl rfl (by decide)) ?_)
      refine list_cons rfl (op_q (q_assign rfl (by decide)) ?_)
      refine list_nil ?_
      refine blk_n ?_
      refine hK10 _ ?_; clear hK10 K10
      refine codeT.imp (σ' := [(0, _), (2, _), (3, _), (4, _), (5, _), (6, _)]) ?_ (imp_covers ⟨rfl, rfl, rfl, rfl, rfl, rfl, trivial⟩)
      refine code_region ?_
      refine list_cons rfl (op_q (q_move rfl (by decide)) ?_)
      refine list_cons rfl (op_q (by first | exact q_addI rfl rfl (by decide) (by omega) (by omega) | exact q_ib rfl rfl rfl (by decide)) ?_)
      refine list_cons rfl (op_q (q_assign rfl (by decide)) ?_)
      refine list_nil ?_
      refine then_n ⟨(_, _, _, _, _, _), imp_covers ⟨rfl, rfl, rfl, rfl, rfl, rfl, trivial⟩, ?_, ?_⟩
      · (try dsimp only)
        refine ⟨by omega, by omega, rfl, rfl, ?_⟩
        rw [show (i + 1).toNat = i.toNat + 1 by omega]
        unfold litF
        rw [foldl_take _ 0 _ _ (by omega)]
      · (try dsimp only); omega
    (try simp only [Decidable.not_not] at h2)
    refine code_exit ?_
    refine then_x ?_; clear hK8 K8
    refine then_x ?_
    refine blk_hit ?_
    refine hK6 _ ?_; clear hK6 K6
    refine code_seq (fun K11 hK11 => ?_)
    refine code_region ?_
    refine list_cons rfl (op_q (q_move rfl (by decide)) ?_)
    refine list_cons rfl (op_q (q_assign rfl (by decide)) ?_)
    refine list_cons rfl (op_q (q_assign rfl (by decide)) ?_)
    refine list_nil ?_
    refine hK11 _ ?_; clear hK11 K11
    refine code_ret ?_
    refine ends_ret (cs := []) rfl rfl rfl rfl trivial ?_
    first
      | (simp only [if_neg h2, decide_eq_false h2]; done)
      | (rw [List.take_of_length_le (show (rowW s).length ≤ i.toNat by omega)]
         simp only [if_pos h1, decide_eq_true h1]; done)
set_option maxRecDepth 4000 in
theorem spec_MirroredWord (s : List UInt8) (hs : s.length ≤ 4611686018427387904) : PCalls Tryz.prog 20 [.str s] (· = [.val (.str (if WrdP s 6 ∧ SpP (mirL (rowW s)) then spT (mirL (rowW s)) else [])), .val (.bool (decide (WrdP s 6 ∧ SpP (mirL (rowW s)))))]) := by
  refine pcalls_of_code (n := 13) az Tryz.func20 (by kernel_rfl) rfl rfl (Nat.le_of_ble_eq_true rfl) (by intro t u h; simp [Tryz.f20] at h) ?_
  refine code_seq (fun K1 hK1 => ?_)
  refine code_region ?_
  refine list_cons rfl (op_q (q_assign rfl (by decide)) ?_)
  refine list_cons rfl (op_q (q_assign rfl (by decide)) ?_)
  refine list_nil ?_
  refine hK1 _ ?_; clear hK1 K1
  refine code_seq (fun K2 hK2 => ?_)
  refine code_seq (fun K3 hK3 => ?_)
  refine code_region ?_
  refine list_cons rfl (op_q (q_move rfl (by decide)) ?_)
  refine list_cons rfl (op_call _ (spec_l10Word _ _ (by first | omega | assumption) (by omega) (by omega)) rfl rfl (by decide) (by decide) (by decide) rfl ?_)
  rintro _ rfl
  refine list_cons rfl (op_q (by first | exact q_notd rfl (by decide) | exact q_not rfl (by decide)) ?_)
  refine list_nil ?_
  refine hK3 _ ?_; clear hK3 K3
  refine codeT.imp (σ' := [(0, _), (2, _), (3, _), (6, _)]) ?_ (imp_covers ⟨rfl, rfl, rfl, rfl, trivial⟩)
  refine code_cond_d rfl (fun h1 => ?_) (fun h1 => ?_)
  · skip
    (try simp only [Decidable.not_not] at h1)
    refine code_seq (fun K4 hK4 => ?_)
    refine code_region ?_
    refine list_cons rfl (op_q (q_assign rfl (by decide)) ?_)
    refine list_cons rfl (op_q (q_assign rfl (by decide)) ?_)
    refine list_nil ?_
    refine hK4 _ ?_; clear hK4 K4
    refine code_ret ?_
    refine then_r ?_; clear hK2 K2
    refine ends_ret (cs := []) rfl rfl rfl rfl trivial ?_
    rw [if_neg (fun k => h1 k.1), decide_eq_false (fun k => h1 k.1)]
  (try simp only [Decidable.not_not] at h1)
  refine code_skip ?_
  refine hK2 _ ?_; clear hK2 K2
  refine code_seq (fun K5 hK5 => ?_)
  refine code_region ?_
  refine list_cons rfl (op_q (q_move rfl (by decide)) ?_)
  refine list_cons rfl (op_call _ (spec_l10Row s h1.2 (by have := h1.1; omega)) rfl rfl (by decide) (by decide) (by decide) rfl ?_)
  rintro _ rfl
  refine list_cons rfl (op_call _ (spec_l2MirrorRow _ (rowW_row (by have := h1.1; omega))) rfl rfl (by decide) (by decide) (by decide) rfl ?_)
  rintro _ rfl
  refine list_cons rfl (op_call _ (spec_l10Spelt _ (by rw [mirL_len, rowW_len]; have := h1.1; omega)) rfl rfl (by decide) (by decide) (by decide) rfl ?_)
  rintro _ rfl
  refine list_cons rfl (op_q (q_extract rfl rfl (by decide)) ?_)
  refine list_cons rfl (op_q (q_extract rfl rfl (by decide)) ?_)
  refine list_cons rfl (op_q (q_assign rfl (by decide)) ?_)
  refine list_cons rfl (op_q (q_assign rfl (by decide)) ?_)
  refine list_nil ?_
  refine hK5 _ ?_; clear hK5 K5
  refine codeT.imp (σ' := [(0, _), (2, _), (3, _)]) ?_ (imp_covers ⟨rfl, rfl, rfl, trivial⟩)
  refine code_ret ?_
  refine ends_ret (cs := []) rfl rfl rfl rfl trivial ?_
  simp only [h1, true_and]
def chgK (a b : List Int) : Nat → Int
  | 0 => 0
  | i + 1 => chgK a b i + ((cnt7 ((a.getD i 0).toNat ^^^ (b.getD i 0).toNat) : Nat) : Int)
theorem chgK_le (a b : List Int) : ∀ i : Nat, 0 ≤ chgK a b i ∧ chgK a b i ≤ 7 * i
  | 0 => by simp [chgK]
  | i + 1 => by
    have := chgK_le a b i
    have h := cnt7_le ((a.getD i 0).toNat ^^^ (b.getD i 0).toNat)
    unfold chgK; omega
theorem chgK_congr {a b a2 b2 : List Int} : ∀ {k : Nat}, (∀ j, j < k → a.getD j 0 = a2.getD j 0 ∧ b.getD j 0 = b2.getD j 0) → chgK a b k = chgK a2 b2 k
  | 0, _ => rfl
  | k + 1, h => by
    have h1 := h k (by omega)
    unfold chgK
    rw [chgK_congr (k := k) fun j hj => h j (by omega), h1.1, h1.2]
theorem chgK_more {a b : List Int} {m : Nat} (h : ∀ j, m ≤ j → a.getD j 0 = 0 ∧ b.getD j 0 = 0) : ∀ d : Nat, chgK a b (m + d) = chgK a b m
  | 0 => rfl
  | d + 1 => by
    have h1 := h (m + d) (by omega)
    show chgK a b (m + d) + ((cnt7 ((a.getD (m + d) 0).toNat ^^^ (b.getD (m + d) 0).toNat) : Nat) : Int) = _
    rw [chgK_more h d, h1.1, h1.2]; exact Int.add_zero _
theorem getD_pad (l : List Int) (d j : Nat) : (l ++ List.replicate d (0 : Int)).getD j 0 = l.getD j 0 := by
  by_cases h : j < l.length
  · rw [List.getD_eq_getElem?_getD, List.getElem?_append_left h, ← List.getD_eq_getElem?_getD]
  · rw [List.getD_eq_getElem?_getD, List.getElem?_append_right (by omega), List.getElem?_replicate, List.getD_eq_getElem?_getD, List.getElem?_eq_none (by omega)]
    split <;> rfl
theorem getD_off (l : List Int) {j : Nat} (h : l.length ≤ j) : l.getD j 0 = 0 := by
  rw [List.getD_eq_getElem?_getD, List.getElem?_eq_none h]; rfl
def chgW (a b : List UInt8) : Int := chgK (rowW a) (rowW b) 6
theorem chgW_pad {a b : List UInt8} {d e m : Nat} (ha : a.length ≤ m) (hb : b.length ≤ m) (h6 : m ≤ 6) : chgK (rowW a ++ List.replicate d 0) (rowW b ++ List.replicate e 0) m = chgW a b := by
  have h1 : chgK (rowW a ++ List.replicate d 0) (rowW b ++ List.replicate e 0) m = chgK (rowW a) (rowW b) m := chgK_congr fun j _ => ⟨getD_pad _ _ _, getD_pad _ _ _⟩
  have h2 := chgK_more (a := rowW a) (b := rowW b) (m := m) (fun j hj => ⟨getD_off _ (by rw [rowW_len]; omega), getD_off _ (by rw [rowW_len]; omega)⟩) (6 - m)
  rw [h1, ← h2, show m + (6 - m) = 6 by omega]; rfl
theorem pad_cell (a : List UInt8) (d j : Nat) : 0 ≤ (rowW a ++ List.replicate d 0).getD j 0 ∧ (rowW a ++ List.replicate d 0).getD j 0 ≤ 127 := by
  rw [getD_pad]; exact rowW_at a j
set_option maxRecDepth 4000 in
theorem spec_l4Ch6 (a b : List Int) (hl : a.length ≤ b.length) (hl6 : a.length ≤ 6) (ha : ∀ i, i < a.length → 0 ≤ a.getD i 0 ∧ a.getD i 0 ≤ 127) (hb : ∀ i, i < a.length → 0 ≤ b.getD i 0 ∧ b.getD i 0 ≤ 127) : PCalls Tryz.prog 69 [.sl a.length (a.map (.int .i64)), .sl b.length (b.map (.int .i64))] (· = [.val (.int .i64 (chgK a b a.length))]) := by
  refine pcalls_of_code (n := 25) az Tryz.func69 (by kernel_rfl) rfl rfl (Nat.le_of_ble_eq_true rfl) (by intro t u h; simp [Tryz.f69] at h) ?_
  refine code_seq (fun K1 hK1 => ?_)
  refine code_region ?_
  refine list_cons rfl (op_q (q_assign rfl (by decide)) ?_)
  refine list_nil ?_
  refine hK1 _ ?_; clear hK1 K1
  refine code_seq (fun K2 hK2 => ?_)
  refine code_region ?_
  refine list_cons rfl (op_q (q_assign rfl (by decide)) ?_)
  refine list_nil ?_
  refine hK2 _ ?_; clear hK2 K2
  refine code_seq (fun K3 hK3 => ?_)
  refine code_seq (fun K4 hK4 => ?_)
  refine code_region ?_
  refine list_cons rfl (op_q (q_assign rfl (by decide)) ?_)
  refine list_nil ?_
  refine hK4 _ ?_; clear hK4 K4
  refine code_block ?_
  refine code_loop (X := Int × Int × Int) (fun x => [(0, .par 0 (.sl a.length (a.map (.int .i64)))), (1, .par 1 (.sl b.length (b.map (.int .i64)))), (4, .val (.int .i64 x.1)), (5, .val (.int .i64 x.2.1)), (6, .val (.int .i64 x.2.2))]) (fun x => 0 ≤ x.2.2 ∧ x.2.2 ≤ a.length ∧ x.2.1 = chgK a b x.2.2.toNat) (fun x => (a.length - x.2.2).toNat) (_, _, _) (imp_covers ⟨rfl, rfl, rfl, rfl, rfl, trivial⟩) ?_ ?_
  · (try dsimp only)
    exact ⟨by omega, by omega, rfl⟩
  · intro x hI
    obtain ⟨t4, sum, i⟩ := x
    replace hI : 0 ≤ i ∧ i ≤ a.length ∧ sum = chgK a b i.toNat := hI
    show codeT _ _ _ [(0, .par 0 (.sl a.length (a.map (.int .i64)))), (1, .par 1 (.sl b.length (b.map (.int .i64)))), (4, .val (.int .i64 t4)), (5, .val (.int .i64 sum)), (6, .val (.int .i64 i))] _
    obtain ⟨i1, i2, rfl⟩ := hI
    have hc := chgK_le a b i.toNat
    have hd := cnt7_le ((a.getD i.toNat 0).toNat ^^^ (b.getD i.toNat 0).toNat)
    refine code_seq (fun K5 hK5 => ?_)
    refine code_seq (fun K6 hK6 => ?_)
    refine code_region ?_
    refine list_cons rfl (op_q (q_move rfl (by decide)) ?_)
    refine list_cons rfl (op_q (q_move rfl (by decide)) ?_)
    refine list_cons rfl (op_q (q_len_sl Tryz.underlying25 rfl rfl (by decide)) ?_)
    refine list_cons rfl (op_q (q_lt rfl rfl (by decide)) ?_)
    refine list_nil ?_
    refine hK6 _ ?_; clear hK6 K6
    refine code_cond_d rfl (fun h1 => ?_) (fun h1 => ?_)
    · skip
      (try simp only [Decidable.not_not] at h1)
      refine code_skip ?_
      refine hK5 _ ?_; clear hK5 K5
      refine code_seq (fun K7 hK7 => ?_)
      refine code_block ?_
      refine code_draw (by kernel_rfl) (by kernel_rfl) ?_
      refine draw_q rfl (q_move rfl (by decide)) ?_
      refine draw_q rfl (q_move rfl (by decide)) ?_
      refine draw_q rfl (q_move rfl (by decide)) ?_
      refine draw_q rfl (q_indexAddr_rd sl_25 rfl (.inl ⟨_, rfl, rfl⟩) rfl (by omega) (by omega) (by decide)) ?_
      refine draw_q rfl (q_load_rd one_3 rfl (.inl ⟨_, (by first | rfl | exact congrArg (SV.rpar _) (drop_map1 _ 0 _ (by first | omega | (simp; omega)))), rfl⟩) (by decide)) ?_
      refine draw_q rfl (q_move rfl (by decide)) ?_
      refine draw_q rfl (q_move rfl (by decide)) ?_
      refine draw_q rfl (q_indexAddr_rd sl_25 rfl (.inl ⟨_, rfl, rfl⟩) rfl (by omega) (by omega) (by decide)) ?_
      refine draw_q rfl (q_load_rd one_3 rfl (.inl ⟨_, (by first | rfl | exact congrArg (SV.rpar _) (drop_map1 _ 0 _ (by first | omega | (simp; omega)))), rfl⟩) (by decide)) ?_
      refine draw_call _ (spec_l2Far _ _ (ha i.toNat (by omega)) (hb i.toNat (by omega))) rfl rfl rfl (by decide) ?_
      refine draw_q rfl (by first | exact q_addI rfl rfl (by decide) (by omega) (by omega) | exact q_ib rfl rfl rfl (by decide)) ?_
      refine draw_q rfl (q_assign rfl (by decide)) ?_
      refine draw_nil ?_
      refine blk_n ?_
      refine hK7 _ ?_; clear hK7 K7
      refine codeT.imp (σ' := [(0, _), (1, _), (4, _), (5, _), (6, _)]) ?_ (imp_covers ⟨rfl, rfl, rfl, rfl, rfl, trivial⟩)
      refine code_region ?_
      refine list_cons rfl (op_q (q_move rfl (by decide)) ?_)
      refine list_cons rfl (op_q (by first | exact q_addI rfl rfl (by decide) (by omega) (by omega) | exact q_ib rfl rfl rfl (by decide)) ?_)
      refine list_cons rfl (op_q (q_assign rfl (by decide)) ?_)
      refine list_nil ?_
      refine then_n ⟨(_, _, _), imp_covers ⟨rfl, rfl, rfl, rfl, rfl, trivial⟩, ?_, ?_⟩
      · (try dsimp only)
        refine ⟨by omega, by omega, ?_⟩
        rw [show (i + 1).toNat = i.toNat + 1 by omega, chgK]
      · (try dsimp only); omega
    (try simp only [Decidable.not_not] at h1)
    refine code_exit ?_
    refine then_x ?_; clear hK5 K5
    refine then_x ?_
    refine blk_hit ?_
    refine hK3 _ ?_; clear hK3 K3
    refine code_seq (fun K8 hK8 => ?_)
    refine code_region ?_
    refine list_cons rfl (op_q (q_move rfl (by decide)) ?_)
    refine list_cons rfl (op_q (q_assign rfl (by decide)) ?_)
    refine list_nil ?_
    refine hK8 _ ?_; clear hK8 K8
    refine code_ret ?_
    refine ends_ret (cs := []) rfl rfl rfl rfl trivial ?_
    rw [show i.toNat = a.length by omega]
theorem spec_l4ChP (a b : List UInt8) (d e : Nat) (h : a.length + d = b.length + e) (h6 : a.length + d ≤ 6) : PCalls Tryz.prog 69 [.sl (a.length + d) ((rowW a ++ List.replicate d 0).map (.int .i64)), .sl (b.length + e) ((rowW b ++ List.replicate e 0).map (.int .i64))] (· = [.val (.int .i64 (chgW a b))]) := by
  have l1 : (rowW a ++ List.replicate d 0).length = a.length + d := by rw [List.length_append, rowW_len, List.length_replicate]
  have l2 : (rowW b ++ List.replicate e 0).length = b.length + e := by rw [List.length_append, rowW_len, List.length_replicate]
  have := spec_l4Ch6 (rowW a ++ List.replicate d 0) (rowW b ++ List.replicate e 0) (by omega) (by omega) (fun i _ => pad_cell a d i) (fun i _ => pad_cell b e i)
  rw [l1, l2, chgW_pad (by omega) (by omega) h6] at this
  exact this
set_option maxRecDepth 4000 in
theorem spec_WordChanges (a b : List UInt8) (ha : a.length ≤ 4611686018427387904) (hb : b.length ≤ 4611686018427387904) : PCalls Tryz.prog 33 [.str a, .str b] (· = [.val (.int .i64 (if WrdP a 6 ∧ WrdP b 6 then chgW a b else 0)), .val (.bool (decide (WrdP a 6 ∧ WrdP b 6)))]) := by
  refine pcalls_of_code (n := 39) az Tryz.func33 (by kernel_rfl) rfl rfl (Nat.le_of_ble_eq_true rfl) (by intro t u h; simp [Tryz.f33] at h) ?_
  have hla := rowW_len a
  have hlb := rowW_len b
  refine code_seq (fun K1 hK1 => ?_)
  refine code_region ?_
  refine list_cons rfl (op_q (q_assign rfl (by decide)) ?_)
  refine list_cons rfl (op_q (q_assign rfl (by decide)) ?_)
  refine list_nil ?_
  refine hK1 _ ?_; clear hK1 K1
  refine code_seq (fun K2 hK2 => ?_)
  refine code_seq (fun K3 hK3 => ?_)
  refine code_region ?_
  refine list_cons rfl (op_q (q_move rfl (by decide)) ?_)
  refine list_cons rfl (op_call _ (spec_l10Word _ _ (by first | omega | assumption) (by omega) (by omega)) rfl rfl (by decide) (by decide) (by decide) rfl ?_)
  rintro _ rfl
  refine list_cons rfl (op_q (by first | exact q_notd rfl (by decide) | exact q_not rfl (by decide)) ?_)
  refine list_cons rfl (op_q (q_move rfl (by decide)) ?_)
  refine list_guard_d rfl rfl rfl rfl (by decide) rfl (by decide) (fun h1 => ?_) (fun h1 => ?_)
  · simp only [Bool.false_eq_true, if_true, if_false, Decidable.not_not] at h1
    refine id (op_q (q_move rfl (by decide)) ?_)
    refine list_guard_y rfl rfl rfl rfl (by decide) rfl ?_
    refine id (op_call _ (spec_l10Word _ _ (by first | omega | assumption) (by omega) (by omega)) rfl rfl (by decide) (by decide) (by decide) rfl ?_)
    rintro _ rfl
    refine list_guard_y rfl rfl rfl rfl (by decide) rfl ?_
    refine id (op_q (by first | exact q_notd rfl (by decide) | exact q_not rfl (by decide)) ?_)
    refine list_cons rfl (op_q (q_pick rfl rfl (by decide)) ?_)
    refine list_nil ?_
    refine hK3 _ ?_; clear hK3 K3
    refine codeT.imp (σ' := [(0, _), (1, _), (4, _), (5, _), (15, _)]) ?_ (imp_covers ⟨rfl, rfl, rfl, rfl, rfl, trivial⟩)
    refine code_cond_d rfl (fun h2 => ?_) (fun h2 => ?_)
    · skip
      (try simp only [Decidable.not_not] at h2)
      refine code_seq (fun K4 hK4 => ?_)
      refine code_region ?_
      refine list_cons rfl (op_q (q_assign rfl (by decide)) ?_)
      refine list_cons rfl (op_q (q_assign rfl (by decide)) ?_)
      refine list_nil ?_
      refine hK4 _ ?_; clear hK4 K4
      refine code_ret ?_
      refine then_r ?_; clear hK2 K2
      refine ends_ret (cs := []) rfl rfl rfl rfl trivial ?_
      first
        | (have hn : ¬ (WrdP a 6 ∧ WrdP b 6) := fun z => by have z1 := z.1; have z2 := z.2; contradiction
           simp only [if_neg hn, decide_eq_false hn]; done)
        | (have hn : WrdP a 6 ∧ WrdP b 6 := ⟨hW, hV⟩
           simp only [if_pos hn, decide_eq_true hn]; done)
    (try simp only [Decidable.not_not] at h2)
    refine code_skip ?_
    refine hK2 _ ?_; clear hK2 K2
    refine code_seq (fun K5 hK5 => ?_)
    refine code_region ?_
    refine list_cons rfl (op_q (q_move rfl (by decide)) ?_)
    refine list_cons rfl (op_call _ (spec_l10Row a (show WrdP a 6 by assumption).2 (by have := (show WrdP a 6 by assumption).1; omega)) rfl rfl (by decide) (by decide) (by decide) rfl ?_)
    rintro _ rfl
    refine list_cons rfl (op_q (q_move rfl (by decide)) ?_)
    refine list_cons rfl (op_call _ (spec_l10Row b (show WrdP b 6 by assumption).2 (by have := (show WrdP b 6 by assumption).1; omega)) rfl rfl (by decide) (by decide) (by decide) rfl ?_)
    rintro _ rfl
    refine list_cons rfl (op_q (q_assign rfl (by decide)) ?_)
    refine list_cons rfl (op_q (q_assign rfl (by decide)) ?_)
    refine list_nil ?_
    refine hK5 _ ?_; clear hK5 K5
    refine codeT.imp (σ' := [(0, _), (1, _), (4, _), (5, _), (6, _), (7, _)]) ?_ (imp_covers ⟨rfl, rfl, rfl, rfl, rfl, rfl, trivial⟩)
    refine code_seq (fun K6 hK6 => ?_)
    refine code_block ?_
    refine code_loop (X := Int × Bool × Nat × List PV × Nat × List PV) (fun x => [(0, .val (.str a)), (1, .val (.str b)), (4, .val (.int .i64 x.1)), (5, .val (.bool x.2.1)), (6, .own 17 3 1 x.2.2.1 x.2.2.2.1), (7, .own 19 3 1 x.2.2.2.2.1 x.2.2.2.2.2)]) (fun x => (WrdP a 6 ∧ WrdP b 6) ∧ x.2.2.2.2.1 = b.length ∧ x.2.2.2.2.2 = (rowW b).map (.int .i64) ∧ ∃ d, x.2.2.1 = a.length + d ∧ x.2.2.2.1 = (rowW a ++ List.replicate d 0).map (.int .i64) ∧ (d = 0 ∨ a.length + d ≤ b.length)) (fun x => b.length - x.2.2.1) (_, _, _, _, _, _) (imp_covers ⟨rfl, rfl, rfl, rfl, rfl, rfl, trivial⟩) ?_ ?_
    · (try dsimp only)
      exact ⟨⟨by assumption, by assumption⟩, by omega, rfl, 0, by omega, by simp, .inl rfl⟩
    · intro x hI
      obtain ⟨t4, t5, x__n, x__c, y_n, y_c⟩ := x
      replace hI : (WrdP a 6 ∧ WrdP b 6) ∧ y_n = b.length ∧ y_c = (rowW b).map (.int .i64) ∧ ∃ d, x__n = a.length + d ∧ x__c = (rowW a ++ List.replicate d 0).map (.int .i64) ∧ (d = 0 ∨ a.length + d ≤ b.length) := hI
      show codeT _ _ _ [(0, .val (.str a)), (1, .val (.str b)), (4, .val (.int .i64 t4)), (5, .val (.bool t5)), (6, .own 17 3 1 x__n x__c), (7, .own 19 3 1 y_n y_c)] _
      obtain ⟨⟨hW, hV⟩, rfl, rfl, d, rfl, rfl, hd⟩ := hI
      have hW6 := hW.1
      have hV6 := hV.1
      refine code_seq (fun K7 hK7 => ?_)
      refine code_seq (fun K8 hK8 => ?_)
      refine code_region ?_
      refine list_cons rfl (op_q (q_move rfl (by decide)) ?_)
      refine list_cons rfl (op_q (q_len_sl Tryz.underlying25 rfl rfl (by decide)) ?_)
      refine list_cons rfl (op_q (q_move rfl (by decide)) ?_)
      refine list_cons rfl (op_q (q_len_sl Tryz.underlying25 rfl rfl (by decide)) ?_)
      refine list_cons rfl (op_q (q_lt rfl rfl (by decide)) ?_)
      refine list_nil ?_
      refine hK8 _ ?_; clear hK8 K8
      refine code_cond_d rfl (fun h3 => ?_) (fun h3 => ?_)
      · skip
        (try simp only [Decidable.not_not] at h3)
        refine code_skip ?_
        refine hK7 _ ?_; clear hK7 K7
        refine code_block ?_
        refine code_region ?_
        refine list_cons rfl (op_q (q_move rfl (by decide)) ?_)
        refine list_cons rfl (op_buildSlice sl_25 (parts := [(0, _)]) rfl rfl rfl (by decide) (by decide) (by decide) rfl ?_)
        refine list_cons rfl (op_append_gen sl_25 (l := 17) (.inl rfl) rfl rfl (l2 := none) (.inl ⟨rfl, (by first | rfl | exact flat_map _ (fun _ => rfl) _)⟩) (by first | rfl | (simp; done) | (simp; omega)) (by omega) (by decide) (by decide) (by decide) ?_)
        refine list_cons rfl (op_q (q_assign rfl (by decide)) ?_)
        refine list_nil ?_
        refine blk_n ?_
        refine then_n ⟨(_, _, _, _, _, _), imp_covers ⟨rfl, rfl, rfl, rfl, rfl, rfl, trivial⟩, ?_, ?_⟩
        · (try dsimp only)
          exact ⟨⟨hW, hV⟩, rfl, rfl, d + 1, by omega, by rw [List.replicate_succ', ← List.append_assoc]; exact (List.map_append (f := PV.int .i64) (l₁ := rowW a ++ List.replicate d 0) (l₂ := [0])).symm, .inr (by omega)⟩
        · (try dsimp only); omega
      (try simp only [Decidable.not_not] at h3)
      refine code_exit ?_
      refine then_x ?_; clear hK7 K7
      refine then_x ?_
      refine blk_hit ?_
      refine hK6 _ ?_; clear hK6 K6
      refine codeT.imp (σ' := [(0, _), (1, _), (4, _), (5, _), (6, _), (7, _)]) ?_ (imp_covers ⟨rfl, rfl, rfl, rfl, rfl, rfl, trivial⟩)
      refine code_seq (fun K9 hK9 => ?_)
      refine code_block ?_
      refine code_loop (X := Int × Bool × Nat × List PV × Nat × List PV) (fun x => [(0, .val (.str a)), (1, .val (.str b)), (4, .val (.int .i64 x.1)), (5, .val (.bool x.2.1)), (6, .own 17 3 1 x.2.2.1 x.2.2.2.1), (7, .own 19 3 1 x.2.2.2.2.1 x.2.2.2.2.2)]) (fun x => ∃ d e, x.2.2.1 = a.length + d ∧ x.2.2.2.1 = (rowW a ++ List.replicate d 0).map (.int .i64) ∧ x.2.2.2.2.1 = b.length + e ∧ x.2.2.2.2.2 = (rowW b ++ List.replicate e 0).map (.int .i64) ∧ b.length + e ≤ a.length + d ∧ a.length + d ≤ 6) (fun x => x.2.2.1 - x.2.2.2.2.1) (_, _, _, _, _, _) (imp_covers ⟨rfl, rfl, rfl, rfl, rfl, rfl, trivial⟩) ?_ ?_
      · (try dsimp only)
        exact ⟨d, 0, rfl, rfl, by omega, by simp, by omega, by omega⟩
      · intro x hI
        obtain ⟨t4, t5, x__n, x__c, y_n, y_c⟩ := x
        replace hI : ∃ d e, x__n = a.length + d ∧ x__c = (rowW a ++ List.replicate d 0).map (.int .i64) ∧ y_n = b.length + e ∧ y_c = (rowW b ++ List.replicate e 0).map (.int .i64) ∧ b.length + e ≤ a.length + d ∧ a.length + d ≤ 6 := hI
        show codeT _ _ _ [(0, .val (.str a)), (1, .val (.str b)), (4, .val (.int .i64 t4)), (5, .val (.bool t5)), (6, .own 17 3 1 x__n x__c), (7, .own 19 3 1 y_n y_c)] _
        obtain ⟨d1, e, rfl, rfl, rfl, rfl, i1, i2⟩ := hI
        refine code_seq (fun K10 hK10 => ?_)
        refine code_seq (fun K11 hK11 => ?_)
        refine code_region ?_
        refine list_cons rfl (op_q (q_move rfl (by decide)) ?_)
        refine list_cons rfl (op_q (q_len_sl Tryz.underlying25 rfl rfl (by decide)) ?_)
        refine list_cons rfl (op_q (q_move rfl (by decide)) ?_)
        refine list_cons rfl (op_q (q_len_sl Tryz.underlying25 rfl rfl (by decide)) ?_)
        refine list_cons rfl (op_q (q_lt rfl rfl (by decide)) ?_)
        refine list_nil ?_
        refine hK11 _ ?_; clear hK11 K11
        refine code_cond_d rfl (fun h4 => ?_) (fun h4 => ?_)
        · skip
          (try simp only [Decidable.not_not] at h4)
          refine code_skip ?_
          refine hK10 _ ?_; clear hK10 K10
          refine code_block ?_
          refine code_region ?_
          refine list_cons rfl (op_q (q_move rfl (by decide)) ?_)
          refine list_cons rfl (op_buildSlice sl_25 (parts := [(0, _)]) rfl rfl rfl (by decide) (by decide) (by decide) rfl ?_)
          refine list_cons rfl (op_append_gen sl_25 (l := 19) (.inl rfl) rfl rfl (l2 := none) (.inl ⟨rfl, (by first | rfl | exact flat_map _ (fun _ => rfl) _)⟩) (by first | rfl | (simp; done) | (simp; omega)) (by omega) (by decide) (by decide) (by decide) ?_)
          refine list_cons rfl (op_q (q_assign rfl (by decide)) ?_)
          refine list_nil ?_
          refine blk_n ?_
          refine then_n ⟨(_, _, _, _, _, _), imp_covers ⟨rfl, rfl, rfl, rfl, rfl, rfl, trivial⟩, ?_, ?_⟩
          · (try dsimp only)
            exact ⟨d1, e + 1, rfl, rfl, by omega, by rw [List.replicate_succ', ← List.append_assoc]; exact (List.map_append (f := PV.int .i64) (l₁ := rowW b ++ List.replicate e 0) (l₂ := [0])).symm, by omega, by omega⟩
          · (try dsimp only); omega
        (try simp only [Decidable.not_not] at h4)
        refine code_exit ?_
        refine then_x ?_; clear hK10 K10
        refine then_x ?_
        refine blk_hit ?_
        refine hK9 _ ?_; clear hK9 K9
        refine codeT.imp (σ' := [(0, _), (1, _), (4, _), (5, _), (6, _), (7, _)]) ?_ (imp_covers ⟨rfl, rfl, rfl, rfl, rfl, rfl, trivial⟩)
        refine code_seq (fun K12 hK12 => ?_)
        refine code_region ?_
        refine list_cons rfl (op_q (q_move rfl (by decide)) ?_)
        refine list_cons rfl (op_q (q_move rfl (by decide)) ?_)
        refine list_cons rfl (op_call _ (spec_l4ChP a b d1 e (by omega) (by omega)) rfl rfl (by decide) (by decide) (by decide) rfl ?_)
        rintro _ rfl
        refine list_cons rfl (op_q (q_assign rfl (by decide)) ?_)
        refine list_cons rfl (op_q (q_assign rfl (by decide)) ?_)
        refine list_nil ?_
        refine hK12 _ ?_; clear hK12 K12
        refine codeT.imp (σ' := [(0, _), (1, _), (4, _), (5, _), (6, _), (7, _)]) ?_ (imp_covers ⟨rfl, rfl, rfl, rfl, rfl, rfl, trivial⟩)
        refine code_ret ?_
        refine ends_ret (cs := []) rfl rfl rfl rfl trivial ?_
        first
          | (have hn : ¬ (WrdP a 6 ∧ WrdP b 6) := fun z => by have z1 := z.1; have z2 := z.2; contradiction
             simp only [if_neg hn, decide_eq_false hn]; done)
          | (have hn : WrdP a 6 ∧ WrdP b 6 := ⟨hW, hV⟩
             simp only [if_pos hn, decide_eq_true hn]; done)
  simp only [Bool.false_eq_true, if_true, if_false, Decidable.not_not] at h1
  refine list_guard_n rfl rfl rfl rfl (by decide) rfl ?_
  refine list_guard_n rfl rfl rfl rfl (by decide) rfl ?_
  refine list_cons rfl (op_q (q_pick rfl rfl (by decide)) ?_)
  refine list_nil ?_
  refine hK3 _ ?_; clear hK3 K3
  refine code_cond_t rfl ?_
  refine code_seq (fun K13 hK13 => ?_)
  refine code_region ?_
  refine list_cons rfl (op_q (q_assign rfl (by decide)) ?_)
  refine list_cons rfl (op_q (q_assign rfl (by decide)) ?_)
  refine list_nil ?_
  refine hK13 _ ?_; clear hK13 K13
  refine code_ret ?_
  refine then_r ?_; clear hK2 K2
  refine ends_ret (cs := []) rfl rfl rfl rfl trivial ?_
  first
    | (have hn : ¬ (WrdP a 6 ∧ WrdP b 6) := fun z => by have z1 := z.1; have z2 := z.2; contradiction
       simp only [if_neg hn, decide_eq_false hn]; done)
    | (have hn : WrdP a 6 ∧ WrdP b 6 := ⟨hW, hV⟩
       simp only [if_pos hn, decide_eq_true hn]; done)
end Go.Proofs.YtgpgjaebhfhjoabGreatDoor
