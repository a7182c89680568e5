/- Contracts of functions, walked over the pure layer; each says for which arguments. -/
import Derived.Test.YtjbbijlbenkgcaaDoorI4Ty
import Derived.Test.YtjbbijlbenkgcaaDoorTf
import Derived.Test.YtjbbijlbenkgcaaDoorSp
import Derived.Test.YtjbbijlbenkgcaaDoorShelf
import Derived.Test.YtjbbijlbenkgcaaDoorS4
import Derived.Test.YtjbbijlbenkgcaaDoorIm
namespace Go.Proofs.YtjbbijlbenkgcaaDoor
open Go.RowKit I4Ty
set_option linter.unusedVariables false
set_option linter.unusedSimpArgs false

set_option maxRecDepth 4000 in
theorem impl_greatestShown (k : Int) : PCalls Tryd.prog 115 [.int .i64 k] (· = [.val (.int .i64 (if 1 ≤ k ∧ k ≤ 6 then top4 k - 1 else 0)), .val (.bool (decide (1 ≤ k ∧ k ≤ 6)))]) := by
  refine pcalls_of_code (n := 19) az Tryd.func115 (by kernel_rfl) rfl rfl (Nat.le_of_ble_eq_true rfl) (by intro t u h; simp [Tryd.f115] at h) ?_
  refine code_seq (fun K1 hK1 => ?_)
  refine code_region ?_
  refine list_cons rfl (op_q (q_assign rfl (by decide)) ?_)
  refine list_cons rfl (op_q (q_assign rfl (by decide)) ?_)
  refine list_nil ?_
  refine hK1 _ ?_; clear hK1 K1
  refine code_seq (fun K2 hK2 => ?_)
  refine code_seq (fun K3 hK3 => ?_)
  refine code_region ?_
  refine list_cons rfl (op_q (q_move rfl (by decide)) ?_)
  refine list_cons rfl (op_q (q_lt rfl rfl (by decide)) ?_)
  refine list_cons rfl (op_q (q_move rfl (by decide)) ?_)
  refine list_guard_d rfl rfl rfl rfl (by decide) rfl (by decide) (fun h1 => ?_) (fun h1 => ?_)
  · simp only [Bool.false_eq_true, if_true, if_false, Decidable.not_not] at h1
    refine id (op_q (q_move rfl (by decide)) ?_)
    refine list_guard_y rfl rfl rfl rfl (by decide) rfl ?_
    refine id (op_q (q_gt rfl rfl (by decide)) ?_)
    refine list_cons rfl (op_q (q_pick rfl rfl (by decide)) ?_)
    refine list_nil ?_
    refine hK3 _ ?_; clear hK3 K3
    refine code_cond_d rfl (fun h2 => ?_) (fun h2 => ?_)
    · skip
      (try simp only [Decidable.not_not] at h2)
      refine code_seq (fun K4 hK4 => ?_)
      refine code_region ?_
      refine list_cons rfl (op_q (q_assign rfl (by decide)) ?_)
      refine list_cons rfl (op_q (q_assign rfl (by decide)) ?_)
      refine list_nil ?_
      refine hK4 _ ?_; clear hK4 K4
      refine code_ret ?_
      refine then_r ?_; clear hK2 K2
      refine ends_ret (cs := []) rfl rfl rfl rfl trivial ?_
      first | (have e : ¬ (1 ≤ k ∧ k ≤ 6) := (by omega); simp only [if_neg e, decide_eq_false e]) | (have e : 1 ≤ t11 ∧ t11 ≤ 6 := (by omega); simp only [if_pos e, decide_eq_true e]; rw [show t12 = t11 by omega])
    · skip
      (try simp only [Decidable.not_not] at h2)
      refine code_skip ?_
      refine hK2 _ ?_; clear hK2 K2
      refine code_seq (fun K5 hK5 => ?_)
      refine code_region ?_
      refine list_cons rfl (op_q (q_assign rfl (by decide)) ?_)
      refine list_nil ?_
      refine hK5 _ ?_; clear hK5 K5
      refine code_seq (fun K6 hK6 => ?_)
      refine code_seq (fun K7 hK7 => ?_)
      refine code_region ?_
      refine list_cons rfl (op_q (q_move rfl (by decide)) ?_)
      refine list_cons rfl (op_q (q_move rfl (by decide)) ?_)
      refine list_nil ?_
      refine hK7 _ ?_; clear hK7 K7
      refine code_block ?_
      refine code_loop (X := Int × Bool × Int × Int × Int) (fun x => [(0, .val (.int .i64 k)), (2, .val (.int .i64 x.1)), (3, .val (.bool x.2.1)), (4, .val (.int .i64 x.2.2.1)), (11, .val (.int .i64 x.2.2.2.1)), (12, .val (.int .i64 x.2.2.2.2))]) (fun x => 0 ≤ x.2.2.2.2 ∧ x.2.2.2.2 ≤ k ∧ x.2.2.1 = top4 x.2.2.2.2 - 1 ∧ x.2.2.2.1 = k) (fun x => (k - x.2.2.2.2).toNat) (_, _, _, _, _) (imp_covers ⟨rfl, rfl, rfl, rfl, rfl, rfl, trivial⟩) ?_ ?_
      · (try dsimp only)
        exact ⟨by omega, by omega, rfl, rfl⟩
      · intro x hI
        obtain ⟨t2, t3, greatest, t11, t12⟩ := x
        replace hI : 0 ≤ t12 ∧ t12 ≤ k ∧ greatest = top4 t12 - 1 ∧ t11 = k := hI
        show codeT _ _ _ [(0, .val (.int .i64 k)), (2, .val (.int .i64 t2)), (3, .val (.bool t3)), (4, .val (.int .i64 greatest)), (11, .val (.int .i64 t11)), (12, .val (.int .i64 t12))] _
        obtain ⟨i1, i2, rfl, rfl⟩ := hI
        have ht := top4_le i1 (by omega)
        refine code_seq (fun K8 hK8 => ?_)
        refine code_region ?_
        refine list_cons rfl (op_q (q_lt rfl rfl (by decide)) ?_)
        refine list_nil ?_
        refine hK8 _ ?_; clear hK8 K8
        refine code_seq (fun K9 hK9 => ?_)
        refine code_cond_d rfl (fun h3 => ?_) (fun h3 => ?_)
        · skip
          (try simp only [Decidable.not_not] at h3)
          refine code_skip ?_
          refine hK9 _ ?_; clear hK9 K9
          refine code_seq (fun K10 hK10 => ?_)
          refine code_block ?_
          refine code_region ?_
          refine list_cons rfl (op_q (q_move rfl (by decide)) ?_)
          refine list_cons rfl (op_q (by first | exact q_mulI rfl rfl (by decide) (by omega) (by omega) | exact q_ib rfl rfl rfl (by decide)) ?_)
          refine list_cons rfl (op_q (by first | exact q_addI rfl rfl (by decide) (by omega) (by omega) | exact q_ib rfl rfl rfl (by decide)) ?_)
          refine list_cons rfl (op_q (q_assign rfl (by decide)) ?_)
          refine list_nil ?_
          refine blk_n ?_
          refine hK10 _ ?_; clear hK10 K10
          refine code_region ?_
          refine list_cons rfl (op_q (by first | exact q_addI rfl rfl (by decide) (by omega) (by omega) | exact q_ib rfl rfl rfl (by decide)) ?_)
          refine list_cons rfl (op_q (q_move rfl (by decide)) ?_)
          refine list_nil ?_
          refine then_n ⟨(_, _, _, _, _), imp_covers ⟨rfl, rfl, rfl, rfl, rfl, rfl, trivial⟩, ?_, ?_⟩
          · (try dsimp only)
            refine ⟨by omega, by omega, ?_, rfl⟩
            unfold top4
            rw [show (t12 + 1).toNat = t12.toNat + 1 by omega, Nat.pow_succ]; omega
          · (try dsimp only); omega
        · skip
          (try simp only [Decidable.not_not] at h3)
          refine code_exit ?_
          refine then_x ?_; clear hK9 K9
          refine then_x ?_
          refine blk_hit ?_
          refine hK6 _ ?_; clear hK6 K6
          refine code_seq (fun K11 hK11 => ?_)
          refine code_region ?_
          refine list_cons rfl (op_q (q_move rfl (by decide)) ?_)
          refine list_cons rfl (op_q (q_assign rfl (by decide)) ?_)
          refine list_cons rfl (op_q (q_assign rfl (by decide)) ?_)
          refine list_nil ?_
          refine hK11 _ ?_; clear hK11 K11
          refine code_ret ?_
          refine ends_ret (cs := []) rfl rfl rfl rfl trivial ?_
          first | (have e : ¬ (1 ≤ k ∧ k ≤ 6) := (by omega); simp only [if_neg e, decide_eq_false e]) | (have e : 1 ≤ t11 ∧ t11 ≤ 6 := (by omega); simp only [if_pos e, decide_eq_true e]; rw [show t12 = t11 by omega])
  · simp only [Bool.false_eq_true, if_true, if_false, Decidable.not_not] at h1
    refine list_guard_n rfl rfl rfl rfl (by decide) rfl ?_
    refine list_cons rfl (op_q (q_pick rfl rfl (by decide)) ?_)
    refine list_nil ?_
    refine hK3 _ ?_; clear hK3 K3
    refine code_cond_t rfl ?_
    refine code_seq (fun K12 hK12 => ?_)
    refine code_region ?_
    refine list_cons rfl (op_q (q_assign rfl (by decide)) ?_)
    refine list_cons rfl (op_q (q_assign rfl (by decide)) ?_)
    refine list_nil ?_
    refine hK12 _ ?_; clear hK12 K12
    refine code_ret ?_
    refine then_r ?_; clear hK2 K2
    refine ends_ret (cs := []) rfl rfl rfl rfl trivial ?_
    first | (have e : ¬ (1 ≤ k ∧ k ≤ 6) := (by omega); simp only [if_neg e, decide_eq_false e]) | (have e : 1 ≤ t11 ∧ t11 ≤ 6 := (by omega); simp only [if_pos e, decide_eq_true e]; rw [show t12 = t11 by omega])

set_option maxRecDepth 4000 in
theorem impl_isShown (n k : Int) : PCalls Tryd.prog 114 [.int .i64 n, .int .i64 k] (· = [.val (.bool (decide (Cn n k)))]) := by
  refine pcalls_of_code (n := 22) az Tryd.func114 (by kernel_rfl) rfl rfl (Nat.le_of_ble_eq_true rfl) (by intro t u h; simp [Tryd.f114] at h) ?_
  refine code_seq (fun K1 hK1 => ?_)
  refine code_region ?_
  refine list_cons rfl (op_q (q_assign rfl (by decide)) ?_)
  refine list_nil ?_
  refine hK1 _ ?_; clear hK1 K1
  refine code_seq (fun K2 hK2 => ?_)
  refine code_region ?_
  refine list_cons rfl (op_q (q_move rfl (by decide)) ?_)
  refine list_cons rfl (op_call _ (impl_greatestShown k) rfl rfl (by decide) (by decide) (by decide) rfl ?_)
  rintro _ rfl
  refine list_cons rfl (op_q (q_move rfl (by decide)) ?_)
  refine list_cons rfl (op_q (q_extract rfl rfl (by decide)) ?_)
  refine list_cons rfl (op_q (q_extract rfl rfl (by decide)) ?_)
  refine list_cons rfl (op_q (q_assign rfl (by decide)) ?_)
  refine list_cons rfl (op_q (q_assign rfl (by decide)) ?_)
  refine list_nil ?_
  refine hK2 _ ?_; clear hK2 K2
  refine codeT.imp (σ' := [(0, _), (1, _), (4, _), (5, _), (6, _)]) ?_ (imp_covers ⟨rfl, rfl, rfl, rfl, rfl, trivial⟩)
  refine code_seq (fun K3 hK3 => ?_)
  refine code_region ?_
  refine list_cons rfl (op_q (q_move rfl (by decide)) ?_)
  refine list_cons rfl (op_q (q_move rfl (by decide)) ?_)
  refine list_guard_d rfl rfl rfl rfl (by decide) rfl (by decide) (fun h1 => ?_) (fun h1 => ?_)
  · simp only [Bool.false_eq_true, if_true, if_false, Decidable.not_not] at h1
    refine id (op_q (q_move rfl (by decide)) ?_)
    refine list_guard_y rfl rfl rfl rfl (by decide) rfl ?_
    refine id (op_q (q_ge rfl rfl (by decide)) ?_)
    refine list_cons rfl (op_q (q_pick rfl rfl (by decide)) ?_)
    refine list_cons rfl (op_q (q_move rfl (by decide)) ?_)
    refine list_guard_d rfl rfl rfl rfl (by decide) rfl (by decide) (fun h2 => ?_) (fun h2 => ?_)
    · simp only [Bool.false_eq_true, if_true, if_false, Decidable.not_not] at h2
      refine id (op_q (q_move rfl (by decide)) ?_)
      refine list_guard_y rfl rfl rfl rfl (by decide) rfl ?_
      refine id (op_q (q_move rfl (by decide)) ?_)
      refine list_guard_y rfl rfl rfl rfl (by decide) rfl ?_
      refine id (op_q (q_le rfl rfl (by decide)) ?_)
      refine list_cons rfl (op_q (q_pick rfl rfl (by decide)) ?_)
      refine list_cons rfl (op_q (q_assign rfl (by decide)) ?_)
      refine list_nil ?_
      refine hK3 _ ?_; clear hK3 K3
      refine codeT.imp (σ' := [(0, _), (1, _), (4, _), (5, _), (6, _)]) ?_ (imp_covers ⟨rfl, rfl, rfl, rfl, rfl, trivial⟩)
      refine code_ret ?_
      refine ends_ret (cs := []) rfl rfl rfl rfl trivial ?_
      first | (have e : ¬ Cn n k := (by unfold Cn; omega); simp only [decide_eq_false e]) | (have h0 := h2; have e : 1 ≤ k ∧ k ≤ 6 := (by omega); simp only [if_pos e, List.cons.injEq, SV.val.injEq, PV.bool.injEq, and_true, decide_eq_decide]; unfold Cn; omega)
    · simp only [Bool.false_eq_true, if_true, if_false, Decidable.not_not] at h2
      refine list_guard_n rfl rfl rfl rfl (by decide) rfl ?_
      refine list_guard_n rfl rfl rfl rfl (by decide) rfl ?_
      refine list_cons rfl (op_q (q_pick rfl rfl (by decide)) ?_)
      refine list_cons rfl (op_q (q_assign rfl (by decide)) ?_)
      refine list_nil ?_
      refine hK3 _ ?_; clear hK3 K3
      refine codeT.imp (σ' := [(0, _), (1, _), (4, _), (5, _), (6, _)]) ?_ (imp_covers ⟨rfl, rfl, rfl, rfl, rfl, trivial⟩)
      refine code_ret ?_
      refine ends_ret (cs := []) rfl rfl rfl rfl trivial ?_
      first | (have e : ¬ Cn n k := (by unfold Cn; omega); simp only [decide_eq_false e]) | (have h0 := h2; have e : 1 ≤ k ∧ k ≤ 6 := (by omega); simp only [if_pos e, List.cons.injEq, SV.val.injEq, PV.bool.injEq, and_true, decide_eq_decide]; unfold Cn; omega)
  · simp only [Bool.false_eq_true, if_true, if_false, Decidable.not_not] at h1
    refine list_guard_n rfl rfl rfl rfl (by decide) rfl ?_
    refine list_cons rfl (op_q (q_pick rfl rfl (by decide)) ?_)
    refine list_cons rfl (op_q (q_move rfl (by decide)) ?_)
    refine list_guard_n rfl rfl rfl rfl (by decide) rfl ?_
    refine list_guard_n rfl rfl rfl rfl (by decide) rfl ?_
    refine list_guard_n rfl rfl rfl rfl (by decide) rfl ?_
    refine list_cons rfl (op_q (q_pick rfl rfl (by decide)) ?_)
    refine list_cons rfl (op_q (q_assign rfl (by decide)) ?_)
    refine list_nil ?_
    refine hK3 _ ?_; clear hK3 K3
    refine code_ret ?_
    refine ends_ret (cs := []) rfl rfl rfl rfl trivial ?_
    first | (have e : ¬ Cn n k := (by unfold Cn; omega); simp only [decide_eq_false e]) | (have h0 := h1; have e : 1 ≤ k ∧ k ≤ 6 := (by omega); simp only [if_pos e, List.cons.injEq, SV.val.injEq, PV.bool.injEq, and_true, decide_eq_decide]; unfold Cn; omega)

set_option maxRecDepth 4000 in
theorem impl_isRun (n s k : Int) : PCalls Tryd.prog 102 [.int .i64 n, .int .i64 s, .int .i64 k] (· = [.val (.bool (decide (Cn n k ∧ 0 ≤ s ∧ s ≤ 1000)))]) := by
  refine pcalls_of_code (n := 18) az Tryd.func102 (by kernel_rfl) rfl rfl (Nat.le_of_ble_eq_true rfl) (by intro t u h; simp [Tryd.f102] at h) ?_
  refine code_seq (fun K1 hK1 => ?_)
  refine code_region ?_
  refine list_cons rfl (op_q (q_assign rfl (by decide)) ?_)
  refine list_nil ?_
  refine hK1 _ ?_; clear hK1 K1
  refine code_seq (fun K2 hK2 => ?_)
  refine code_region ?_
  refine list_cons rfl (op_q (q_move rfl (by decide)) ?_)
  refine list_cons rfl (op_q (q_move rfl (by decide)) ?_)
  refine list_cons rfl (op_call _ (impl_isShown _ _) rfl rfl (by decide) (by decide) (by decide) rfl ?_)
  rintro _ rfl
  refine list_cons rfl (op_q (q_move rfl (by decide)) ?_)
  refine list_guard_d rfl rfl rfl rfl (by decide) rfl (by decide) (fun h1 => ?_) (fun h1 => ?_)
  · simp only [Bool.false_eq_true, if_true, if_false, Decidable.not_not] at h1
    refine id (op_q (q_move rfl (by decide)) ?_)
    refine list_guard_y rfl rfl rfl rfl (by decide) rfl ?_
    refine id (op_q (q_ge rfl rfl (by decide)) ?_)
    refine list_cons rfl (op_q (q_pick rfl rfl (by decide)) ?_)
    refine list_cons rfl (op_q (q_move rfl (by decide)) ?_)
    refine list_guard_d rfl rfl rfl rfl (by decide) rfl (by decide) (fun h2 => ?_) (fun h2 => ?_)
    · simp only [Bool.false_eq_true, if_true, if_false, Decidable.not_not] at h2
      refine id (op_q (q_move rfl (by decide)) ?_)
      refine list_guard_y rfl rfl rfl rfl (by decide) rfl ?_
      refine id (op_q (q_le rfl rfl (by decide)) ?_)
      refine list_cons rfl (op_q (q_pick rfl rfl (by decide)) ?_)
      refine list_cons rfl (op_q (q_assign rfl (by decide)) ?_)
      refine list_nil ?_
      refine hK2 _ ?_; clear hK2 K2
      refine codeT.imp (σ' := [(0, _), (1, _), (2, _), (6, _)]) ?_ (imp_covers ⟨rfl, rfl, rfl, rfl, trivial⟩)
      refine code_ret ?_
      refine ends_ret (cs := []) rfl rfl rfl rfl trivial ?_
      first | (have e : ¬ (Cn n k ∧ 0 ≤ s ∧ s ≤ 1000) := (by rintro ⟨a, b, c⟩; first | exact absurd a (by assumption) | omega); simp only [decide_eq_false e]) | (simp only [List.cons.injEq, SV.val.injEq, PV.bool.injEq, and_true, decide_eq_decide]; exact ⟨fun g => ⟨by assumption, by omega, g⟩, fun g => g.2.2⟩)
    · simp only [Bool.false_eq_true, if_true, if_false, Decidable.not_not] at h2
      refine list_guard_n rfl rfl rfl rfl (by decide) rfl ?_
      refine list_cons rfl (op_q (q_pick rfl rfl (by decide)) ?_)
      refine list_cons rfl (op_q (q_assign rfl (by decide)) ?_)
      refine list_nil ?_
      refine hK2 _ ?_; clear hK2 K2
      refine codeT.imp (σ' := [(0, _), (1, _), (2, _), (6, _)]) ?_ (imp_covers ⟨rfl, rfl, rfl, rfl, trivial⟩)
      refine code_ret ?_
      refine ends_ret (cs := []) rfl rfl rfl rfl trivial ?_
      first | (have e : ¬ (Cn n k ∧ 0 ≤ s ∧ s ≤ 1000) := (by rintro ⟨a, b, c⟩; first | exact absurd a (by assumption) | omega); simp only [decide_eq_false e]) | (simp only [List.cons.injEq, SV.val.injEq, PV.bool.injEq, and_true, decide_eq_decide]; exact ⟨fun g => ⟨by assumption, by omega, g⟩, fun g => g.2.2⟩)
  · simp only [Bool.false_eq_true, if_true, if_false, Decidable.not_not] at h1
    refine list_guard_n rfl rfl rfl rfl (by decide) rfl ?_
    refine list_cons rfl (op_q (q_pick rfl rfl (by decide)) ?_)
    refine list_cons rfl (op_q (q_move rfl (by decide)) ?_)
    refine list_guard_n rfl rfl rfl rfl (by decide) rfl ?_
    refine list_guard_n rfl rfl rfl rfl (by decide) rfl ?_
    refine list_cons rfl (op_q (q_pick rfl rfl (by decide)) ?_)
    refine list_cons rfl (op_q (q_assign rfl (by decide)) ?_)
    refine list_nil ?_
    refine hK2 _ ?_; clear hK2 K2
    refine codeT.imp (σ' := [(0, _), (1, _), (2, _), (6, _)]) ?_ (imp_covers ⟨rfl, rfl, rfl, rfl, trivial⟩)
    refine code_ret ?_
    refine ends_ret (cs := []) rfl rfl rfl rfl trivial ?_
    first | (have e : ¬ (Cn n k ∧ 0 ≤ s ∧ s ≤ 1000) := (by rintro ⟨a, b, c⟩; first | exact absurd a (by assumption) | omega); simp only [decide_eq_false e]) | (simp only [List.cons.injEq, SV.val.injEq, PV.bool.injEq, and_true, decide_eq_decide]; exact ⟨fun g => ⟨by assumption, by omega, g⟩, fun g => g.2.2⟩)

set_option maxRecDepth 4000 in
theorem impl_afterStep (n k : Int) (h : Cn n k) : PCalls Tryd.prog 130 [.int .i64 n, .int .i64 k] (· = [.val (.int .i64 (nextC n k))]) := by
  refine pcalls_of_code (n := 12) az Tryd.func130 (by kernel_rfl) rfl rfl (Nat.le_of_ble_eq_true rfl) (by intro t u h; simp [Tryd.f130] at h) ?_
  have g := h
  obtain ⟨⟨g1, g2⟩, g3, g4⟩ := g
  have ht := top4_le (k := k) (by omega) (by omega)
  refine code_seq (fun K1 hK1 => ?_)
  refine code_region ?_
  refine list_cons rfl (op_q (q_assign rfl (by decide)) ?_)
  refine list_nil ?_
  refine hK1 _ ?_; clear hK1 K1
  refine code_seq (fun K2 hK2 => ?_)
  refine code_seq (fun K3 hK3 => ?_)
  refine code_region ?_
  refine list_cons rfl (op_q (q_move rfl (by decide)) ?_)
  refine list_cons rfl (op_q (by first | exact q_addI rfl rfl (by decide) (by omega) (by omega) | exact q_ib rfl rfl rfl (by decide)) ?_)
  refine list_cons rfl (op_q (q_move rfl (by decide)) ?_)
  refine list_cons rfl (op_call _ (impl_isShown _ _) rfl rfl (by decide) (by decide) (by decide) rfl ?_)
  rintro _ rfl
  refine list_cons rfl (op_q (by first | exact q_notd rfl (by decide) | exact q_not rfl (by decide)) ?_)
  refine list_nil ?_
  refine hK3 _ ?_; clear hK3 K3
  refine codeT.imp (σ' := [(0, _), (1, _), (4, _), (9, _)]) ?_ (imp_covers ⟨rfl, rfl, rfl, rfl, trivial⟩)
  refine code_cond_d rfl (fun h1 => ?_) (fun h1 => ?_)
  · skip
    (try simp only [Decidable.not_not] at h1)
    refine code_seq (fun K4 hK4 => ?_)
    refine code_region ?_
    refine list_cons rfl (op_q (q_assign rfl (by decide)) ?_)
    refine list_nil ?_
    refine hK4 _ ?_; clear hK4 K4
    refine code_ret ?_
    refine then_r ?_; clear hK2 K2
    refine ends_ret (cs := []) rfl rfl rfl rfl trivial ?_
    have e : ¬ n + 1 < top4 k := by (intro e; exact h1 (by unfold Cn; omega))
    rw [nextC_top h e]
  · skip
    (try simp only [Decidable.not_not] at h1)
    refine code_skip ?_
    refine hK2 _ ?_; clear hK2 K2
    refine code_seq (fun K5 hK5 => ?_)
    refine code_region ?_
    refine list_cons rfl (op_q (q_move rfl (by decide)) ?_)
    refine list_cons rfl (op_q (by first | exact q_addI rfl rfl (by decide) (by omega) (by omega) | exact q_ib rfl rfl rfl (by decide)) ?_)
    refine list_cons rfl (op_q (q_assign rfl (by decide)) ?_)
    refine list_nil ?_
    refine hK5 _ ?_; clear hK5 K5
    refine code_ret ?_
    refine ends_ret (cs := []) rfl rfl rfl rfl trivial ?_
    rw [nextC_in h (by have := h1.2.2; omega)]

set_option maxRecDepth 4000 in
theorem impl_CounterRow (n k : Int) : PCalls Tryd.prog 55 [.int .i64 n, .int .i64 k] (· = [.own 0 3 1 (if Cn n k then rowC n k else []).length ((if Cn n k then rowC n k else []).map (.int .i64)), .val (.bool (decide (Cn n k)))]) := by
  refine pcalls_of_code (n := 41) az Tryd.func55 (by kernel_rfl) rfl rfl (Nat.le_of_ble_eq_true rfl) (by intro t u h; simp [Tryd.f55] at h) ?_
  refine code_seq (fun K1 hK1 => ?_)
  refine code_region ?_
  refine list_cons rfl (op_q (q_assign rfl (by decide)) ?_)
  refine list_cons rfl (op_q (q_assign rfl (by decide)) ?_)
  refine list_nil ?_
  refine hK1 _ ?_; clear hK1 K1
  refine code_seq (fun K2 hK2 => ?_)
  refine code_seq (fun K3 hK3 => ?_)
  refine code_region ?_
  refine list_cons rfl (op_q (q_move rfl (by decide)) ?_)
  refine list_cons rfl (op_q (q_move rfl (by decide)) ?_)
  refine list_cons rfl (op_call _ (impl_isShown _ _) rfl rfl (by decide) (by decide) (by decide) rfl ?_)
  rintro _ rfl
  refine list_cons rfl (op_q (by first | exact q_notd rfl (by decide) | exact q_not rfl (by decide)) ?_)
  refine list_nil ?_
  refine hK3 _ ?_; clear hK3 K3
  refine codeT.imp (σ' := [(0, _), (1, _), (4, _), (5, _), (14, _)]) ?_ (imp_covers ⟨rfl, rfl, rfl, rfl, rfl, trivial⟩)
  refine code_cond_d rfl (fun h1 => ?_) (fun h1 => ?_)
  · skip
    (try simp only [Decidable.not_not] at h1)
    (try have hk := Cn_bd h1)
    refine code_seq (fun K4 hK4 => ?_)
    refine code_region ?_
    refine list_cons rfl (op_buildSlice sl_24 (parts := []) rfl rfl rfl (by decide) (by decide) (by decide) rfl ?_)
    refine list_cons rfl (op_q (q_assign rfl (by decide)) ?_)
    refine list_cons rfl (op_q (q_assign rfl (by decide)) ?_)
    refine list_nil ?_
    refine hK4 _ ?_; clear hK4 K4
    refine code_ret ?_
    refine then_r ?_; clear hK2 K2
    refine ends_ret (cs := []) rfl rfl rfl rfl trivial ?_
    first
      | (have e : ¬ (Cn n k) := by (first | assumption | (unfold Cn at *; omega))
         simp only [if_neg e, decide_eq_false e]; try rfl)
      | (have e : Cn n k := by (first | assumption | (unfold Cn at *; omega))
         simp only [if_pos e, decide_eq_true e]; try rfl)
  · skip
    (try simp only [Decidable.not_not] at h1)
    (try have hk := Cn_bd h1)
    refine code_skip ?_
    refine hK2 _ ?_; clear hK2 K2
    refine code_seq (fun K5 hK5 => ?_)
    refine code_region ?_
    refine list_cons rfl (op_q (q_move rfl (by decide)) ?_)
    refine list_cons rfl (op_makeI sl_24 rfl rfl (by omega) (by omega) (by decide) (by decide) rfl ?_)
    refine list_cons rfl (op_q (q_assign rfl (by decide)) ?_)
    refine list_nil ?_
    refine hK5 _ ?_; clear hK5 K5
    refine code_seq (fun K6 hK6 => ?_)
    refine code_region ?_
    refine list_cons rfl (op_q (q_move rfl (by decide)) ?_)
    refine list_cons rfl (op_q (q_assign rfl (by decide)) ?_)
    refine list_nil ?_
    refine hK6 _ ?_; clear hK6 K6
    refine code_seq (fun K7 hK7 => ?_)
    refine code_seq (fun K8 hK8 => ?_)
    refine code_region ?_
    refine list_cons rfl (op_q (q_move rfl (by decide)) ?_)
    refine list_cons rfl (op_q (by first | exact q_subI rfl rfl (by decide) (by omega) (by omega) | exact q_ib rfl rfl rfl (by decide)) ?_)
    refine list_cons rfl (op_q (q_assign rfl (by decide)) ?_)
    refine list_nil ?_
    refine hK8 _ ?_; clear hK8 K8
    refine code_block ?_
    refine code_loop (X := PV × Bool × Nat × List PV × Int × Int) (fun x => [(0, .val (.int .i64 n)), (1, .val (.int .i64 k)), (4, .val x.1), (5, .val (.bool x.2.1)), (6, .own 17 3 1 x.2.2.1 x.2.2.2.1), (7, .val (.int .i64 x.2.2.2.2.1)), (8, .val (.int .i64 x.2.2.2.2.2))]) (fun x => -1 ≤ x.2.2.2.2.2 ∧ x.2.2.2.2.2 ≤ k - 1 ∧ Cn n k ∧ 0 ≤ x.2.2.2.2.1 ∧ x.2.2.2.2.1 ≤ 999999 ∧ x.2.2.1 = k.toNat ∧ ∃ l : List Int, x.2.2.2.1 = (List.replicate (x.2.2.2.2.2 + 1).toNat 0 ++ l).map (.int .i64) ∧ l.length = k.toNat - (x.2.2.2.2.2 + 1).toNat ∧ rowK (x.2.2.2.2.2 + 1).toNat x.2.2.2.2.1.toNat ++ l = rowC n k) (fun x => (x.2.2.2.2.2 + 1).toNat) (_, _, _, _, _, _) (imp_covers ⟨rfl, rfl, rfl, rfl, rfl, rfl, rfl, trivial⟩) ?_ ?_
    · (try dsimp only)
      have hc := h1
      have ht := top4_le (k := k) (by unfold Cn at hc; omega) (by unfold Cn at hc; omega)
      refine ⟨by have := hc.1; omega, by omega, hc, hc.2.1, by have := hc.2.2; omega, rfl, [], ?_, (by simp), ?_⟩
      · rw [show (k - 1 + 1).toNat = k.toNat by omega]; exact (zeros_map1 (PV.int .i64) 0 _).trans (by simp)
      · rw [show (k - 1 + 1).toNat = k.toNat by omega]
        try simp [rowC]
    · intro x hI
      obtain ⟨t4_p, t5, row_n, row_c, left, place⟩ := x
      replace hI : -1 ≤ place ∧ place ≤ k - 1 ∧ Cn n k ∧ 0 ≤ left ∧ left ≤ 999999 ∧ row_n = k.toNat ∧ ∃ l : List Int, row_c = (List.replicate (place + 1).toNat 0 ++ l).map (.int .i64) ∧ l.length = k.toNat - (place + 1).toNat ∧ rowK (place + 1).toNat left.toNat ++ l = rowC n k := hI
      show codeT _ _ _ [(0, .val (.int .i64 n)), (1, .val (.int .i64 k)), (4, .val t4_p), (5, .val (.bool t5)), (6, .own 17 3 1 row_n row_c), (7, .val (.int .i64 left)), (8, .val (.int .i64 place))] _
      obtain ⟨i1, i2, hc, i3, i4, rfl, l, rfl, i5, i6⟩ := hI
      have hk := hc.1
      have hp : ∀ c : Int, 0 ≤ place → putAt ((List.replicate (place + 1).toNat 0 ++ l).map (PV.int .i64)) (place.toNat * 1) [PV.int .i64 c] = (List.replicate place.toNat 0 ++ (c :: l)).map (PV.int .i64) := fun c hpl => by
        rw [put_map1 (PV.int .i64) _ (by simp; omega), List.set_append_left _ _ (by simp; omega), show (place + 1).toNat = place.toNat + 1 by omega, List.replicate_succ', List.set_append_right _ _ (by simp)]
        simp
      refine code_seq (fun K9 hK9 => ?_)
      refine code_seq (fun K10 hK10 => ?_)
      refine code_region ?_
      refine list_cons rfl (op_q (q_move rfl (by decide)) ?_)
      refine list_cons rfl (op_q (q_ge rfl rfl (by decide)) ?_)
      refine list_nil ?_
      refine hK10 _ ?_; clear hK10 K10
      refine code_cond_d rfl (fun h2 => ?_) (fun h2 => ?_)
      · skip
        (try simp only [Decidable.not_not] at h2)
        (try have hk := Cn_bd h2)
        refine code_skip ?_
        refine hK9 _ ?_; clear hK9 K9
        refine code_seq (fun K11 hK11 => ?_)
        refine code_block ?_
        refine code_seq (fun K12 hK12 => ?_)
        refine code_region ?_
        refine list_cons rfl (op_q (q_move rfl (by decide)) ?_)
        refine list_cons rfl (op_q (by first | exact q_remI rfl rfl (by decide) (by omega) (by omega) | exact q_rem rfl rfl (by omega) (by decide)) ?_)
        refine list_cons rfl (op_call _ (impl_CellOf _) rfl rfl (by decide) (by decide) (by decide) rfl ?_)
        rintro _ rfl
        refine list_cons rfl (op_q (q_move rfl (by decide)) ?_)
        refine list_cons rfl (op_q (q_extract rfl rfl (by decide)) ?_)
        refine list_cons rfl (op_q (q_extract rfl rfl (by decide)) ?_)
        refine list_cons rfl (op_q (q_assign rfl (by decide)) ?_)
        refine list_cons rfl (op_q (q_assign rfl (by decide)) ?_)
        refine list_nil ?_
        refine hK12 _ ?_; clear hK12 K12
        refine codeT.imp (σ' := [(0, _), (1, _), (4, _), (5, _), (6, _), (7, _), (8, _), (9, _), (10, _)]) ?_ (imp_covers ⟨rfl, rfl, rfl, rfl, rfl, rfl, rfl, rfl, rfl, trivial⟩)
        refine code_seq (fun K13 hK13 => ?_)
        refine code_seq (fun K14 hK14 => ?_)
        refine code_region ?_
        refine list_cons rfl (op_q (q_move rfl (by decide)) ?_)
        refine list_cons rfl (op_q (by first | exact q_notd rfl (by decide) | exact q_not rfl (by decide)) ?_)
        refine list_nil ?_
        refine hK14 _ ?_; clear hK14 K14
        refine code_cond_d rfl (fun h3 => ?_) (fun h3 => ?_)
        · skip
          (try simp only [Decidable.not_not] at h3)
          (try have hk := Cn_bd h3)
          refine code_seq (fun K15 hK15 => ?_)
          refine code_region ?_
          refine list_cons rfl (op_buildSlice sl_24 (parts := []) rfl rfl rfl (by decide) (by decide) (by decide) rfl ?_)
          refine list_cons rfl (op_q (q_assign rfl (by decide)) ?_)
          refine list_cons rfl (op_q (q_assign rfl (by decide)) ?_)
          refine list_nil ?_
          refine hK15 _ ?_; clear hK15 K15
          refine code_ret ?_
          refine then_r ?_; clear hK13 K13
          refine blk_r ?_
          refine then_r ?_; clear hK11 K11
          refine then_r ?_
          refine blk_r ?_
          refine then_r ?_; clear hK7 K7
          refine ends_ret (cs := []) rfl rfl rfl rfl trivial ?_
          exfalso; omega
        · skip
          (try simp only [Decidable.not_not] at h3)
          (try have hk := Cn_bd h3)
          refine code_skip ?_
          refine hK13 _ ?_; clear hK13 K13
          refine code_seq (fun K16 hK16 => ?_)
          refine code_region ?_
          refine list_cons rfl (op_q (q_move rfl (by decide)) ?_)
          refine list_cons rfl (op_q (q_move rfl (by decide)) ?_)
          refine list_cons rfl (op_q (q_move rfl (by decide)) ?_)
          refine list_cons rfl (op_q (q_indexAddr_own sl_24 rfl rfl (by omega) (by omega) (by decide)) ?_)
          refine list_cons rfl (op_store (one_3).2 6 [6, 34] (by intro t ht; simp only [List.mem_cons, List.not_mem_nil, or_false] at ht; rcases ht with rfl | rfl <;> rfl) (.inl rfl) rfl rfl rfl rfl rfl rfl (by first | decide | omega | exact Nat.le_refl _ | (simp; done) | (simp; omega)) (by decide) rfl ?_)
          refine list_nil ?_
          refine hK16 _ ?_; clear hK16 K16
          refine codeT.imp (σ' := [(0, _), (1, _), (4, _), (5, _), (6, _), (7, _), (8, _), (9, _), (10, _)]) ?_ (imp_covers ⟨rfl, rfl, rfl, rfl, rfl, rfl, rfl, rfl, rfl, trivial⟩)
          refine code_region ?_
          refine list_cons rfl (op_q (q_move rfl (by decide)) ?_)
          refine list_cons rfl (op_q (by first | exact q_quoI rfl rfl (by decide) (by omega) (by omega) (by omega) | exact q_quoT rfl rfl (by omega) (by decide) (by omega) (by omega) | exact q_quo rfl rfl (by omega) (by decide)) ?_)
          refine list_cons rfl (op_q (q_assign rfl (by decide)) ?_)
          refine list_nil ?_
          refine blk_n ?_
          refine hK11 _ ?_; clear hK11 K11
          refine code_region ?_
          refine list_cons rfl (op_q (q_move rfl (by decide)) ?_)
          refine list_cons rfl (op_q (by first | exact q_subI rfl rfl (by decide) (by omega) (by omega) | exact q_ib rfl rfl rfl (by decide)) ?_)
          refine list_cons rfl (op_q (q_assign rfl (by decide)) ?_)
          refine list_nil ?_
          refine then_n ⟨(_, _, _, _, _, _), imp_covers ⟨rfl, rfl, rfl, rfl, rfl, rfl, rfl, trivial⟩, ?_, ?_⟩
          · (try dsimp only)
            refine ⟨by omega, by omega, hc, by omega, by omega, rfl, digT.getD (left % 10).toNat 0 :: l, ?_, ?_, ?_⟩
            · rw [show (place - 1 + 1).toNat = place.toNat by omega, if_pos (by omega)]; exact hp _ (by omega)
            · simp only [List.length_cons]; omega
            · rw [← i6, show (place - 1 + 1).toNat = place.toNat by omega, show (place + 1).toNat = place.toNat + 1 by omega, rowK, show (left / 10).toNat = left.toNat / 10 by omega, show (left % 10).toNat = left.toNat % 10 by omega]
              simp
          · (try dsimp only); omega
      · skip
        (try simp only [Decidable.not_not] at h2)
        (try have hk := Cn_bd h2)
        refine code_exit ?_
        refine then_x ?_; clear hK9 K9
        refine then_x ?_
        refine blk_hit ?_
        refine hK7 _ ?_; clear hK7 K7
        refine code_seq (fun K17 hK17 => ?_)
        refine code_region ?_
        refine list_cons rfl (op_q (q_move rfl (by decide)) ?_)
        refine list_cons rfl (op_q (q_assign rfl (by decide)) ?_)
        refine list_cons rfl (op_q (q_assign rfl (by decide)) ?_)
        refine list_nil ?_
        refine hK17 _ ?_; clear hK17 K17
        refine code_ret ?_
        refine ends_ret (cs := []) rfl rfl rfl rfl trivial ?_
        have e0 : (place + 1).toNat = 0 := by omega
        rw [e0] at i5 i6
        have e6 : l = rowC n k := by simpa [rowK] using i6
        simp only [if_pos hc, decide_eq_true hc, e0, List.replicate_zero, List.nil_append, e6]
        rw [show (rowC n k).length = k.toNat from by unfold rowC; exact rowK_len _ _]

set_option maxRecDepth 4000 in
theorem impl_stepRows (n k : Int) (h : Cn n k) : PCalls Tryd.prog 106 [.int .i64 n, .int .i64 k] (· = [.own 0 3 1 (rowC n k).length ((rowC n k).map (.int .i64)), .own 1 3 1 (rowC (nextC n k) k).length ((rowC (nextC n k) k).map (.int .i64)), .val (.bool true)]) := by
  refine pcalls_of_code (n := 29) az Tryd.func106 (by kernel_rfl) rfl rfl (Nat.le_of_ble_eq_true rfl) (by intro t u h; simp [Tryd.f106] at h) ?_
  have hn := nextC_ok h
  refine code_seq (fun K1 hK1 => ?_)
  refine code_region ?_
  refine list_cons rfl (op_q (q_assign rfl (by decide)) ?_)
  refine list_cons rfl (op_q (q_assign rfl (by decide)) ?_)
  refine list_cons rfl (op_q (q_assign rfl (by decide)) ?_)
  refine list_nil ?_
  refine hK1 _ ?_; clear hK1 K1
  refine code_seq (fun K2 hK2 => ?_)
  refine code_region ?_
  refine list_cons rfl (op_q (q_move rfl (by decide)) ?_)
  refine list_cons rfl (op_q (q_move rfl (by decide)) ?_)
  refine list_cons rfl (op_call _ (impl_CounterRow n k) rfl rfl (by decide) (by decide) (by decide) rfl ?_)
  rintro _ rfl; simp only [if_pos h, decide_eq_true h]
  refine list_cons rfl (op_q (q_move rfl (by decide)) ?_)
  refine list_cons rfl (op_q (q_extract rfl rfl (by decide)) ?_)
  refine list_cons rfl (op_q (q_extract rfl rfl (by decide)) ?_)
  refine list_cons rfl (op_q (q_assign rfl (by decide)) ?_)
  refine list_cons rfl (op_q (q_assign rfl (by decide)) ?_)
  refine list_nil ?_
  refine hK2 _ ?_; clear hK2 K2
  refine codeT.imp (σ' := [(0, _), (1, _), (4, _), (5, _), (6, _), (7, _), (8, _)]) ?_ (imp_covers ⟨rfl, rfl, rfl, rfl, rfl, rfl, rfl, trivial⟩)
  refine code_seq (fun K3 hK3 => ?_)
  refine code_seq (fun K4 hK4 => ?_)
  refine code_region ?_
  refine list_cons rfl (op_q (q_move rfl (by decide)) ?_)
  refine list_cons rfl (op_q (by first | exact q_notd rfl (by decide) | exact q_not rfl (by decide)) ?_)
  refine list_nil ?_
  refine hK4 _ ?_; clear hK4 K4
  refine code_cond_f rfl ?_
  refine code_skip ?_
  refine hK3 _ ?_; clear hK3 K3
  refine code_seq (fun K5 hK5 => ?_)
  refine code_region ?_
  refine list_cons rfl (op_q (q_move rfl (by decide)) ?_)
  refine list_cons rfl (op_q (q_move rfl (by decide)) ?_)
  refine list_cons rfl (op_call _ (impl_afterStep _ _ (by assumption)) rfl rfl (by decide) (by decide) (by decide) rfl ?_)
  rintro _ rfl
  refine list_cons rfl (op_q (q_move rfl (by decide)) ?_)
  refine list_cons rfl (op_call _ (impl_CounterRow (nextC n k) k) rfl rfl (by decide) (by decide) (by decide) rfl ?_)
  rintro _ rfl; simp only [if_pos hn, decide_eq_true hn]
  refine list_cons rfl (op_q (q_move rfl (by decide)) ?_)
  refine list_cons rfl (op_q (q_extract rfl rfl (by decide)) ?_)
  refine list_cons rfl (op_q (q_extract rfl rfl (by decide)) ?_)
  refine list_cons rfl (op_q (q_assign rfl (by decide)) ?_)
  refine list_cons rfl (op_q (q_assign rfl (by decide)) ?_)
  refine list_nil ?_
  refine hK5 _ ?_; clear hK5 K5
  refine codeT.imp (σ' := [(0, _), (1, _), (4, _), (5, _), (6, _), (7, _), (8, _), (9, _)]) ?_ (imp_covers ⟨rfl, rfl, rfl, rfl, rfl, rfl, rfl, rfl, trivial⟩)
  refine code_seq (fun K6 hK6 => ?_)
  refine code_region ?_
  refine list_cons rfl (op_q (q_move rfl (by decide)) ?_)
  refine list_cons rfl (op_q (q_move rfl (by decide)) ?_)
  refine list_cons rfl (op_q (q_move rfl (by decide)) ?_)
  refine list_cons rfl (op_q (q_assign rfl (by decide)) ?_)
  refine list_cons rfl (op_q (q_assign rfl (by decide)) ?_)
  refine list_cons rfl (op_q (q_assign rfl (by decide)) ?_)
  refine list_nil ?_
  refine hK6 _ ?_; clear hK6 K6
  refine code_ret ?_
  refine ends_ret (cs := []) rfl rfl rfl rfl trivial ?_
  rfl

set_option maxRecDepth 4000 in
theorem impl_stepRowsN (n k : Int) (h : ¬ Cn n k) : PCalls Tryd.prog 106 [.int .i64 n, .int .i64 k] (· = [.val (.sl 0 []), .val (.sl 0 []), .val (.bool false)]) := by
  refine pcalls_of_code (n := 29) az Tryd.func106 (by kernel_rfl) rfl rfl (Nat.le_of_ble_eq_true rfl) (by intro t u h; simp [Tryd.f106] at h) ?_
  refine code_seq (fun K1 hK1 => ?_)
  refine code_region ?_
  refine list_cons rfl (op_q (q_assign rfl (by decide)) ?_)
  refine list_cons rfl (op_q (q_assign rfl (by decide)) ?_)
  refine list_cons rfl (op_q (q_assign rfl (by decide)) ?_)
  refine list_nil ?_
  refine hK1 _ ?_; clear hK1 K1
  refine code_seq (fun K2 hK2 => ?_)
  refine code_region ?_
  refine list_cons rfl (op_q (q_move rfl (by decide)) ?_)
  refine list_cons rfl (op_q (q_move rfl (by decide)) ?_)
  refine list_cons rfl (op_call _ (impl_CounterRow n k) rfl rfl (by decide) (by decide) (by decide) rfl ?_)
  rintro _ rfl; simp only [if_neg h, decide_eq_false h]
  refine list_cons rfl (op_q (q_move rfl (by decide)) ?_)
  refine list_cons rfl (op_q (q_extract rfl rfl (by decide)) ?_)
  refine list_cons rfl (op_q (q_extract rfl rfl (by decide)) ?_)
  refine list_cons rfl (op_q (q_assign rfl (by decide)) ?_)
  refine list_cons rfl (op_q (q_assign rfl (by decide)) ?_)
  refine list_nil ?_
  refine hK2 _ ?_; clear hK2 K2
  refine codeT.imp (σ' := [(0, _), (1, _), (4, _), (5, _), (6, _), (7, _), (8, _)]) ?_ (imp_covers ⟨rfl, rfl, rfl, rfl, rfl, rfl, rfl, trivial⟩)
  refine code_seq (fun K3 hK3 => ?_)
  refine code_seq (fun K4 hK4 => ?_)
  refine code_region ?_
  refine list_cons rfl (op_q (q_move rfl (by decide)) ?_)
  refine list_cons rfl (op_q (by first | exact q_notd rfl (by decide) | exact q_not rfl (by decide)) ?_)
  refine list_nil ?_
  refine hK4 _ ?_; clear hK4 K4
  refine code_cond_t rfl ?_
  refine code_seq (fun K5 hK5 => ?_)
  refine code_region ?_
  refine list_cons rfl (op_q (q_assign rfl (by decide)) ?_)
  refine list_cons rfl (op_q (q_assign rfl (by decide)) ?_)
  refine list_cons rfl (op_q (q_assign rfl (by decide)) ?_)
  refine list_nil ?_
  refine hK5 _ ?_; clear hK5 K5
  refine code_ret ?_
  refine then_r ?_; clear hK3 K3
  refine ends_ret (cs := []) rfl rfl rfl rfl trivial ?_
  rfl

set_option maxRecDepth 4000 in
theorem impl_StepChangesN (n k : Int) (h : ¬ Cn n k) : PCalls Tryd.prog 53 [.int .i64 n, .int .i64 k] (· = [.val (.int .i64 0), .val (.bool false)]) := by
  refine pcalls_of_code (n := 46) az Tryd.func53 (by kernel_rfl) rfl rfl (Nat.le_of_ble_eq_true rfl) (by intro t u h; simp [Tryd.f53] at h) ?_
  refine code_seq (fun K1 hK1 => ?_)
  refine code_region ?_
  refine list_cons rfl (op_q (q_assign rfl (by decide)) ?_)
  refine list_cons rfl (op_q (q_assign rfl (by decide)) ?_)
  refine list_nil ?_
  refine hK1 _ ?_; clear hK1 K1
  refine code_seq (fun K2 hK2 => ?_)
  refine code_region ?_
  refine list_cons rfl (op_q (q_move rfl (by decide)) ?_)
  refine list_cons rfl (op_q (q_move rfl (by decide)) ?_)
  refine list_cons rfl (op_call _ (impl_stepRowsN n k h) rfl rfl (by decide) (by decide) (by decide) rfl ?_)
  rintro _ rfl
  refine list_cons rfl (op_q (q_move rfl (by decide)) ?_)
  refine list_cons rfl (op_q (q_extract rfl rfl (by decide)) ?_)
  refine list_cons rfl (op_q (q_extract rfl rfl (by decide)) ?_)
  refine list_cons rfl (op_q (q_extract rfl rfl (by decide)) ?_)
  refine list_cons rfl (op_q (q_assign rfl (by decide)) ?_)
  refine list_cons rfl (op_q (q_assign rfl (by decide)) ?_)
  refine list_cons rfl (op_q (q_assign rfl (by decide)) ?_)
  refine list_nil ?_
  refine hK2 _ ?_; clear hK2 K2
  refine codeT.imp (σ' := [(0, _), (1, _), (4, _), (5, _), (6, _), (7, _), (8, _)]) ?_ (imp_covers ⟨rfl, rfl, rfl, rfl, rfl, rfl, rfl, trivial⟩)
  refine code_seq (fun K3 hK3 => ?_)
  refine code_seq (fun K4 hK4 => ?_)
  refine code_region ?_
  refine list_cons rfl (op_q (q_move rfl (by decide)) ?_)
  refine list_cons rfl (op_q (by first | exact q_notd rfl (by decide) | exact q_not rfl (by decide)) ?_)
  refine list_nil ?_
  refine hK4 _ ?_; clear hK4 K4
  refine code_cond_t rfl ?_
  refine code_seq (fun K5 hK5 => ?_)
  refine code_region ?_
  refine list_cons rfl (op_q (q_assign rfl (by decide)) ?_)
  refine list_cons rfl (op_q (q_assign rfl (by decide)) ?_)
  refine list_nil ?_
  refine hK5 _ ?_; clear hK5 K5
  refine code_ret ?_
  refine then_r ?_; clear hK3 K3
  refine ends_ret (cs := []) rfl rfl rfl rfl trivial ?_
  rfl

set_option maxRecDepth 4000 in
theorem impl_StepChangesY (n k : Int) (h : Cn n k) : PCalls Tryd.prog 53 [.int .i64 n, .int .i64 k] (· = [.val (.int .i64 (stepC n k)), .val (.bool true)]) := by
  refine pcalls_of_code (n := 46) az Tryd.func53 (by kernel_rfl) rfl rfl (Nat.le_of_ble_eq_true rfl) (by intro t u h; simp [Tryd.f53] at h) ?_
  have hk := Cn_bd h
  have l1 : (rowC n k).length = k.toNat := rowK_len _ _
  have l2 : (rowC (nextC n k) k).length = k.toNat := rowK_len _ _
  refine code_seq (fun K1 hK1 => ?_)
  refine code_region ?_
  refine list_cons rfl (op_q (q_assign rfl (by decide)) ?_)
  refine list_cons rfl (op_q (q_assign rfl (by decide)) ?_)
  refine list_nil ?_
  refine hK1 _ ?_; clear hK1 K1
  refine code_seq (fun K2 hK2 => ?_)
  refine code_region ?_
  refine list_cons rfl (op_q (q_move rfl (by decide)) ?_)
  refine list_cons rfl (op_q (q_move rfl (by decide)) ?_)
  refine list_cons rfl (op_call _ (impl_stepRows n k h) rfl rfl (by decide) (by decide) (by decide) rfl ?_)
  rintro _ rfl
  refine list_cons rfl (op_q (q_move rfl (by decide)) ?_)
  refine list_cons rfl (op_q (q_extract rfl rfl (by decide)) ?_)
  refine list_cons rfl (op_q (q_extract rfl rfl (by decide)) ?_)
  refine list_cons rfl (op_q (q_extract rfl rfl (by decide)) ?_)
  refine list_cons rfl (op_q (q_assign rfl (by decide)) ?_)
  refine list_cons rfl (op_q (q_assign rfl (by decide)) ?_)
  refine list_cons rfl (op_q (q_assign rfl (by decide)) ?_)
  refine list_nil ?_
  refine hK2 _ ?_; clear hK2 K2
  refine codeT.imp (σ' := [(0, _), (1, _), (4, _), (5, _), (6, _), (7, _), (8, _)]) ?_ (imp_covers ⟨rfl, rfl, rfl, rfl, rfl, rfl, rfl, trivial⟩)
  refine code_seq (fun K3 hK3 => ?_)
  refine code_seq (fun K4 hK4 => ?_)
  refine code_region ?_
  refine list_cons rfl (op_q (q_move rfl (by decide)) ?_)
  refine list_cons rfl (op_q (by first | exact q_notd rfl (by decide) | exact q_not rfl (by decide)) ?_)
  refine list_nil ?_
  refine hK4 _ ?_; clear hK4 K4
  refine code_cond_f rfl ?_
  refine code_skip ?_
  refine hK3 _ ?_; clear hK3 K3
  refine code_seq (fun K5 hK5 => ?_)
  refine code_region ?_
  refine list_cons rfl (op_q (q_assign rfl (by decide)) ?_)
  refine list_nil ?_
  refine hK5 _ ?_; clear hK5 K5
  refine code_seq (fun K6 hK6 => ?_)
  refine code_seq (fun K7 hK7 => ?_)
  refine code_region ?_
  refine list_cons rfl (op_q (q_move rfl (by decide)) ?_)
  refine list_cons rfl (op_q (q_len_sl Tryd.underlying24 rfl rfl (by decide)) ?_)
  refine list_cons rfl (op_q (q_move rfl (by decide)) ?_)
  refine list_nil ?_
  refine hK7 _ ?_; clear hK7 K7
  refine code_block ?_
  refine code_loop (X := Int × Bool × Nat × List PV × Nat × List PV × Bool × Int × Nat × List PV × Int × Int) (fun x => [(0, .val (.int .i64 n)), (1, .val (.int .i64 k)), (4, .val (.int .i64 x.1)), (5, .val (.bool x.2.1)), (6, .own 17 3 1 x.2.2.1 x.2.2.2.1), (7, .own 1017 3 1 x.2.2.2.2.1 x.2.2.2.2.2.1), (8, .val (.bool x.2.2.2.2.2.2.1)), (9, .val (.int .i64 x.2.2.2.2.2.2.2.1)), (23, .own 17 3 1 x.2.2.2.2.2.2.2.2.1 x.2.2.2.2.2.2.2.2.2.1), (24, .val (.int .i64 x.2.2.2.2.2.2.2.2.2.2.1)), (25, .val (.int .i64 x.2.2.2.2.2.2.2.2.2.2.2))]) (fun x => 0 ≤ x.2.2.2.2.2.2.2.2.2.2.2 ∧ x.2.2.2.2.2.2.2.2.2.2.2 ≤ k ∧ x.2.2.2.2.2.2.2.2.2.2.1 = ((rowC n k).length : Int) ∧ x.2.2.2.2.2.2.2.1 = chgK (rowC n k) (rowC (nextC n k) k) x.2.2.2.2.2.2.2.2.2.2.2.toNat ∧ x.2.2.1 = (rowC n k).length ∧ x.2.2.2.1 = (rowC n k).map (.int .i64) ∧ x.2.2.2.2.1 = (rowC (nextC n k) k).length ∧ x.2.2.2.2.2.1 = (rowC (nextC n k) k).map (.int .i64) ∧ x.2.2.2.2.2.2.2.2.1 = (rowC n k).length ∧ x.2.2.2.2.2.2.2.2.2.1 = (rowC n k).map (.int .i64)) (fun x => (k - x.2.2.2.2.2.2.2.2.2.2.2).toNat) (_, _, _, _, _, _, _, _, _, _, _, _) (imp_covers ⟨rfl, rfl, rfl, rfl, rfl, rfl, rfl, rfl, rfl, rfl, rfl, trivial⟩) ?_ ?_
  · (try dsimp only)
    exact ⟨by omega, by omega, rfl, rfl, rfl, rfl, rfl, rfl, rfl, rfl⟩
  · intro x hI
    obtain ⟨t4, t5, before_n, before_c, after_n, after_c, ok, total, t23_n, t23_c, t24, t25⟩ := x
    replace hI : 0 ≤ t25 ∧ t25 ≤ k ∧ t24 = ((rowC n k).length : Int) ∧ total = chgK (rowC n k) (rowC (nextC n k) k) t25.toNat ∧ before_n = (rowC n k).length ∧ before_c = (rowC n k).map (.int .i64) ∧ after_n = (rowC (nextC n k) k).length ∧ after_c = (rowC (nextC n k) k).map (.int .i64) ∧ t23_n = (rowC n k).length ∧ t23_c = (rowC n k).map (.int .i64) := hI
    show codeT _ _ _ [(0, .val (.int .i64 n)), (1, .val (.int .i64 k)), (4, .val (.int .i64 t4)), (5, .val (.bool t5)), (6, .own 17 3 1 before_n before_c), (7, .own 1017 3 1 after_n after_c), (8, .val (.bool ok)), (9, .val (.int .i64 total)), (23, .own 17 3 1 t23_n t23_c), (24, .val (.int .i64 t24)), (25, .val (.int .i64 t25))] _
    obtain ⟨i1, i2, rfl, rfl, rfl, rfl, rfl, rfl, rfl, rfl⟩ := hI
    have hc := chgK_le (rowC n k) (rowC (nextC n k) k) t25.toNat
    have hd := cnt7_le (((rowC n k).getD t25.toNat 0).toNat ^^^ ((rowC (nextC n k) k).getD t25.toNat 0).toNat)
    have ca : t25 < k → 0 ≤ (rowC n k).getD t25.toNat 0 ∧ (rowC n k).getD t25.toNat 0 ≤ 127 := fun h => rowK_at (by omega)
    have cb : t25 < k → 0 ≤ (rowC (nextC n k) k).getD t25.toNat 0 ∧ (rowC (nextC n k) k).getD t25.toNat 0 ≤ 127 := fun h => rowK_at (by omega)
    refine code_seq (fun K8 hK8 => ?_)
    refine code_region ?_
    refine list_cons rfl (op_q (q_lt rfl rfl (by decide)) ?_)
    refine list_nil ?_
    refine hK8 _ ?_; clear hK8 K8
    refine code_seq (fun K9 hK9 => ?_)
    refine code_cond_d rfl (fun h1 => ?_) (fun h1 => ?_)
    · skip
      (try simp only [Decidable.not_not] at h1)
      refine code_skip ?_
      refine hK9 _ ?_; clear hK9 K9
      refine code_seq (fun K10 hK10 => ?_)
      refine code_block ?_
      refine code_seq (fun K11 hK11 => ?_)
      refine code_region ?_
      refine list_cons rfl (op_q (q_move rfl (by decide)) ?_)
      refine list_cons rfl (op_q (q_indexAddr_own sl_24 rfl rfl (by omega) (by omega) (by decide)) ?_)
      refine list_cons rfl (op_q (q_load one_3 6 rfl rfl rfl (by first | rfl | exact get_map1 _ 0 _ (by first | omega | (simp; omega))) (by decide)) ?_)
      refine list_cons rfl (op_q (q_assign rfl (by decide)) ?_)
      refine list_cons rfl (op_q (q_assign rfl (by decide)) ?_)
      refine list_nil ?_
      refine hK11 _ ?_; clear hK11 K11
      refine code_seq (fun K12 hK12 => ?_)
      refine code_region ?_
      refine list_cons rfl (op_q (q_move rfl (by decide)) ?_)
      refine list_cons rfl (op_q (q_move rfl (by decide)) ?_)
      refine list_cons rfl (op_q (q_move rfl (by decide)) ?_)
      refine list_cons rfl (op_q (q_indexAddr_own sl_24 rfl rfl (by omega) (by omega) (by decide)) ?_)
      refine list_cons rfl (op_q (q_load one_3 7 rfl rfl rfl (by first | rfl | exact get_map1 _ 0 _ (by first | omega | (simp; omega))) (by decide)) ?_)
      refine list_cons rfl (op_call _ (impl_FarCells _ _) rfl rfl (by decide) (by decide) (by decide) rfl ?_)
      rintro _ rfl; simp only [if_pos (show _ ∧ _ from ⟨ca (by omega), cb (by omega)⟩), decide_eq_true (show _ ∧ _ from ⟨ca (by omega), cb (by omega)⟩)]
      refine list_cons rfl (op_q (q_move rfl (by decide)) ?_)
      refine list_cons rfl (op_q (q_extract rfl rfl (by decide)) ?_)
      refine list_cons rfl (op_q (q_extract rfl rfl (by decide)) ?_)
      refine list_cons rfl (op_q (q_assign rfl (by decide)) ?_)
      refine list_cons rfl (op_q (q_assign rfl (by decide)) ?_)
      refine list_nil ?_
      refine hK12 _ ?_; clear hK12 K12
      refine codeT.imp (σ' := [(0, _), (1, _), (4, _), (5, _), (6, _), (7, _), (8, _), (9, _), (10, _), (11, _), (12, _), (13, _), (23, _), (24, _), (25, _)]) ?_ (imp_covers ⟨rfl, rfl, rfl, rfl, rfl, rfl, rfl, rfl, rfl, rfl, rfl, rfl, rfl, rfl, rfl, trivial⟩)
      refine code_seq (fun K13 hK13 => ?_)
      refine code_seq (fun K14 hK14 => ?_)
      refine code_region ?_
      refine list_cons rfl (op_q (q_move rfl (by decide)) ?_)
      refine list_cons rfl (op_q (by first | exact q_notd rfl (by decide) | exact q_not rfl (by decide)) ?_)
      refine list_nil ?_
      refine hK14 _ ?_; clear hK14 K14
      refine code_cond_f rfl ?_
      refine code_skip ?_
      refine hK13 _ ?_; clear hK13 K13
      refine code_region ?_
      refine list_cons rfl (op_q (q_move rfl (by decide)) ?_)
      refine list_cons rfl (op_q (q_move rfl (by decide)) ?_)
      refine list_cons rfl (op_q (by first | exact q_addI rfl rfl (by decide) (by omega) (by omega) | exact q_ib rfl rfl rfl (by decide)) ?_)
      refine list_cons rfl (op_q (q_assign rfl (by decide)) ?_)
      refine list_nil ?_
      refine blk_n ?_
      refine hK10 _ ?_; clear hK10 K10
      refine code_region ?_
      refine list_cons rfl (op_q (by first | exact q_addI rfl rfl (by decide) (by omega) (by omega) | exact q_ib rfl rfl rfl (by decide)) ?_)
      refine list_cons rfl (op_q (q_move rfl (by decide)) ?_)
      refine list_nil ?_
      refine then_n ⟨(_, _, _, _, _, _, _, _, _, _, _, _), imp_covers ⟨rfl, rfl, rfl, rfl, rfl, rfl, rfl, rfl, rfl, rfl, rfl, trivial⟩, ?_, ?_⟩
      · (try dsimp only)
        refine ⟨by omega, by omega, rfl, ?_, rfl, rfl, rfl, rfl, rfl, rfl⟩
        rw [show (t25 + 1).toNat = t25.toNat + 1 by omega, chgK]
      · (try dsimp only); omega
    · skip
      (try simp only [Decidable.not_not] at h1)
      refine code_exit ?_
      refine then_x ?_; clear hK9 K9
      refine then_x ?_
      refine blk_hit ?_
      refine hK6 _ ?_; clear hK6 K6
      refine code_seq (fun K15 hK15 => ?_)
      refine code_region ?_
      refine list_cons rfl (op_q (q_move rfl (by decide)) ?_)
      refine list_cons rfl (op_q (q_assign rfl (by decide)) ?_)
      refine list_cons rfl (op_q (q_assign rfl (by decide)) ?_)
      refine list_nil ?_
      refine hK15 _ ?_; clear hK15 K15
      refine code_ret ?_
      refine ends_ret (cs := []) rfl rfl rfl rfl trivial ?_
      unfold stepC
      rw [show t25.toNat = k.toNat by omega]

theorem impl_StepChanges (n k : Int) : PCalls Tryd.prog 53 [.int .i64 n, .int .i64 k] (· = [.val (.int .i64 (if Cn n k then stepC n k else 0)), .val (.bool (decide (Cn n k)))]) := by
  by_cases h : Cn n k
  · simp only [if_pos h, decide_eq_true h]; exact impl_StepChangesY n k h
  · simp only [if_neg h, decide_eq_false h]; exact impl_StepChangesN n k h

def celS (k : Nat) : List Int := filN 10 (fun d => digT.getD d 0) k
theorem celS_get {s : Nat} (h : s < 10) : ((celS 10).map (PV.int .i64))[s]? = some (.int .i64 (digT.getD s 0)) := by
  have h2 := get_map1 (PV.int .i64) 0 (celS 10) (k := s) (by unfold celS; rw [filN_len]; exact h)
  rw [Nat.mul_one] at h2
  rw [h2]
  have h1 := filN_at 10 (fun d => digT.getD d 0) 10 s h
  rw [if_pos h] at h1
  unfold celS
  rw [h1]
theorem row_get {a b : Nat} (ha : a < 10) (hb : b < 10) : ((((tabS 100).map (PV.int .i64)).drop (a * 10)).take 10)[b]? = some (.int .i64 (dgt a b)) := by
  rw [List.getElem?_take, if_pos hb, List.getElem?_drop]
  have h2 := get_map1 (PV.int .i64) 0 (tabS 100) (k := a * 10 + b) (by simp [tabS, filN_len]; omega)
  rw [Nat.mul_one] at h2
  rw [h2, tab_at ha hb]
theorem put_new {a b : List PV} {n : Nat} (ha : a.length = n) (hb : b.length = n) : putAt a 0 (PV.agg b).cells = b := by
  unfold putAt PV.cells
  simp only [List.take_zero, List.nil_append, Nat.zero_add]
  rw [List.drop_of_length_le (by omega), List.append_nil]
/-- Counts of bars to which the bars of a cell that light are added: the first k of them. -/
def wbK (l : List Int) (c : Nat) : Nat → List Int
  | 0 => l
  | k + 1 => if bitN c k then (wbK l c k).set k ((wbK l c k).getD k 0 + 1) else wbK l c k
theorem wbK_len (l : List Int) (c : Nat) : ∀ k, (wbK l c k).length = l.length
  | 0 => rfl
  | k + 1 => by unfold wbK; split <;> simp [wbK_len l c k]
theorem wbK_at (l : List Int) (c : Nat) : ∀ (k j : Nat), k ≤ j → (wbK l c k).getD j 0 = l.getD j 0
  | 0, j, _ => rfl
  | k + 1, j, h => by
    have ih := wbK_at l c k j (by omega)
    unfold wbK
    split
    · rw [List.getD_eq_getElem?_getD, List.getElem?_set, if_neg (by omega), ← List.getD_eq_getElem?_getD]; exact ih
    · exact ih
theorem wbK_le (l : List Int) (c : Nat) {m : Int} (h : ∀ j, 0 ≤ l.getD j 0 ∧ l.getD j 0 ≤ m) : ∀ (k j : Nat), 0 ≤ (wbK l c k).getD j 0 ∧ (wbK l c k).getD j 0 ≤ m + 1
  | 0, j => by have := h j; unfold wbK; omega
  | k + 1, j => by
    have ih := wbK_le l c h k j
    have hk := wbK_at l c k k (Nat.le_refl _)
    have hm := h k
    unfold wbK
    split
    · rw [List.getD_eq_getElem?_getD, List.getElem?_set]
      by_cases e : k = j
      · rw [if_pos e]
        split
        · simp only [Option.getD_some]; omega
        · simp only [Option.getD_none]; omega
      · rw [if_neg e, ← List.getD_eq_getElem?_getD]; exact ih
    · exact ih
theorem wbK_put {l : List Int} {c k o : Nat} {v : Int} (ho : o = k) (hk : k < l.length) (hb : bitN c k = true) (hv : v = (wbK l c k).getD k 0 + 1) : putAt ((wbK l c k).map (PV.int .i64)) o [PV.int .i64 v] = (wbK l c (k + 1)).map (PV.int .i64) := by
  subst ho; subst hv
  have h1 := put_map1 (PV.int .i64) (wbK l c o) (k := o) (by rw [wbK_len]; exact hk) ((wbK l c o).getD o 0 + 1)
  rw [Nat.mul_one] at h1
  rw [wbK, if_pos hb]
  exact h1
def wS : Nat → List Int
  | 0 => List.replicate 7 0
  | d + 1 => wbK (wS d) (digT.getD d 0).toNat 7
theorem wS_len : ∀ d, (wS d).length = 7
  | 0 => rfl
  | d + 1 => by rw [wS, wbK_len, wS_len d]
theorem wS_le : ∀ (d j : Nat), 0 ≤ (wS d).getD j 0 ∧ (wS d).getD j 0 ≤ d
  | 0, j => by
    have : (wS 0).getD j 0 = 0 := by
      unfold wS
      rw [List.getD_eq_getElem?_getD, List.getElem?_replicate]
      split <;> rfl
    rw [this]; omega
  | d + 1, j => by
    have := wbK_le (wS d) (digT.getD d 0).toNat (m := d) (wS_le d) 7 j
    rw [wS]; omega
set_option maxRecDepth 100000 in
theorem wS_sh : wS 10 = shS 70 := by decide
theorem celS_all : ((((celS 10).map (PV.int .i64)).drop 0).take 10) = (celS 10).map (PV.int .i64) := by
  rw [List.drop_zero, List.take_of_length_le (by simp [celS, filN_len])]

set_option maxRecDepth 4000 in
set_option maxHeartbeats 1000000 in
theorem impl_withBars (l : List Int) (c m : Int) (hl : l.length = 7) (hm : ∀ j, 0 ≤ l.getD j 0 ∧ l.getD j 0 ≤ m) (hm2 : m ≤ 1099511627776) (hc : 0 ≤ c ∧ c ≤ 127) : PCalls Tryd.prog 107 [.agg (l.map (.int .i64)), .int .i64 c] (· = [.val (.agg ((wbK l c.toNat 7).map (.int .i64)))]) := by
  refine pcalls_of_code (n := 19) az Tryd.func107 (by kernel_rfl) rfl rfl (Nat.le_of_ble_eq_true rfl) (by intro t u h; simp [Tryd.f107] at h; obtain ⟨_, rfl⟩ := h <;> first | exact resTy_agg agg_70 (by decide)) ?_
  have hfl := flat_map (PV.int .i64) (fun _ => rfl) l
  rw [show inits false 0 [.agg (l.map (.int .i64)), .int .i64 c] = [(0, SV.val (.agg (l.map (.int .i64)))), (1, SV.val (.int .i64 c))] from by simp [inits, PV.start, PV.flat, hfl]]
  refine code_seq (fun K1 hK1 => ?_)
  refine code_region ?_
  refine list_cons rfl (op_box rfl (.inl ⟨rfl, hfl⟩) (by decide) (by decide) rfl ?_)
  refine list_cons rfl (op_alloc zt_70 (by decide) (by decide) rfl ?_)
  refine list_nil ?_
  refine hK1 _ ?_; clear hK1 K1
  refine code_seq (fun K2 hK2 => ?_)
  refine code_seq (fun K3 hK3 => ?_)
  refine code_region ?_
  refine list_cons rfl (op_q (q_move rfl (by decide)) ?_)
  refine list_nil ?_
  refine hK3 _ ?_; clear hK3 K3
  refine code_block ?_
  refine code_loop (X := List PV × Int) (fun x => [(0, .val (.agg (l.map (.int .i64)))), (1, .val (.int .i64 c)), (2, .box 2 70 x.1), (4, .box 4 70 (List.replicate 7 (.int .i64 0))), (6, .val (.int .i64 x.2))]) (fun x => 0 ≤ x.2 ∧ x.2 ≤ 7 ∧ x.1 = (wbK l c.toNat x.2.toNat).map (.int .i64)) (fun x => (7 - x.2).toNat) (_, _) (imp_covers ⟨rfl, rfl, rfl, rfl, rfl, trivial⟩) ?_ ?_
  · (try dsimp only)
    exact ⟨by omega, by omega, rfl⟩
  · intro x hI
    obtain ⟨counts_2_c, t6⟩ := x
    replace hI : 0 ≤ t6 ∧ t6 ≤ 7 ∧ counts_2_c = (wbK l c.toNat t6.toNat).map (.int .i64) := hI
    show codeT _ _ _ [(0, .val (.agg (l.map (.int .i64)))), (1, .val (.int .i64 c)), (2, .box 2 70 counts_2_c), (4, .box 4 70 (List.replicate 7 (.int .i64 0))), (6, .val (.int .i64 t6))] _
    obtain ⟨i1, i2, rfl⟩ := hI
    have hle := wbK_le l c.toNat hm t6.toNat t6.toNat
    refine code_seq (fun K4 hK4 => ?_)
    refine code_region ?_
    refine list_cons rfl (op_q (q_lt rfl rfl (by decide)) ?_)
    refine list_nil ?_
    refine hK4 _ ?_; clear hK4 K4
    refine code_seq (fun K5 hK5 => ?_)
    refine code_cond_d rfl (fun h1 => ?_) (fun h1 => ?_)
    · skip
      (try simp only [Decidable.not_not] at h1)
      refine code_skip ?_
      refine hK5 _ ?_; clear hK5 K5
      refine code_seq (fun K6 hK6 => ?_)
      refine code_block ?_
      refine code_seq (fun K7 hK7 => ?_)
      refine code_region ?_
      refine list_cons rfl (op_q (q_move rfl (by decide)) ?_)
      refine list_cons rfl (op_q (q_assign rfl (by decide)) ?_)
      refine list_nil ?_
      refine hK7 _ ?_; clear hK7 K7
      refine code_seq (fun K8 hK8 => ?_)
      refine code_region ?_
      refine list_cons rfl (op_q (q_move rfl (by decide)) ?_)
      refine list_cons rfl (op_q (q_move rfl (by decide)) ?_)
      refine list_cons rfl (op_call _ (impl_hasBar _ _ (by omega) (by omega)) rfl rfl (by decide) (by decide) (by decide) rfl ?_)
      rintro _ rfl
      refine list_nil ?_
      refine hK8 _ ?_; clear hK8 K8
      refine codeT.imp (σ' := [(0, _), (1, _), (2, _), (4, _), (5, _), (6, _), (11, _)]) ?_ (imp_covers ⟨rfl, rfl, rfl, rfl, rfl, rfl, rfl, trivial⟩)
      refine code_cond_d rfl (fun h2 => ?_) (fun h2 => ?_)
      · skip
        (try simp only [Decidable.not_not] at h2)
        refine code_region ?_
        refine list_cons rfl (op_q (q_move rfl (by decide)) ?_)
        refine list_cons rfl (op_q (q_indexAddr_arr arr_70 rfl rfl rfl (by omega) (by omega) (by decide)) ?_)
        refine list_cons rfl (op_q (q_load one_3 2 rfl rfl rfl (by first | exact get_map1 (PV.int .i64) 0 (wbK l c.toNat t6.toNat) (by rw [wbK_len]; omega) | (simp only [wbK_len, List.length_map]; omega)) (by decide)) ?_)
        refine list_cons rfl (op_q (by first | exact q_addI rfl rfl (by decide) (by omega) (by omega) | exact q_ib rfl rfl rfl (by decide)) ?_)
        refine list_cons rfl (op_q (q_indexAddr_arr arr_70 rfl rfl rfl (by omega) (by omega) (by decide)) ?_)
        refine list_cons rfl (op_store (one_3).2 2 [2] (by intro t ht; simp only [List.mem_cons, List.not_mem_nil, or_false] at ht; subst ht; rfl) (.inl rfl) rfl rfl rfl rfl rfl rfl (by first | decide | omega | exact Nat.le_refl _ | (simp only [wbK_len, List.length_map]; omega) | (simp; done) | (simp; omega)) (by decide) rfl ?_)
        refine list_nil ?_
        refine blk_n ?_
        refine hK6 _ ?_; clear hK6 K6
        refine codeT.imp (σ' := [(0, _), (1, _), (2, _), (4, _), (5, _), (6, _)]) ?_ (imp_covers ⟨rfl, rfl, rfl, rfl, rfl, rfl, trivial⟩)
        refine code_region ?_
        refine list_cons rfl (op_q (by first | exact q_addI rfl rfl (by decide) (by omega) (by omega) | exact q_ib rfl rfl rfl (by decide)) ?_)
        refine list_cons rfl (op_q (q_move rfl (by decide)) ?_)
        refine list_nil ?_
        refine then_n ⟨(_, _), imp_covers ⟨rfl, rfl, rfl, rfl, rfl, trivial⟩, ?_, ?_⟩
        · (try dsimp only)
          refine ⟨by omega, by omega, ?_⟩
          rw [show (t6 + 1).toNat = t6.toNat + 1 by omega]
          exact wbK_put (by omega) (by omega) h2 rfl
        · (try dsimp only); omega
      · skip
        (try simp only [Decidable.not_not] at h2)
        refine code_skip ?_
        refine blk_n ?_
        refine hK6 _ ?_; clear hK6 K6
        refine code_region ?_
        refine list_cons rfl (op_q (by first | exact q_addI rfl rfl (by decide) (by omega) (by omega) | exact q_ib rfl rfl rfl (by decide)) ?_)
        refine list_cons rfl (op_q (q_move rfl (by decide)) ?_)
        refine list_nil ?_
        refine then_n ⟨(_, _), imp_covers ⟨rfl, rfl, rfl, rfl, rfl, trivial⟩, ?_, ?_⟩
        · (try dsimp only)
          refine ⟨by omega, by omega, ?_⟩
          rw [show (t6 + 1).toNat = t6.toNat + 1 by omega, wbK, if_neg h2]
        · (try dsimp only); omega
    · skip
      (try simp only [Decidable.not_not] at h1)
      refine code_exit ?_
      refine then_x ?_; clear hK5 K5
      refine then_x ?_
      refine blk_hit ?_
      refine hK2 _ ?_; clear hK2 K2
      refine code_seq (fun K9 hK9 => ?_)
      refine code_region ?_
      refine list_cons rfl (op_q (q_load_agg agg_70 2 (.inr ⟨rfl, _, rfl⟩) rfl rfl (by first | exact get_map1 (PV.int .i64) 0 (wbK l c.toNat t6.toNat) (by rw [wbK_len]; omega) | (simp only [wbK_len, List.length_map]; omega)) (by first | rfl | exact flat_part (flat_map _ (fun _ => rfl) _) _ _) (by decide)) ?_)
      refine list_cons rfl (op_store (agg_70).2 4 [4] (by intro t ht; simp only [List.mem_cons, List.not_mem_nil, or_false] at ht; subst ht; rfl) (.inr ⟨rfl, _, rfl⟩) rfl rfl rfl rfl (by first | rfl | exact flat_part (flat_map _ (fun _ => rfl) _) _ _ | exact flat_map _ (fun _ => rfl) _) (by first | rfl | (simp [PV.cells, wbK_len, hl]; done)) (by first | decide | omega | exact Nat.le_refl _ | (simp only [wbK_len, List.length_map]; omega) | (simp; done) | (simp; omega)) (by decide) rfl ?_)
      refine list_nil ?_
      refine hK9 _ ?_; clear hK9 K9
      refine codeT.imp (σ' := [(0, _), (1, _), (2, _), (4, _), (6, _)]) ?_ (imp_covers ⟨rfl, rfl, rfl, rfl, rfl, trivial⟩)
      refine code_ret ?_
      refine ends_ret (cs := []) (res_agg1 (cs := (wbK l c.toNat 7).map (.int .i64)) (congrArg (fun z => some (SV.box 4 70 z)) (by rw [show t6.toNat = 7 by omega]; exact put_all (n := 7) (by simp) (by simp [wbK_len, hl]))) rfl (flat_map _ (fun _ => rfl) _) (by simp [wbK_len, hl]; rfl)) rfl rfl rfl trivial ?_
      rfl

end Go.Proofs.YtjbbijlbenkgcaaDoor
