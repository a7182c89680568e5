/- Contracts of functions, walked over the pure layer; each says for which arguments. -/
import Derived.Test.YtjbbijlbenkgcaaDoorLC2Ty
import Derived.Test.YtjbbijlbenkgcaaDoorTf
import Derived.Test.YtjbbijlbenkgcaaDoorSp
import Derived.Test.YtjbbijlbenkgcaaDoorShelf
import Derived.Test.YtjbbijlbenkgcaaDoorS4
import Derived.Test.YtjbbijlbenkgcaaDoorIm
import Derived.Test.YtjbbijlbenkgcaaDoorI4
import Derived.Test.YtjbbijlbenkgcaaDoorW4s
import Derived.Test.YtjbbijlbenkgcaaDoorI4r
import Derived.Test.YtjbbijlbenkgcaaDoorMgC
import Derived.Test.YtjbbijlbenkgcaaDoorI4w
import Derived.Test.YtjbbijlbenkgcaaDoorMc
namespace Go.Proofs.YtjbbijlbenkgcaaDoor
open Go.RowKit LC2Ty
set_option linter.unusedVariables false
set_option linter.unusedSimpArgs false

set_option maxRecDepth 8000 in
set_option maxHeartbeats 16000000 in
theorem FnCounters_law (code : List UInt8) (p0 : code.length ≤ 9223372036854775807) : MCalls Tryd.prog 5 true none [.sl code.length (bytesP code)] fun rs _ => rs = [.val (.bool true)] := by
  refine mcalls_of_code (n := 370) az Tryd.func5 (by kernel_rfl) rfl rfl (Nat.le_of_ble_eq_true rfl) (by intro t u h; simp [Tryd.f5] at h) ?_
  refine code_seq (fun K1 hK1 => ?_)
  refine code_region ?_
  refine list_cons rfl (op_q (q_assign rfl (by decide)) ?_)
  refine list_nil ?_
  refine hK1 _ ?_; clear hK1 K1
  refine code_seq (fun K2 hK2 => ?_)
  refine code_seq (fun K3 hK3 => ?_)
  refine code_region ?_
  refine list_cons rfl (op_q (q_move rfl (by decide)) ?_)
  refine list_cons rfl (op_call _ (rBig_c _) rfl rfl (by decide) (by decide) (by decide) rfl ?_)
  rintro _ rfl
  refine list_nil ?_
  refine hK3 _ ?_; clear hK3 K3
  refine codeT.imp (σ' := [(0, .ext _), (2, .val (.bool _)), (56, .val (.bool _))]) ?_ (imp_covers ⟨rfl, rfl, rfl, trivial⟩)
  refine code_cond_d rfl (fun h1 => ?_) (fun h1 => ?_)
  · skip
    (try simp only [Decidable.not_not] at h1); (try have hG : Cn n0 k ∧ 0 ≤ s ∧ s ≤ 1000 := h1)
    refine code_seq (fun K4 hK4 => ?_)
    refine code_region ?_
    refine list_cons rfl (op_q (q_assign rfl (by decide)) ?_)
    refine list_nil ?_
    refine hK4 _ ?_; clear hK4 K4
    refine code_ret ?_
    refine then_r ?_; clear hK2 K2
    refine ends_ret (cs := []) rfl rfl rfl rfl trivial ?_
    first
      | rfl
      | exact absurd hG.1 (by assumption)
      | (have hps : psum (fW n0 k s.toNat 0) (i.toNat * 7) = runC n0 k s.toNat := by
           rw [show i.toNat = k.toNat by have := hG.1.1; omega]; exact wear_sum n0 k s.toNat
         first
           | rw [decide_eq_true hps]
           | exact absurd hps (by assumption)
           | (have hs1 : s = 1 := by assumption
              subst hs1
              rw [decide_eq_true (show (if Cn n0 k then stepC n0 k else 0) = runC n0 k (Int.toNat 1) by rw [if_pos hG.1]; exact (runC_1 hG.1).symm)]; done))
  · skip
    (try simp only [Decidable.not_not] at h1); (try have hG : Cn n0 k ∧ 0 ≤ s ∧ s ≤ 1000 := h1)
    refine code_skip ?_
    refine hK2 _ ?_; clear hK2 K2
    refine code_seq (fun K5 hK5 => ?_)
    refine code_region ?_
    refine list_cons rfl (op_q (q_move rfl (by decide)) ?_)
    refine list_cons rfl (op_callM (DrawRunChanges_c _ ?_) (.tmp 0) 0 [] [.tmp 58] _ rfl rfl (by intro y hy; cases hy) (by decide) (by decide) (by decide) rfl (by intro h; cases h) ?_)
    · first | assumption | omega | (simp; omega)
    rintro _ _ ⟨n0, s, k, hs, rfl⟩
    refine list_cons rfl (op_q (q_move rfl (by decide)) ?_)
    refine list_cons rfl (op_q (q_extract rfl rfl (by decide)) ?_)
    refine list_cons rfl (op_q (q_extract rfl rfl (by decide)) ?_)
    refine list_cons rfl (op_q (q_extract rfl rfl (by decide)) ?_)
    refine list_cons rfl (op_q (q_assign rfl (by decide)) ?_)
    refine list_cons rfl (op_q (q_assign rfl (by decide)) ?_)
    refine list_cons rfl (op_q (q_assign rfl (by decide)) ?_)
    refine list_nil ?_
    refine hK5 _ ?_; clear hK5 K5
    refine codeT.imp (σ' := [(0, .ext _), (2, .val (.bool _)), (3, .val (.int .i64 _)), (4, .val (.int .i64 _)), (5, .val (.int .i64 _))]) ?_ (imp_covers ⟨rfl, rfl, rfl, rfl, rfl, trivial⟩)
    refine code_seq (fun K6 hK6 => ?_)
    refine code_region ?_
    refine list_cons rfl (op_q (q_move rfl (by decide)) ?_)
    refine list_cons rfl (op_q (q_move rfl (by decide)) ?_)
    refine list_cons rfl (op_q (q_move rfl (by decide)) ?_)
    refine list_cons rfl (op_call _ (impl_RunChanges _ _ _) rfl rfl (by decide) (by decide) (by decide) rfl ?_)
    rintro _ rfl
    refine list_cons rfl (op_q (q_move rfl (by decide)) ?_)
    refine list_cons rfl (op_q (q_extract rfl rfl (by decide)) ?_)
    refine list_cons rfl (op_q (q_extract rfl rfl (by decide)) ?_)
    refine list_cons rfl (op_q (q_assign rfl (by decide)) ?_)
    refine list_cons rfl (op_q (q_assign rfl (by decide)) ?_)
    refine list_nil ?_
    refine hK6 _ ?_; clear hK6 K6
    refine codeT.imp (σ' := [(0, .ext _), (2, .val (.bool _)), (3, .val (.int .i64 _)), (4, .val (.int .i64 _)), (5, .val (.int .i64 _)), (6, .val (.int .i64 _)), (7, .val (.bool _))]) ?_ (imp_covers ⟨rfl, rfl, rfl, rfl, rfl, rfl, rfl, trivial⟩)
    refine code_seq (fun K7 hK7 => ?_)
    refine code_seq (fun K8 hK8 => ?_)
    refine code_region ?_
    refine list_cons rfl (op_q (q_move rfl (by decide)) ?_)
    refine list_cons rfl (op_q (q_move rfl (by decide)) ?_)
    refine list_cons rfl (op_q (q_move rfl (by decide)) ?_)
    refine list_cons rfl (op_call _ (spec_RunChanges _ _ _) rfl rfl (by decide) (by decide) (by decide) rfl ?_)
    rintro _ rfl
    refine list_cons rfl (op_q (q_move rfl (by decide)) ?_)
    refine list_cons rfl (op_q (q_extract rfl rfl (by decide)) ?_)
    refine list_cons rfl (op_q (q_extract rfl rfl (by decide)) ?_)
    refine list_cons rfl (op_q (q_assign rfl (by decide)) ?_)
    refine list_cons rfl (op_q (q_assign rfl (by decide)) ?_)
    refine list_nil ?_
    refine hK8 _ ?_; clear hK8 K8
    refine codeT.imp (σ' := [(0, .ext _), (2, .val (.bool _)), (3, .val (.int .i64 _)), (4, .val (.int .i64 _)), (5, .val (.int .i64 _)), (6, .val (.int .i64 _)), (7, .val (.bool _)), (8, .val (.int .i64 _)), (9, .val (.bool _))]) ?_ (imp_covers ⟨rfl, rfl, rfl, rfl, rfl, rfl, rfl, rfl, rfl, trivial⟩)
    refine code_seq (fun K9 hK9 => ?_)
    refine code_region ?_
    refine list_cons rfl (op_q (q_move rfl (by decide)) ?_)
    refine list_cons rfl (op_q (q_move rfl (by decide)) ?_)
    refine list_cons rfl (op_q (q_ne rfl rfl (by decide)) ?_)
    refine list_cons rfl (op_q (q_move rfl (by decide)) ?_)
    refine list_guard_d rfl rfl rfl rfl (by decide) rfl (by decide) (fun h2 => ?_) (fun h2 => ?_)
    · simp only [Bool.false_eq_true, if_true, if_false, Decidable.not_not] at h2
      (try simp only [Decidable.not_not] at h2); (try have hG : Cn n0 k ∧ 0 ≤ s ∧ s ≤ 1000 := h2)
      refine id (op_q (q_move rfl (by decide)) ?_)
      refine list_guard_y rfl rfl rfl rfl (by decide) rfl ?_
      refine id (op_q (q_move rfl (by decide)) ?_)
      refine list_guard_y rfl rfl rfl rfl (by decide) rfl ?_
      refine id (op_q (q_bne Tryd.underlying4 rfl rfl (by decide)) ?_)
      refine list_cons rfl (op_q (q_pick rfl rfl (by decide)) ?_)
      refine list_nil ?_
      refine hK9 _ ?_; clear hK9 K9
      refine codeT.imp (σ' := [(0, .ext _), (2, .val (.bool _)), (3, .val (.int .i64 _)), (4, .val (.int .i64 _)), (5, .val (.int .i64 _)), (6, .val (.int .i64 _)), (7, .val (.bool _)), (8, .val (.int .i64 _)), (9, .val (.bool _)), (84, .val (.bool _))]) ?_ (imp_covers ⟨rfl, rfl, rfl, rfl, rfl, rfl, rfl, rfl, rfl, rfl, trivial⟩)
      refine code_cond_d rfl (fun h3 => ?_) (fun h3 => ?_)
      · skip
        (try simp only [Decidable.not_not] at h3); (try have hG : Cn n0 k ∧ 0 ≤ s ∧ s ≤ 1000 := h3)
        exfalso
        first | exact absurd rfl h3 | exact h3 trivial | (simp at h3; done)
      · skip
        (try simp only [Decidable.not_not] at h3); (try have hG : Cn n0 k ∧ 0 ≤ s ∧ s ≤ 1000 := h3)
        refine code_skip ?_
        refine hK7 _ ?_; clear hK7 K7
        refine code_seq (fun K10 hK10 => ?_)
        refine code_region ?_
        refine list_cons rfl (op_q (q_move rfl (by decide)) ?_)
        refine list_cons rfl (op_q (q_move rfl (by decide)) ?_)
        refine list_cons rfl (op_q (q_move rfl (by decide)) ?_)
        refine list_cons rfl (op_call _ (impl_WearOf _ _ _) rfl rfl (by decide) (by decide) (by decide) rfl ?_)
        rintro _ rfl
        refine list_cons rfl (op_q (q_move rfl (by decide)) ?_)
        refine list_cons rfl (op_q (q_extract rfl rfl (by decide)) ?_)
        refine list_cons rfl (op_q (q_extract rfl rfl (by decide)) ?_)
        refine list_cons rfl (op_q (q_assign rfl (by decide)) ?_)
        refine list_cons rfl (op_q (q_assign rfl (by decide)) ?_)
        refine list_nil ?_
        refine hK10 _ ?_; clear hK10 K10
        refine codeT.imp (σ' := [(0, .ext _), (2, .val (.bool _)), (3, .val (.int .i64 _)), (4, .val (.int .i64 _)), (5, .val (.int .i64 _)), (6, .val (.int .i64 _)), (7, .val (.bool _)), (8, .val (.int .i64 _)), (9, .val (.bool _)), (10, .own 89 70 7 _ _), (11, .val (.bool _))]) ?_ (imp_covers ⟨rfl, rfl, rfl, rfl, rfl, rfl, rfl, rfl, rfl, rfl, rfl, trivial⟩)
        refine code_seq (fun K11 hK11 => ?_)
        refine code_seq (fun K12 hK12 => ?_)
        refine code_region ?_
        refine list_cons rfl (op_q (q_move rfl (by decide)) ?_)
        refine list_cons rfl (op_q (q_move rfl (by decide)) ?_)
        refine list_cons rfl (op_q (q_move rfl (by decide)) ?_)
        refine list_cons rfl (op_call _ (spec_WearOf _ _ _) rfl rfl (by decide) (by decide) (by decide) rfl ?_)
        rintro _ rfl
        refine list_cons rfl (op_q (q_move rfl (by decide)) ?_)
        refine list_cons rfl (op_q (q_extract rfl rfl (by decide)) ?_)
        refine list_cons rfl (op_q (q_extract rfl rfl (by decide)) ?_)
        refine list_cons rfl (op_q (q_assign rfl (by decide)) ?_)
        refine list_cons rfl (op_q (q_assign rfl (by decide)) ?_)
        refine list_nil ?_
        refine hK12 _ ?_; clear hK12 K12
        refine codeT.imp (σ' := [(0, .ext _), (2, .val (.bool _)), (3, .val (.int .i64 _)), (4, .val (.int .i64 _)), (5, .val (.int .i64 _)), (6, .val (.int .i64 _)), (7, .val (.bool _)), (8, .val (.int .i64 _)), (9, .val (.bool _)), (10, .own 89 70 7 _ _), (11, .val (.bool _)), (12, .own 96 70 7 _ _), (13, .val (.bool _))]) ?_ (imp_covers ⟨rfl, rfl, rfl, rfl, rfl, rfl, rfl, rfl, rfl, rfl, rfl, rfl, rfl, trivial⟩)
        refine code_seq (fun K13 hK13 => ?_)
        refine code_region ?_
        refine list_cons rfl (op_q (q_move rfl (by decide)) ?_)
        refine list_cons rfl (op_q (q_move rfl (by decide)) ?_)
        refine list_cons rfl (op_q (q_bne Tryd.underlying4 rfl rfl (by decide)) ?_)
        refine list_cons rfl (op_q (q_move rfl (by decide)) ?_)
        refine list_guard_d rfl rfl rfl rfl (by decide) rfl (by decide) (fun h4 => ?_) (fun h4 => ?_)
        · simp only [Bool.false_eq_true, if_true, if_false, Decidable.not_not] at h4
          (try simp only [Decidable.not_not] at h4); (try have hG : Cn n0 k ∧ 0 ≤ s ∧ s ≤ 1000 := h4)
          refine id (op_q (q_move rfl (by decide)) ?_)
          refine list_guard_y rfl rfl rfl rfl (by decide) rfl ?_
          refine id (op_q (q_move rfl (by decide)) ?_)
          refine list_guard_y rfl rfl rfl rfl (by decide) rfl ?_
          refine id (op_q (q_bne Tryd.underlying4 rfl rfl (by decide)) ?_)
          refine list_cons rfl (op_q (q_pick rfl rfl (by decide)) ?_)
          refine list_cons rfl (op_q (q_move rfl (by decide)) ?_)
          refine list_guard_d rfl rfl rfl rfl (by decide) rfl (by decide) (fun h5 => ?_) (fun h5 => ?_)
          · simp only [Bool.false_eq_true, if_true, if_false, Decidable.not_not] at h5
            (try simp only [Decidable.not_not] at h5); (try have hG : Cn n0 k ∧ 0 ≤ s ∧ s ≤ 1000 := h5)
            refine id (op_q (q_move rfl (by decide)) ?_)
            refine list_guard_y rfl rfl rfl rfl (by decide) rfl ?_
            refine id (op_q (q_move rfl (by decide)) ?_)
            refine list_guard_y rfl rfl rfl rfl (by decide) rfl ?_
            refine id (op_call _ (rSevens_c _ _ (wearI_len _ _ _) (wearI_le _ _ _)) rfl rfl (by decide) (by decide) (by decide) rfl ?_)
            rintro _ rfl
            refine list_guard_y rfl rfl rfl rfl (by decide) rfl ?_
            refine id (op_q (by first | exact q_notd rfl (by decide) | exact q_not rfl (by decide)) ?_)
            refine list_cons rfl (op_q (q_pick rfl rfl (by decide)) ?_)
            refine list_nil ?_
            refine hK13 _ ?_; clear hK13 K13
            refine codeT.imp (σ' := [(0, .ext _), (2, .val (.bool _)), (3, .val (.int .i64 _)), (4, .val (.int .i64 _)), (5, .val (.int .i64 _)), (6, .val (.int .i64 _)), (7, .val (.bool _)), (8, .val (.int .i64 _)), (9, .val (.bool _)), (10, .own 89 70 7 _ _), (11, .val (.bool _)), (12, .own 96 70 7 _ _), (13, .val (.bool _)), (112, .val (.bool _))]) ?_ (imp_covers ⟨rfl, rfl, rfl, rfl, rfl, rfl, rfl, rfl, rfl, rfl, rfl, rfl, rfl, rfl, trivial⟩)
            refine code_cond_f rfl ?_
            refine code_skip ?_
            refine hK11 _ ?_; clear hK11 K11
            refine code_seq (fun K14 hK14 => ?_)
            refine code_region ?_
            refine list_cons rfl (op_q (q_move rfl (by decide)) ?_)
            refine list_cons rfl (op_q (q_move rfl (by decide)) ?_)
            refine list_cons rfl (op_q (q_move rfl (by decide)) ?_)
            refine list_cons rfl (op_call _ (impl_LightOf _ _ _) rfl rfl (by decide) (by decide) (by decide) rfl ?_)
            rintro _ rfl
            refine list_cons rfl (op_q (q_move rfl (by decide)) ?_)
            refine list_cons rfl (op_q (q_extract rfl rfl (by decide)) ?_)
            refine list_cons rfl (op_q (q_extract rfl rfl (by decide)) ?_)
            refine list_cons rfl (op_q (q_assign rfl (by decide)) ?_)
            refine list_cons rfl (op_q (q_assign rfl (by decide)) ?_)
            refine list_nil ?_
            refine hK14 _ ?_; clear hK14 K14
            refine codeT.imp (σ' := [(0, .ext _), (2, .val (.bool _)), (3, .val (.int .i64 _)), (4, .val (.int .i64 _)), (5, .val (.int .i64 _)), (6, .val (.int .i64 _)), (7, .val (.bool _)), (8, .val (.int .i64 _)), (9, .val (.bool _)), (10, .own 89 70 7 _ _), (11, .val (.bool _)), (12, .own 96 70 7 _ _), (13, .val (.bool _)), (14, .val (.int .i64 _)), (15, .val (.bool _))]) ?_ (imp_covers ⟨rfl, rfl, rfl, rfl, rfl, rfl, rfl, rfl, rfl, rfl, rfl, rfl, rfl, rfl, rfl, trivial⟩)
            refine codeT.imp (σ' := [(0, .ext _), (2, .val (.bool _)), (3, .val (.int .i64 _)), (4, .val (.int .i64 _)), (5, .val (.int .i64 _)), (6, .val (.int .i64 _)), (7, .val (.bool _)), (10, .own 89 70 7 _ _), (14, .val (.int .i64 _)), (15, .val (.bool _))]) ?_ (imp_covers ⟨rfl, rfl, rfl, rfl, rfl, rfl, rfl, rfl, rfl, rfl, trivial⟩)
            refine code_seq_same ?_ ?_
            · skip
              refine code_seq (fun K15 hK15 => ?_)
              refine code_region ?_
              refine list_cons rfl (op_q (q_move rfl (by decide)) ?_)
              refine list_cons rfl (op_q (q_move rfl (by decide)) ?_)
              refine list_cons rfl (op_q (q_move rfl (by decide)) ?_)
              refine list_cons rfl (op_call _ (spec_LightOf _ _ _) rfl rfl (by decide) (by decide) (by decide) rfl ?_)
              rintro _ rfl
              refine list_cons rfl (op_q (q_move rfl (by decide)) ?_)
              refine list_cons rfl (op_q (q_extract rfl rfl (by decide)) ?_)
              refine list_cons rfl (op_q (q_extract rfl rfl (by decide)) ?_)
              refine list_cons rfl (op_q (q_assign rfl (by decide)) ?_)
              refine list_cons rfl (op_q (q_assign rfl (by decide)) ?_)
              refine list_nil ?_
              refine hK15 _ ?_; clear hK15 K15
              refine codeT.imp (σ' := [(0, .ext _), (2, .val (.bool _)), (3, .val (.int .i64 _)), (4, .val (.int .i64 _)), (5, .val (.int .i64 _)), (6, .val (.int .i64 _)), (7, .val (.bool _)), (10, .own 89 70 7 _ _), (14, .val (.int .i64 _)), (15, .val (.bool _)), (16, .val (.int .i64 _)), (17, .val (.bool _))]) ?_ (imp_covers ⟨rfl, rfl, rfl, rfl, rfl, rfl, rfl, rfl, rfl, rfl, rfl, rfl, trivial⟩)
              refine code_seq (fun K16 hK16 => ?_)
              refine code_region ?_
              refine list_cons rfl (op_q (q_move rfl (by decide)) ?_)
              refine list_cons rfl (op_q (q_move rfl (by decide)) ?_)
              refine list_cons rfl (op_q (q_ne rfl rfl (by decide)) ?_)
              refine list_cons rfl (op_q (q_move rfl (by decide)) ?_)
              refine list_guard_d rfl rfl rfl rfl (by decide) rfl (by decide) (fun h6 => ?_) (fun h6 => ?_)
              · simp only [Bool.false_eq_true, if_true, if_false, Decidable.not_not] at h6
                (try simp only [Decidable.not_not] at h6); (try have hG : Cn n0 k ∧ 0 ≤ s ∧ s ≤ 1000 := h6)
                refine id (op_q (q_move rfl (by decide)) ?_)
                refine list_guard_y rfl rfl rfl rfl (by decide) rfl ?_
                refine id (op_q (q_move rfl (by decide)) ?_)
                refine list_guard_y rfl rfl rfl rfl (by decide) rfl ?_
                refine id (op_q (q_bne Tryd.underlying4 rfl rfl (by decide)) ?_)
                refine list_cons rfl (op_q (q_pick rfl rfl (by decide)) ?_)
                refine list_cons rfl (op_q (q_move rfl (by decide)) ?_)
                refine list_guard_d rfl rfl rfl rfl (by decide) rfl (by decide) (fun h7 => ?_) (fun h7 => ?_)
                · simp only [Bool.false_eq_true, if_true, if_false, Decidable.not_not] at h7
                  (try simp only [Decidable.not_not] at h7); (try have hG : Cn n0 k ∧ 0 ≤ s ∧ s ≤ 1000 := h7)
                  refine id (op_q (q_move rfl (by decide)) ?_)
                  refine list_guard_y rfl rfl rfl rfl (by decide) rfl ?_
                  refine id (op_q (q_move rfl (by decide)) ?_)
                  refine list_guard_y rfl rfl rfl rfl (by decide) rfl ?_
                  refine id (op_q (q_move rfl (by decide)) ?_)
                  refine list_guard_d rfl rfl rfl rfl (by decide) rfl (by decide) (fun h8 => ?_) (fun h8 => ?_)
                  · simp only [Bool.false_eq_true, if_true, if_false, Decidable.not_not] at h8
                    (try simp only [Decidable.not_not] at h8); (try have hG : Cn n0 k ∧ 0 ≤ s ∧ s ≤ 1000 := h8)
                    refine id (op_q (q_move rfl (by decide)) ?_)
                    refine list_guard_y rfl rfl rfl rfl (by decide) rfl ?_
                    refine id (op_q (q_gt rfl rfl (by decide)) ?_)
                    refine list_guard_y rfl rfl rfl rfl (by decide) rfl ?_
                    refine id (op_q (q_pick rfl rfl (by decide)) ?_)
                    refine list_guard_y rfl rfl rfl rfl (by decide) rfl ?_
                    refine id (op_q (q_bne Tryd.underlying4 rfl rfl (by decide)) ?_)
                    refine list_cons rfl (op_q (q_pick rfl rfl (by decide)) ?_)
                    refine list_nil ?_
                    refine hK16 _ ?_; clear hK16 K16
                    refine codeT.imp (σ' := [(0, .ext _), (2, .val (.bool _)), (3, .val (.int .i64 _)), (4, .val (.int .i64 _)), (5, .val (.int .i64 _)), (6, .val (.int .i64 _)), (7, .val (.bool _)), (10, .own 89 70 7 _ _), (14, .val (.int .i64 _)), (15, .val (.bool _)), (16, .val (.int .i64 _)), (17, .val (.bool _)), (143, .val (.bool _))]) ?_ (imp_covers ⟨rfl, rfl, rfl, rfl, rfl, rfl, rfl, rfl, rfl, rfl, rfl, rfl, rfl, trivial⟩)
                    refine code_cond_d rfl (fun h9 => ?_) (fun h9 => ?_)
                    · skip
                      (try simp only [Decidable.not_not] at h9); (try have hG : Cn n0 k ∧ 0 ≤ s ∧ s ≤ 1000 := h9)
                      exfalso
                      first | exact h9 (decide_eq_decide.mpr ⟨fun e => by have := hG.2; have := e.2; omega, fun e => ⟨hG, by omega⟩⟩) | exact h9 (decide_eq_false fun e => absurd e.1 (by assumption))
                    · skip
                      (try simp only [Decidable.not_not] at h9); (try have hG : Cn n0 k ∧ 0 ≤ s ∧ s ≤ 1000 := h9)
                      refine code_skip ?_
                      exact then_n (imp_covers ⟨rfl, rfl, rfl, rfl, rfl, rfl, rfl, rfl, rfl, rfl, trivial⟩)
                  · simp only [Bool.false_eq_true, if_true, if_false, Decidable.not_not] at h8
                    (try simp only [Decidable.not_not] at h8); (try have hG : Cn n0 k ∧ 0 ≤ s ∧ s ≤ 1000 := h8)
                    refine list_guard_nT rfl rfl rfl rfl (by decide) (by decide) ?_
                    refine list_guard_y rfl rfl rfl rfl (by decide) rfl ?_
                    refine id (op_q (q_pick rfl rfl (by decide)) ?_)
                    refine list_guard_y rfl rfl rfl rfl (by decide) rfl ?_
                    refine id (op_q (q_bne Tryd.underlying4 rfl rfl (by decide)) ?_)
                    refine list_cons rfl (op_q (q_pick rfl rfl (by decide)) ?_)
                    refine list_nil ?_
                    refine hK16 _ ?_; clear hK16 K16
                    refine codeT.imp (σ' := [(0, .ext _), (2, .val (.bool _)), (3, .val (.int .i64 _)), (4, .val (.int .i64 _)), (5, .val (.int .i64 _)), (6, .val (.int .i64 _)), (7, .val (.bool _)), (10, .own 89 70 7 _ _), (14, .val (.int .i64 _)), (15, .val (.bool _)), (16, .val (.int .i64 _)), (17, .val (.bool _)), (143, .val (.bool _))]) ?_ (imp_covers ⟨rfl, rfl, rfl, rfl, rfl, rfl, rfl, rfl, rfl, rfl, rfl, rfl, rfl, trivial⟩)
                    refine code_cond_d rfl (fun h10 => ?_) (fun h10 => ?_)
                    · skip
                      (try simp only [Decidable.not_not] at h10); (try have hG : Cn n0 k ∧ 0 ≤ s ∧ s ≤ 1000 := h10)
                      exfalso
                      first | exact h10 (decide_eq_decide.mpr ⟨fun e => by have := hG.2; have := e.2; omega, fun e => ⟨hG, by omega⟩⟩) | exact h10 (decide_eq_false fun e => absurd e.1 (by assumption))
                    · skip
                      (try simp only [Decidable.not_not] at h10); (try have hG : Cn n0 k ∧ 0 ≤ s ∧ s ≤ 1000 := h10)
                      refine code_skip ?_
                      exact then_n (imp_covers ⟨rfl, rfl, rfl, rfl, rfl, rfl, rfl, rfl, rfl, rfl, trivial⟩)
                · simp only [Bool.false_eq_true, if_true, if_false, Decidable.not_not] at h7
                  (try simp only [Decidable.not_not] at h7); (try have hG : Cn n0 k ∧ 0 ≤ s ∧ s ≤ 1000 := h7)
                  exfalso
                  first | exact absurd rfl h7 | exact h7 trivial | (simp at h7; done)
              · simp only [Bool.false_eq_true, if_true, if_false, Decidable.not_not] at h6
                (try simp only [Decidable.not_not] at h6); (try have hG : Cn n0 k ∧ 0 ≤ s ∧ s ≤ 1000 := h6)
                exfalso
                first | exact absurd rfl h6 | exact h6 trivial | (simp at h6; done)
            · skip
              refine code_seq (fun K17 hK17 => ?_)
              refine code_region ?_
              refine list_cons rfl (op_q (q_move rfl (by decide)) ?_)
              refine list_cons rfl (op_callM (DrawStepChanges_c _ ?_) (.tmp 0) 0 [] [.tmp 145] _ rfl rfl (by intro y hy; cases hy) (by decide) (by decide) (by decide) rfl (by intro h; cases h) ?_)
              · first | assumption | omega | (simp; omega)
              rintro _ _ ⟨n, cells, rfl⟩
              refine list_cons rfl (op_q (q_move rfl (by decide)) ?_)
              refine list_cons rfl (op_q (q_extract rfl rfl (by decide)) ?_)
              refine list_cons rfl (op_q (q_extract rfl rfl (by decide)) ?_)
              refine list_cons rfl (op_q (q_assign rfl (by decide)) ?_)
              refine list_cons rfl (op_q (q_assign rfl (by decide)) ?_)
              refine list_nil ?_
              refine hK17 _ ?_; clear hK17 K17
              refine codeT.imp (σ' := [(0, .ext _), (2, .val (.bool _)), (3, .val (.int .i64 _)), (4, .val (.int .i64 _)), (5, .val (.int .i64 _)), (6, .val (.int .i64 _)), (7, .val (.bool _)), (10, .own 89 70 7 _ _), (14, .val (.int .i64 _)), (15, .val (.bool _)), (18, .val (.int .i64 _)), (19, .val (.int .i64 _))]) ?_ (imp_covers ⟨rfl, rfl, rfl, rfl, rfl, rfl, rfl, rfl, rfl, rfl, rfl, rfl, trivial⟩)
              refine code_seq (fun K18 hK18 => ?_)
              refine code_region ?_
              refine list_cons rfl (op_q (q_move rfl (by decide)) ?_)
              refine list_cons rfl (op_q (q_move rfl (by decide)) ?_)
              refine list_cons rfl (op_call _ (impl_StepChanges _ _) rfl rfl (by decide) (by decide) (by decide) rfl ?_)
              rintro _ rfl
              refine list_cons rfl (op_q (q_move rfl (by decide)) ?_)
              refine list_cons rfl (op_q (q_extract rfl rfl (by decide)) ?_)
              refine list_cons rfl (op_q (q_extract rfl rfl (by decide)) ?_)
              refine list_cons rfl (op_q (q_assign rfl (by decide)) ?_)
              refine list_cons rfl (op_q (q_assign rfl (by decide)) ?_)
              refine list_nil ?_
              refine hK18 _ ?_; clear hK18 K18
              refine codeT.imp (σ' := [(0, .ext _), (2, .val (.bool _)), (3, .val (.int .i64 _)), (4, .val (.int .i64 _)), (5, .val (.int .i64 _)), (6, .val (.int .i64 _)), (7, .val (.bool _)), (10, .own 89 70 7 _ _), (14, .val (.int .i64 _)), (15, .val (.bool _)), (18, .val (.int .i64 _)), (19, .val (.int .i64 _)), (20, .val (.int .i64 _)), (21, .val (.bool _))]) ?_ (imp_covers ⟨rfl, rfl, rfl, rfl, rfl, rfl, rfl, rfl, rfl, rfl, rfl, rfl, rfl, rfl, trivial⟩)
              refine code_seq (fun K19 hK19 => ?_)
              refine code_seq (fun K20 hK20 => ?_)
              refine code_region ?_
              refine list_cons rfl (op_q (q_move rfl (by decide)) ?_)
              refine list_cons rfl (op_q (q_move rfl (by decide)) ?_)
              refine list_cons rfl (op_call _ (spec_StepChanges _ _) rfl rfl (by decide) (by decide) (by decide) rfl ?_)
              rintro _ rfl
              refine list_cons rfl (op_q (q_move rfl (by decide)) ?_)
              refine list_cons rfl (op_q (q_extract rfl rfl (by decide)) ?_)
              refine list_cons rfl (op_q (q_extract rfl rfl (by decide)) ?_)
              refine list_cons rfl (op_q (q_assign rfl (by decide)) ?_)
              refine list_cons rfl (op_q (q_assign rfl (by decide)) ?_)
              refine list_nil ?_
              refine hK20 _ ?_; clear hK20 K20
              refine codeT.imp (σ' := [(0, .ext _), (2, .val (.bool _)), (3, .val (.int .i64 _)), (4, .val (.int .i64 _)), (5, .val (.int .i64 _)), (6, .val (.int .i64 _)), (7, .val (.bool _)), (10, .own 89 70 7 _ _), (14, .val (.int .i64 _)), (15, .val (.bool _)), (18, .val (.int .i64 _)), (19, .val (.int .i64 _)), (20, .val (.int .i64 _)), (21, .val (.bool _)), (22, .val (.int .i64 _)), (23, .val (.bool _))]) ?_ (imp_covers ⟨rfl, rfl, rfl, rfl, rfl, rfl, rfl, rfl, rfl, rfl, rfl, rfl, rfl, rfl, rfl, rfl, trivial⟩)
              refine code_seq (fun K21 hK21 => ?_)
              refine code_region ?_
              refine list_cons rfl (op_q (q_move rfl (by decide)) ?_)
              refine list_cons rfl (op_q (q_move rfl (by decide)) ?_)
              refine list_cons rfl (op_q (q_ne rfl rfl (by decide)) ?_)
              refine list_cons rfl (op_q (q_move rfl (by decide)) ?_)
              refine list_guard_d rfl rfl rfl rfl (by decide) rfl (by decide) (fun h11 => ?_) (fun h11 => ?_)
              · simp only [Bool.false_eq_true, if_true, if_false, Decidable.not_not] at h11
                (try simp only [Decidable.not_not] at h11); (try have hG : Cn n0 k ∧ 0 ≤ s ∧ s ≤ 1000 := h11)
                refine id (op_q (q_move rfl (by decide)) ?_)
                refine list_guard_y rfl rfl rfl rfl (by decide) rfl ?_
                refine id (op_q (q_move rfl (by decide)) ?_)
                refine list_guard_y rfl rfl rfl rfl (by decide) rfl ?_
                refine id (op_q (q_bne Tryd.underlying4 rfl rfl (by decide)) ?_)
                refine list_cons rfl (op_q (q_pick rfl rfl (by decide)) ?_)
                refine list_nil ?_
                refine hK21 _ ?_; clear hK21 K21
                refine codeT.imp (σ' := [(0, .ext _), (2, .val (.bool _)), (3, .val (.int .i64 _)), (4, .val (.int .i64 _)), (5, .val (.int .i64 _)), (6, .val (.int .i64 _)), (7, .val (.bool _)), (10, .own 89 70 7 _ _), (14, .val (.int .i64 _)), (15, .val (.bool _)), (18, .val (.int .i64 _)), (19, .val (.int .i64 _)), (20, .val (.int .i64 _)), (21, .val (.bool _)), (22, .val (.int .i64 _)), (23, .val (.bool _)), (168, .val (.bool _))]) ?_ (imp_covers ⟨rfl, rfl, rfl, rfl, rfl, rfl, rfl, rfl, rfl, rfl, rfl, rfl, rfl, rfl, rfl, rfl, rfl, trivial⟩)
                refine code_cond_d rfl (fun h12 => ?_) (fun h12 => ?_)
                · skip
                  (try simp only [Decidable.not_not] at h12); (try have hG : Cn n0 k ∧ 0 ≤ s ∧ s ≤ 1000 := h12)
                  exfalso
                  first | exact absurd rfl h12 | exact h12 trivial | (simp at h12; done)
                · skip
                  (try simp only [Decidable.not_not] at h12); (try have hG : Cn n0 k ∧ 0 ≤ s ∧ s ≤ 1000 := h12)
                  refine code_skip ?_
                  refine hK19 _ ?_; clear hK19 K19
                  refine code_seq (fun K22 hK22 => ?_)
                  refine code_region ?_
                  refine list_cons rfl (op_q (q_move rfl (by decide)) ?_)
                  refine list_cons rfl (op_q (q_move rfl (by decide)) ?_)
                  refine list_cons rfl (op_call _ (impl_CounterRow _ _) rfl rfl (by decide) (by decide) (by decide) rfl ?_)
                  rintro _ rfl; have hrl := rowI_len n cells
                  refine list_cons rfl (op_q (q_move rfl (by decide)) ?_)
                  refine list_cons rfl (op_q (q_extract rfl rfl (by decide)) ?_)
                  refine list_cons rfl (op_q (q_extract rfl rfl (by decide)) ?_)
                  refine list_cons rfl (op_q (q_assign rfl (by decide)) ?_)
                  refine list_cons rfl (op_q (q_assign rfl (by decide)) ?_)
                  refine list_nil ?_
                  refine hK22 _ ?_; clear hK22 K22
                  refine codeT.imp (σ' := [(0, .ext _), (2, .val (.bool _)), (3, .val (.int .i64 _)), (4, .val (.int .i64 _)), (5, .val (.int .i64 _)), (6, .val (.int .i64 _)), (7, .val (.bool _)), (10, .own 89 70 7 _ _), (14, .val (.int .i64 _)), (15, .val (.bool _)), (18, .val (.int .i64 _)), (19, .val (.int .i64 _)), (20, .val (.int .i64 _)), (21, .val (.bool _)), (22, .val (.int .i64 _)), (23, .val (.bool _)), (24, .own 172 3 1 _ _), (25, .val (.bool _))]) ?_ (imp_covers ⟨rfl, rfl, rfl, rfl, rfl, rfl, rfl, rfl, rfl, rfl, rfl, rfl, rfl, rfl, rfl, rfl, rfl, rfl, trivial⟩)
                  refine code_seq (fun K23 hK23 => ?_)
                  refine code_seq (fun K24 hK24 => ?_)
                  refine code_region ?_
                  refine list_cons rfl (op_q (q_move rfl (by decide)) ?_)
                  refine list_cons rfl (op_q (q_move rfl (by decide)) ?_)
                  refine list_cons rfl (op_call _ (spec_CounterRow _ _) rfl rfl (by decide) (by decide) (by decide) rfl ?_)
                  rintro _ rfl
                  refine list_cons rfl (op_q (q_move rfl (by decide)) ?_)
                  refine list_cons rfl (op_q (q_extract rfl rfl (by decide)) ?_)
                  refine list_cons rfl (op_q (q_extract rfl rfl (by decide)) ?_)
                  refine list_cons rfl (op_q (q_assign rfl (by decide)) ?_)
                  refine list_cons rfl (op_q (q_assign rfl (by decide)) ?_)
                  refine list_nil ?_
                  refine hK24 _ ?_; clear hK24 K24
                  refine codeT.imp (σ' := [(0, .ext _), (2, .val (.bool _)), (3, .val (.int .i64 _)), (4, .val (.int .i64 _)), (5, .val (.int .i64 _)), (6, .val (.int .i64 _)), (7, .val (.bool _)), (10, .own 89 70 7 _ _), (14, .val (.int .i64 _)), (15, .val (.bool _)), (18, .val (.int .i64 _)), (19, .val (.int .i64 _)), (20, .val (.int .i64 _)), (21, .val (.bool _)), (22, .val (.int .i64 _)), (23, .val (.bool _)), (24, .own 172 3 1 _ _), (25, .val (.bool _)), (26, .own 178 3 1 _ _), (27, .val (.bool _))]) ?_ (imp_covers ⟨rfl, rfl, rfl, rfl, rfl, rfl, rfl, rfl, rfl, rfl, rfl, rfl, rfl, rfl, rfl, rfl, rfl, rfl, rfl, rfl, trivial⟩)
                  refine code_seq (fun K25 hK25 => ?_)
                  refine code_region ?_
                  refine list_cons rfl (op_q (q_move rfl (by decide)) ?_)
                  refine list_cons rfl (op_q (q_move rfl (by decide)) ?_)
                  refine list_cons rfl (op_q (q_bne Tryd.underlying4 rfl rfl (by decide)) ?_)
                  refine list_cons rfl (op_q (q_move rfl (by decide)) ?_)
                  refine list_guard_d rfl rfl rfl rfl (by decide) rfl (by decide) (fun h13 => ?_) (fun h13 => ?_)
                  · simp only [Bool.false_eq_true, if_true, if_false, Decidable.not_not] at h13
                    (try simp only [Decidable.not_not] at h13); (try have hG : Cn n0 k ∧ 0 ≤ s ∧ s ≤ 1000 := h13)
                    refine id (op_q (q_move rfl (by decide)) ?_)
                    refine list_guard_y rfl rfl rfl rfl (by decide) rfl ?_
                    refine id (op_q (q_move rfl (by decide)) ?_)
                    refine list_guard_y rfl rfl rfl rfl (by decide) rfl ?_
                    refine id (op_q (q_bne Tryd.underlying4 rfl rfl (by decide)) ?_)
                    refine list_cons rfl (op_q (q_pick rfl rfl (by decide)) ?_)
                    refine list_cons rfl (op_q (q_move rfl (by decide)) ?_)
                    refine list_guard_d rfl rfl rfl rfl (by decide) rfl (by decide) (fun h14 => ?_) (fun h14 => ?_)
                    · simp only [Bool.false_eq_true, if_true, if_false, Decidable.not_not] at h14
                      (try simp only [Decidable.not_not] at h14); (try have hG : Cn n0 k ∧ 0 ≤ s ∧ s ≤ 1000 := h14)
                      refine id (op_q (q_move rfl (by decide)) ?_)
                      refine list_guard_y rfl rfl rfl rfl (by decide) rfl ?_
                      refine id (op_q (q_move rfl (by decide)) ?_)
                      refine list_guard_y rfl rfl rfl rfl (by decide) rfl ?_
                      refine id (op_call _ (rInts_c _ _ (by first | omega | (simp; omega))) rfl rfl (by decide) (by decide) (by decide) rfl ?_)
                      rintro _ rfl
                      refine list_guard_y rfl rfl rfl rfl (by decide) rfl ?_
                      refine id (op_q (by first | exact q_notd rfl (by decide) | exact q_not rfl (by decide)) ?_)
                      refine list_cons rfl (op_q (q_pick rfl rfl (by decide)) ?_)
                      refine list_nil ?_
                      refine hK25 _ ?_; clear hK25 K25
                      refine codeT.imp (σ' := [(0, .ext _), (2, .val (.bool _)), (3, .val (.int .i64 _)), (4, .val (.int .i64 _)), (5, .val (.int .i64 _)), (6, .val (.int .i64 _)), (7, .val (.bool _)), (10, .own 89 70 7 _ _), (14, .val (.int .i64 _)), (15, .val (.bool _)), (18, .val (.int .i64 _)), (19, .val (.int .i64 _)), (20, .val (.int .i64 _)), (21, .val (.bool _)), (22, .val (.int .i64 _)), (23, .val (.bool _)), (24, .own 172 3 1 _ _), (25, .val (.bool _)), (26, .own 178 3 1 _ _), (27, .val (.bool _)), (194, .val (.bool _))]) ?_ (imp_covers ⟨rfl, rfl, rfl, rfl, rfl, rfl, rfl, rfl, rfl, rfl, rfl, rfl, rfl, rfl, rfl, rfl, rfl, rfl, rfl, rfl, rfl, trivial⟩)
                      refine code_cond_d rfl (fun h15 => ?_) (fun h15 => ?_)
                      · skip
                        (try simp only [Decidable.not_not] at h15); (try have hG : Cn n0 k ∧ 0 ≤ s ∧ s ≤ 1000 := h15)
                        exfalso
                        first | exact absurd rfl h15 | exact h15 trivial | (simp at h15; done)
                      · skip
                        (try simp only [Decidable.not_not] at h15); (try have hG : Cn n0 k ∧ 0 ≤ s ∧ s ≤ 1000 := h15)
                        refine code_skip ?_
                        refine hK23 _ ?_; clear hK23 K23
                        refine code_seq (fun K26 hK26 => ?_)
                        refine code_region ?_
                        refine list_cons rfl (op_q (q_move rfl (by decide)) ?_)
                        refine list_cons rfl (op_callM (DrawMostChanges_c _ ?_) (.tmp 0) 0 [] [.tmp 195] _ rfl rfl (by intro y hy; cases hy) (by decide) (by decide) (by decide) rfl (by intro h; cases h) ?_)
                        · first | assumption | omega | (simp; omega)
                        rintro _ _ ⟨x0, hx0, rfl⟩
                        refine list_cons rfl (op_q (q_assign rfl (by decide)) ?_)
                        refine list_nil ?_
                        refine hK26 _ ?_; clear hK26 K26
                        refine codeT.imp (σ' := [(0, .ext _), (2, .val (.bool _)), (3, .val (.int .i64 _)), (4, .val (.int .i64 _)), (5, .val (.int .i64 _)), (6, .val (.int .i64 _)), (7, .val (.bool _)), (10, .own 89 70 7 _ _), (14, .val (.int .i64 _)), (15, .val (.bool _)), (18, .val (.int .i64 _)), (19, .val (.int .i64 _)), (20, .val (.int .i64 _)), (21, .val (.bool _)), (22, .val (.int .i64 _)), (23, .val (.bool _)), (24, .own 172 3 1 _ _), (25, .val (.bool _)), (26, .own 178 3 1 _ _), (27, .val (.bool _)), (28, .val (.int .i64 _))]) ?_ (imp_covers ⟨rfl, rfl, rfl, rfl, rfl, rfl, rfl, rfl, rfl, rfl, rfl, rfl, rfl, rfl, rfl, rfl, rfl, rfl, rfl, rfl, rfl, trivial⟩)
                        refine code_seq (fun K27 hK27 => ?_)
                        refine code_region ?_
                        refine list_cons rfl (op_q (q_move rfl (by decide)) ?_)
                        refine list_cons rfl (op_call _ (impl_MostChanges _) rfl rfl (by decide) (by decide) (by decide) rfl ?_)
                        rintro _ rfl
                        refine list_cons rfl (op_q (q_move rfl (by decide)) ?_)
                        refine list_cons rfl (op_q (q_extract rfl rfl (by decide)) ?_)
                        refine list_cons rfl (op_q (q_extract rfl rfl (by decide)) ?_)
                        refine list_cons rfl (op_q (q_extract rfl rfl (by decide)) ?_)
                        refine list_cons rfl (op_q (q_assign rfl (by decide)) ?_)
                        refine list_cons rfl (op_q (q_assign rfl (by decide)) ?_)
                        refine list_cons rfl (op_q (q_assign rfl (by decide)) ?_)
                        refine list_nil ?_
                        refine hK27 _ ?_; clear hK27 K27
                        refine codeT.imp (σ' := [(0, .ext _), (2, .val (.bool _)), (3, .val (.int .i64 _)), (4, .val (.int .i64 _)), (5, .val (.int .i64 _)), (6, .val (.int .i64 _)), (7, .val (.bool _)), (10, .own 89 70 7 _ _), (14, .val (.int .i64 _)), (15, .val (.bool _)), (18, .val (.int .i64 _)), (19, .val (.int .i64 _)), (20, .val (.int .i64 _)), (21, .val (.bool _)), (22, .val (.int .i64 _)), (23, .val (.bool _)), (24, .own 172 3 1 _ _), (25, .val (.bool _)), (26, .own 178 3 1 _ _), (27, .val (.bool _)), (28, .val (.int .i64 _)), (29, .val (.int .i64 _)), (30, .val (.int .i64 _)), (31, .val (.bool _))]) ?_ (imp_covers ⟨rfl, rfl, rfl, rfl, rfl, rfl, rfl, rfl, rfl, rfl, rfl, rfl, rfl, rfl, rfl, rfl, rfl, rfl, rfl, rfl, rfl, rfl, rfl, rfl, trivial⟩)
                        refine code_seq (fun K28 hK28 => ?_)
                        refine code_seq (fun K29 hK29 => ?_)
                        refine code_region ?_
                        refine list_cons rfl (op_q (q_move rfl (by decide)) ?_)
                        refine list_cons rfl (op_call _ (spec_MostChanges _) rfl rfl (by decide) (by decide) (by decide) rfl ?_)
                        rintro _ rfl
                        refine list_cons rfl (op_q (q_move rfl (by decide)) ?_)
                        refine list_cons rfl (op_q (q_extract rfl rfl (by decide)) ?_)
                        refine list_cons rfl (op_q (q_extract rfl rfl (by decide)) ?_)
                        refine list_cons rfl (op_q (q_extract rfl rfl (by decide)) ?_)
                        refine list_cons rfl (op_q (q_assign rfl (by decide)) ?_)
                        refine list_cons rfl (op_q (q_assign rfl (by decide)) ?_)
                        refine list_cons rfl (op_q (q_assign rfl (by decide)) ?_)
                        refine list_nil ?_
                        refine hK29 _ ?_; clear hK29 K29
                        refine codeT.imp (σ' := [(0, .ext _), (2, .val (.bool _)), (3, .val (.int .i64 _)), (4, .val (.int .i64 _)), (5, .val (.int .i64 _)), (6, .val (.int .i64 _)), (7, .val (.bool _)), (10, .own 89 70 7 _ _), (14, .val (.int .i64 _)), (15, .val (.bool _)), (18, .val (.int .i64 _)), (19, .val (.int .i64 _)), (20, .val (.int .i64 _)), (21, .val (.bool _)), (22, .val (.int .i64 _)), (23, .val (.bool _)), (24, .own 172 3 1 _ _), (25, .val (.bool _)), (26, .own 178 3 1 _ _), (27, .val (.bool _)), (28, .val (.int .i64 _)), (29, .val (.int .i64 _)), (30, .val (.int .i64 _)), (31, .val (.bool _)), (32, .val (.int .i64 _)), (33, .val (.int .i64 _)), (34, .val (.bool _))]) ?_ (imp_covers ⟨rfl, rfl, rfl, rfl, rfl, rfl, rfl, rfl, rfl, rfl, rfl, rfl, rfl, rfl, rfl, rfl, rfl, rfl, rfl, rfl, rfl, rfl, rfl, rfl, rfl, rfl, rfl, trivial⟩)
                        refine code_seq (fun K30 hK30 => ?_)
                        refine code_region ?_
                        refine list_cons rfl (op_q (q_move rfl (by decide)) ?_)
                        refine list_cons rfl (op_q (q_move rfl (by decide)) ?_)
                        refine list_cons rfl (op_q (q_ne rfl rfl (by decide)) ?_)
                        refine list_cons rfl (op_q (q_move rfl (by decide)) ?_)
                        refine list_guard_d rfl rfl rfl rfl (by decide) rfl (by decide) (fun h16 => ?_) (fun h16 => ?_)
                        · simp only [Bool.false_eq_true, if_true, if_false, Decidable.not_not] at h16
                          (try simp only [Decidable.not_not] at h16); (try have hG : Cn n0 k ∧ 0 ≤ s ∧ s ≤ 1000 := h16)
                          refine id (op_q (q_move rfl (by decide)) ?_)
                          refine list_guard_y rfl rfl rfl rfl (by decide) rfl ?_
                          refine id (op_q (q_move rfl (by decide)) ?_)
                          refine list_guard_y rfl rfl rfl rfl (by decide) rfl ?_
                          refine id (op_q (q_ne rfl rfl (by decide)) ?_)
                          refine list_cons rfl (op_q (q_pick rfl rfl (by decide)) ?_)
                          refine list_cons rfl (op_q (q_move rfl (by decide)) ?_)
                          refine list_guard_d rfl rfl rfl rfl (by decide) rfl (by decide) (fun h17 => ?_) (fun h17 => ?_)
                          · simp only [Bool.false_eq_true, if_true, if_false, Decidable.not_not] at h17
                            (try simp only [Decidable.not_not] at h17); (try have hG : Cn n0 k ∧ 0 ≤ s ∧ s ≤ 1000 := h17)
                            refine id (op_q (q_move rfl (by decide)) ?_)
                            refine list_guard_y rfl rfl rfl rfl (by decide) rfl ?_
                            refine id (op_q (q_move rfl (by decide)) ?_)
                            refine list_guard_y rfl rfl rfl rfl (by decide) rfl ?_
                            refine id (op_q (q_bne Tryd.underlying4 rfl rfl (by decide)) ?_)
                            refine list_cons rfl (op_q (q_pick rfl rfl (by decide)) ?_)
                            refine list_nil ?_
                            refine hK30 _ ?_; clear hK30 K30
                            refine codeT.imp (σ' := [(0, .ext _), (2, .val (.bool _)), (3, .val (.int .i64 _)), (4, .val (.int .i64 _)), (5, .val (.int .i64 _)), (6, .val (.int .i64 _)), (7, .val (.bool _)), (10, .own 89 70 7 _ _), (14, .val (.int .i64 _)), (15, .val (.bool _)), (18, .val (.int .i64 _)), (19, .val (.int .i64 _)), (20, .val (.int .i64 _)), (21, .val (.bool _)), (22, .val (.int .i64 _)), (23, .val (.bool _)), (24, .own 172 3 1 _ _), (25, .val (.bool _)), (26, .own 178 3 1 _ _), (27, .val (.bool _)), (28, .val (.int .i64 _)), (29, .val (.int .i64 _)), (30, .val (.int .i64 _)), (31, .val (.bool _)), (32, .val (.int .i64 _)), (33, .val (.int .i64 _)), (34, .val (.bool _)), (221, .val (.bool _))]) ?_ (imp_covers ⟨rfl, rfl, rfl, rfl, rfl, rfl, rfl, rfl, rfl, rfl, rfl, rfl, rfl, rfl, rfl, rfl, rfl, rfl, rfl, rfl, rfl, rfl, rfl, rfl, rfl, rfl, rfl, rfl, trivial⟩)
                            refine code_cond_d rfl (fun h18 => ?_) (fun h18 => ?_)
                            · skip
                              (try simp only [Decidable.not_not] at h18); (try have hG : Cn n0 k ∧ 0 ≤ s ∧ s ≤ 1000 := h18)
                              exfalso
                              first | exact absurd rfl h18 | exact h18 trivial | (simp at h18; done)
                            · skip
                              (try simp only [Decidable.not_not] at h18); (try have hG : Cn n0 k ∧ 0 ≤ s ∧ s ≤ 1000 := h18)
                              refine code_skip ?_
                              refine hK28 _ ?_; clear hK28 K28
                              refine code_seq (fun K31 hK31 => ?_)
                              refine code_region ?_
                              refine list_cons rfl (op_q (q_move rfl (by decide)) ?_)
                              refine list_cons rfl (op_callM (DrawFirstOver_c _ ?_) (.tmp 0) 0 [] [.tmp 223] _ rfl rfl (by intro y hy; cases hy) (by decide) (by decide) (by decide) rfl (by intro h; cases h) ?_)
                              · first | assumption | omega | (simp; omega)
                              rintro _ _ ⟨at0, y0, ch, rfl⟩
                              refine list_cons rfl (op_q (q_move rfl (by decide)) ?_)
                              refine list_cons rfl (op_q (q_extract rfl rfl (by decide)) ?_)
                              refine list_cons rfl (op_q (q_extract rfl rfl (by decide)) ?_)
                              refine list_cons rfl (op_q (q_extract rfl rfl (by decide)) ?_)
                              refine list_cons rfl (op_q (q_assign rfl (by decide)) ?_)
                              refine list_cons rfl (op_q (q_assign rfl (by decide)) ?_)
                              refine list_cons rfl (op_q (q_assign rfl (by decide)) ?_)
                              refine list_nil ?_
                              refine hK31 _ ?_; clear hK31 K31
                              refine codeT.imp (σ' := ((0, .ext _) :: (2, .val (.bool _)) :: (3, .val (.int .i64 _)) :: (4, .val (.int .i64 _)) :: (5, .val (.int .i64 _)) :: (6, .val (.int .i64 _)) :: (7, .val (.bool _)) :: (10, .own 89 70 7 _ _) :: (14, .val (.int .i64 _)) :: (15, .val (.bool _)) :: (18, .val (.int .i64 _)) :: (19, .val (.int .i64 _)) :: (20, .val (.int .i64 _)) :: (21, .val (.bool _)) :: (22, .val (.int .i64 _)) :: (23, .val (.bool _)) :: (24, .own 172 3 1 _ _) :: (25, .val (.bool _)) :: (26, .own 178 3 1 _ _) :: (27, .val (.bool _)) :: (28, .val (.int .i64 _)) :: (29, .val (.int .i64 _)) :: (30, .val (.int .i64 _)) :: (31, .val (.bool _)) :: (32, .val (.int .i64 _)) :: (33, .val (.int .i64 _)) :: (34, .val (.bool _)) :: (35, .val (.int .i64 _)) :: (36, .val (.int .i64 _)) :: (37, .val (.int .i64 _)) :: [])) ?_ (imp_covers ⟨rfl, rfl, rfl, rfl, rfl, rfl, rfl, rfl, rfl, rfl, rfl, rfl, rfl, rfl, rfl, rfl, rfl, rfl, rfl, rfl, rfl, rfl, rfl, rfl, rfl, rfl, rfl, rfl, rfl, rfl, trivial⟩)
                              refine code_seq (fun K32 hK32 => ?_)
                              refine code_region ?_
                              refine list_cons rfl (op_q (q_move rfl (by decide)) ?_)
                              refine list_cons rfl (op_q (q_move rfl (by decide)) ?_)
                              refine list_cons rfl (op_q (q_move rfl (by decide)) ?_)
                              refine list_cons rfl (op_call _ (impl_FirstOver _ _ _) rfl rfl (by decide) (by decide) (by decide) rfl ?_)
                              rintro _ rfl
                              refine list_cons rfl (op_q (q_move rfl (by decide)) ?_)
                              refine list_cons rfl (op_q (q_extract rfl rfl (by decide)) ?_)
                              refine list_cons rfl (op_q (q_extract rfl rfl (by decide)) ?_)
                              refine list_cons rfl (op_q (q_assign rfl (by decide)) ?_)
                              refine list_cons rfl (op_q (q_assign rfl (by decide)) ?_)
                              refine list_nil ?_
                              refine hK32 _ ?_; clear hK32 K32
                              refine codeT.imp (σ' := ((0, .ext _) :: (2, .val (.bool _)) :: (3, .val (.int .i64 _)) :: (4, .val (.int .i64 _)) :: (5, .val (.int .i64 _)) :: (6, .val (.int .i64 _)) :: (7, .val (.bool _)) :: (10, .own 89 70 7 _ _) :: (14, .val (.int .i64 _)) :: (15, .val (.bool _)) :: (18, .val (.int .i64 _)) :: (19, .val (.int .i64 _)) :: (20, .val (.int .i64 _)) :: (21, .val (.bool _)) :: (22, .val (.int .i64 _)) :: (23, .val (.bool _)) :: (24, .own 172 3 1 _ _) :: (25, .val (.bool _)) :: (26, .own 178 3 1 _ _) :: (27, .val (.bool _)) :: (28, .val (.int .i64 _)) :: (29, .val (.int .i64 _)) :: (30, .val (.int .i64 _)) :: (31, .val (.bool _)) :: (32, .val (.int .i64 _)) :: (33, .val (.int .i64 _)) :: (34, .val (.bool _)) :: (35, .val (.int .i64 _)) :: (36, .val (.int .i64 _)) :: (37, .val (.int .i64 _)) :: (38, .val (.int .i64 _)) :: (39, .val (.bool _)) :: [])) ?_ (imp_covers ⟨rfl, rfl, rfl, rfl, rfl, rfl, rfl, rfl, rfl, rfl, rfl, rfl, rfl, rfl, rfl, rfl, rfl, rfl, rfl, rfl, rfl, rfl, rfl, rfl, rfl, rfl, rfl, rfl, rfl, rfl, rfl, rfl, trivial⟩)
                              refine code_seq (fun K33 hK33 => ?_)
                              refine code_seq (fun K34 hK34 => ?_)
                              refine code_region ?_
                              refine list_cons rfl (op_q (q_move rfl (by decide)) ?_)
                              refine list_cons rfl (op_q (q_move rfl (by decide)) ?_)
                              refine list_cons rfl (op_q (q_move rfl (by decide)) ?_)
                              refine list_cons rfl (op_call _ (spec_FirstOver _ _ _) rfl rfl (by decide) (by decide) (by decide) rfl ?_)
                              rintro _ rfl
                              refine list_cons rfl (op_q (q_move rfl (by decide)) ?_)
                              refine list_cons rfl (op_q (q_extract rfl rfl (by decide)) ?_)
                              refine list_cons rfl (op_q (q_extract rfl rfl (by decide)) ?_)
                              refine list_cons rfl (op_q (q_assign rfl (by decide)) ?_)
                              refine list_cons rfl (op_q (q_assign rfl (by decide)) ?_)
                              refine list_nil ?_
                              refine hK34 _ ?_; clear hK34 K34
                              refine codeT.imp (σ' := ((0, .ext _) :: (2, .val (.bool _)) :: (3, .val (.int .i64 _)) :: (4, .val (.int .i64 _)) :: (5, .val (.int .i64 _)) :: (6, .val (.int .i64 _)) :: (7, .val (.bool _)) :: (10, .own 89 70 7 _ _) :: (14, .val (.int .i64 _)) :: (15, .val (.bool _)) :: (18, .val (.int .i64 _)) :: (19, .val (.int .i64 _)) :: (20, .val (.int .i64 _)) :: (21, .val (.bool _)) :: (22, .val (.int .i64 _)) :: (23, .val (.bool _)) :: (24, .own 172 3 1 _ _) :: (25, .val (.bool _)) :: (26, .own 178 3 1 _ _) :: (27, .val (.bool _)) :: (28, .val (.int .i64 _)) :: (29, .val (.int .i64 _)) :: (30, .val (.int .i64 _)) :: (31, .val (.bool _)) :: (32, .val (.int .i64 _)) :: (33, .val (.int .i64 _)) :: (34, .val (.bool _)) :: (35, .val (.int .i64 _)) :: (36, .val (.int .i64 _)) :: (37, .val (.int .i64 _)) :: (38, .val (.int .i64 _)) :: (39, .val (.bool _)) :: (40, .val (.int .i64 _)) :: (41, .val (.bool _)) :: [])) ?_ (imp_covers ⟨rfl, rfl, rfl, rfl, rfl, rfl, rfl, rfl, rfl, rfl, rfl, rfl, rfl, rfl, rfl, rfl, rfl, rfl, rfl, rfl, rfl, rfl, rfl, rfl, rfl, rfl, rfl, rfl, rfl, rfl, rfl, rfl, rfl, rfl, trivial⟩)
                              refine code_seq (fun K35 hK35 => ?_)
                              refine code_region ?_
                              refine list_cons rfl (op_q (q_move rfl (by decide)) ?_)
                              refine list_cons rfl (op_q (q_move rfl (by decide)) ?_)
                              refine list_cons rfl (op_q (q_ne rfl rfl (by decide)) ?_)
                              refine list_cons rfl (op_q (q_move rfl (by decide)) ?_)
                              refine list_guard_d rfl rfl rfl rfl (by decide) rfl (by decide) (fun h19 => ?_) (fun h19 => ?_)
                              · simp only [Bool.false_eq_true, if_true, if_false, Decidable.not_not] at h19
                                (try simp only [Decidable.not_not] at h19); (try have hG : Cn n0 k ∧ 0 ≤ s ∧ s ≤ 1000 := h19)
                                refine id (op_q (q_move rfl (by decide)) ?_)
                                refine list_guard_y rfl rfl rfl rfl (by decide) rfl ?_
                                refine id (op_q (q_move rfl (by decide)) ?_)
                                refine list_guard_y rfl rfl rfl rfl (by decide) rfl ?_
                                refine id (op_q (q_bne Tryd.underlying4 rfl rfl (by decide)) ?_)
                                refine list_cons rfl (op_q (q_pick rfl rfl (by decide)) ?_)
                                refine list_nil ?_
                                refine hK35 _ ?_; clear hK35 K35
                                refine codeT.imp (σ' := ((0, .ext _) :: (2, .val (.bool _)) :: (3, .val (.int .i64 _)) :: (4, .val (.int .i64 _)) :: (5, .val (.int .i64 _)) :: (6, .val (.int .i64 _)) :: (7, .val (.bool _)) :: (10, .own 89 70 7 _ _) :: (14, .val (.int .i64 _)) :: (15, .val (.bool _)) :: (18, .val (.int .i64 _)) :: (19, .val (.int .i64 _)) :: (20, .val (.int .i64 _)) :: (21, .val (.bool _)) :: (22, .val (.int .i64 _)) :: (23, .val (.bool _)) :: (24, .own 172 3 1 _ _) :: (25, .val (.bool _)) :: (26, .own 178 3 1 _ _) :: (27, .val (.bool _)) :: (28, .val (.int .i64 _)) :: (29, .val (.int .i64 _)) :: (30, .val (.int .i64 _)) :: (31, .val (.bool _)) :: (32, .val (.int .i64 _)) :: (33, .val (.int .i64 _)) :: (34, .val (.bool _)) :: (35, .val (.int .i64 _)) :: (36, .val (.int .i64 _)) :: (37, .val (.int .i64 _)) :: (38, .val (.int .i64 _)) :: (39, .val (.bool _)) :: (40, .val (.int .i64 _)) :: (41, .val (.bool _)) :: (249, .val (.bool _)) :: [])) ?_ (imp_covers ⟨rfl, rfl, rfl, rfl, rfl, rfl, rfl, rfl, rfl, rfl, rfl, rfl, rfl, rfl, rfl, rfl, rfl, rfl, rfl, rfl, rfl, rfl, rfl, rfl, rfl, rfl, rfl, rfl, rfl, rfl, rfl, rfl, rfl, rfl, rfl, trivial⟩)
                                refine code_cond_d rfl (fun h20 => ?_) (fun h20 => ?_)
                                · skip
                                  (try simp only [Decidable.not_not] at h20); (try have hG : Cn n0 k ∧ 0 ≤ s ∧ s ≤ 1000 := h20)
                                  exfalso
                                  first | exact absurd rfl h20 | exact h20 trivial | (simp at h20; done)
                                · skip
                                  (try simp only [Decidable.not_not] at h20); (try have hG : Cn n0 k ∧ 0 ≤ s ∧ s ≤ 1000 := h20)
                                  refine code_skip ?_
                                  refine hK33 _ ?_; clear hK33 K33
                                  refine codeT.imp (σ' := [(2, .val (.bool _)), (3, .val (.int .i64 _)), (4, .val (.int .i64 _)), (5, .val (.int .i64 _)), (6, .val (.int .i64 _)), (7, .val (.bool _)), (10, .own 89 70 7 _ _), (18, .val (.int .i64 _)), (19, .val (.int .i64 _)), (20, .val (.int .i64 _)), (21, .val (.bool _)), (24, .own 172 3 1 _ _), (25, .val (.bool _)), (28, .val (.int .i64 _)), (29, .val (.int .i64 _)), (30, .val (.int .i64 _)), (31, .val (.bool _)), (35, .val (.int .i64 _)), (36, .val (.int .i64 _)), (37, .val (.int .i64 _)), (38, .val (.int .i64 _)), (39, .val (.bool _))]) ?_ (imp_covers ⟨rfl, rfl, rfl, rfl, rfl, rfl, rfl, rfl, rfl, rfl, rfl, rfl, rfl, rfl, rfl, rfl, rfl, rfl, rfl, rfl, rfl, rfl, trivial⟩)
                                  refine code_seq_same ?_ ?_
                                  · skip
                                    refine code_seq (fun K36 hK36 => ?_)
                                    refine code_region ?_
                                    refine list_cons rfl (op_q (q_move rfl (by decide)) ?_)
                                    refine list_nil ?_
                                    refine hK36 _ ?_; clear hK36 K36
                                    refine code_cond_d rfl (fun h21 => ?_) (fun h21 => ?_)
                                    · skip
                                      (try simp only [Decidable.not_not] at h21); (try have hG : Cn n0 k ∧ 0 ≤ s ∧ s ≤ 1000 := h21)
                                      refine code_seq (fun K37 hK37 => ?_)
                                      refine code_region ?_
                                      refine list_cons rfl (op_q (q_move rfl (by decide)) ?_)
                                      refine list_cons rfl (op_q (q_move rfl (by decide)) ?_)
                                      refine list_cons rfl (op_q (q_move rfl (by decide)) ?_)
                                      refine list_cons rfl (op_call _ (impl_RunChanges _ _ _) rfl rfl (by decide) (by decide) (by decide) rfl ?_)
                                      rintro _ rfl
                                      refine list_cons rfl (op_q (q_move rfl (by decide)) ?_)
                                      refine list_cons rfl (op_q (q_extract rfl rfl (by decide)) ?_)
                                      refine list_cons rfl (op_q (q_extract rfl rfl (by decide)) ?_)
                                      refine list_cons rfl (op_q (q_assign rfl (by decide)) ?_)
                                      refine list_cons rfl (op_q (q_assign rfl (by decide)) ?_)
                                      refine list_nil ?_
                                      refine hK37 _ ?_; clear hK37 K37
                                      refine codeT.imp (σ' := [(2, .val (.bool _)), (3, .val (.int .i64 _)), (4, .val (.int .i64 _)), (5, .val (.int .i64 _)), (6, .val (.int .i64 _)), (7, .val (.bool _)), (10, .own 89 70 7 _ _), (18, .val (.int .i64 _)), (19, .val (.int .i64 _)), (20, .val (.int .i64 _)), (21, .val (.bool _)), (24, .own 172 3 1 _ _), (25, .val (.bool _)), (28, .val (.int .i64 _)), (29, .val (.int .i64 _)), (30, .val (.int .i64 _)), (31, .val (.bool _)), (35, .val (.int .i64 _)), (36, .val (.int .i64 _)), (37, .val (.int .i64 _)), (38, .val (.int .i64 _)), (39, .val (.bool _)), (42, .val (.int .i64 _)), (43, .val (.bool _))]) ?_ (imp_covers ⟨rfl, rfl, rfl, rfl, rfl, rfl, rfl, rfl, rfl, rfl, rfl, rfl, rfl, rfl, rfl, rfl, rfl, rfl, rfl, rfl, rfl, rfl, rfl, rfl, trivial⟩)
                                      refine code_seq (fun K38 hK38 => ?_)
                                      refine code_seq (fun K39 hK39 => ?_)
                                      refine code_region ?_
                                      refine list_cons rfl (op_q (q_move rfl (by decide)) ?_)
                                      refine list_cons rfl (op_q (by first | exact q_notd rfl (by decide) | exact q_not rfl (by decide)) ?_)
                                      refine list_cons rfl (op_q (q_move rfl (by decide)) ?_)
                                      refine list_guard_d rfl rfl rfl rfl (by decide) rfl (by decide) (fun h22 => ?_) (fun h22 => ?_)
                                      · simp only [Bool.false_eq_true, if_true, if_false, Decidable.not_not] at h22
                                        (try simp only [Decidable.not_not] at h22); (try have hG : Cn n0 k ∧ 0 ≤ s ∧ s ≤ 1000 := h22)
                                        refine id (op_q (q_move rfl (by decide)) ?_)
                                        refine list_guard_y rfl rfl rfl rfl (by decide) rfl ?_
                                        refine id (op_q (q_move rfl (by decide)) ?_)
                                        refine list_guard_y rfl rfl rfl rfl (by decide) rfl ?_
                                        refine id (op_q (q_lt rfl rfl (by decide)) ?_)
                                        refine list_cons rfl (op_q (q_pick rfl rfl (by decide)) ?_)
                                        refine list_nil ?_
                                        refine hK39 _ ?_; clear hK39 K39
                                        refine code_cond_d rfl (fun h23 => ?_) (fun h23 => ?_)
                                        · skip
                                          (try simp only [Decidable.not_not] at h23); (try have hG : Cn n0 k ∧ 0 ≤ s ∧ s ≤ 1000 := h23)
                                          exfalso
                                          have six : Cn at0 y0 ∧ 0 ≤ ch ∧ (overC at0 y0 ch).isSome = true := by assumption
                                          exact over2 six h23
                                        · skip
                                          (try simp only [Decidable.not_not] at h23); (try have hG : Cn n0 k ∧ 0 ≤ s ∧ s ≤ 1000 := h23)
                                          refine code_skip ?_
                                          refine hK38 _ ?_; clear hK38 K38
                                          refine codeT.imp (σ' := [(2, .val (.bool _)), (3, .val (.int .i64 _)), (4, .val (.int .i64 _)), (5, .val (.int .i64 _)), (6, .val (.int .i64 _)), (7, .val (.bool _)), (10, .own 89 70 7 _ _), (18, .val (.int .i64 _)), (19, .val (.int .i64 _)), (20, .val (.int .i64 _)), (21, .val (.bool _)), (24, .own 172 3 1 _ _), (25, .val (.bool _)), (28, .val (.int .i64 _)), (29, .val (.int .i64 _)), (30, .val (.int .i64 _)), (31, .val (.bool _)), (35, .val (.int .i64 _)), (36, .val (.int .i64 _)), (37, .val (.int .i64 _)), (38, .val (.int .i64 _)), (39, .val (.bool _)), (42, .val (.int .i64 _)), (43, .val (.bool _))]) ?_ (imp_covers ⟨rfl, rfl, rfl, rfl, rfl, rfl, rfl, rfl, rfl, rfl, rfl, rfl, rfl, rfl, rfl, rfl, rfl, rfl, rfl, rfl, rfl, rfl, rfl, rfl, trivial⟩)
                                          refine code_seq (fun K40 hK40 => ?_)
                                          refine code_region ?_
                                          refine list_cons rfl (op_q (q_move rfl (by decide)) ?_)
                                          refine list_cons rfl (op_q (q_gt rfl rfl (by decide)) ?_)
                                          refine list_nil ?_
                                          refine hK40 _ ?_; clear hK40 K40
                                          refine code_cond_d rfl (fun h24 => ?_) (fun h24 => ?_)
                                          · skip
                                            (try simp only [Decidable.not_not] at h24); (try have hG : Cn n0 k ∧ 0 ≤ s ∧ s ≤ 1000 := h24)
                                            refine code_seq (fun K41 hK41 => ?_)
                                            refine code_region ?_
                                            refine list_cons rfl (op_q (q_move rfl (by decide)) ?_)
                                            refine list_cons rfl (op_q (q_move rfl (by decide)) ?_)
                                            refine list_cons rfl (op_q (by first | exact q_subI rfl rfl (by decide) (by omega) (by omega) | exact q_ib rfl rfl rfl (by decide)) ?_)
                                            refine list_cons rfl (op_q (q_move rfl (by decide)) ?_)
                                            refine list_cons rfl (op_call _ (impl_RunChanges _ _ _) rfl rfl (by decide) (by decide) (by decide) rfl ?_)
                                            rintro _ rfl
                                            refine list_cons rfl (op_q (q_move rfl (by decide)) ?_)
                                            refine list_cons rfl (op_q (q_extract rfl rfl (by decide)) ?_)
                                            refine list_cons rfl (op_q (q_extract rfl rfl (by decide)) ?_)
                                            refine list_cons rfl (op_q (q_assign rfl (by decide)) ?_)
                                            refine list_cons rfl (op_q (q_assign rfl (by decide)) ?_)
                                            refine list_nil ?_
                                            refine hK41 _ ?_; clear hK41 K41
                                            refine codeT.imp (σ' := [(2, .val (.bool _)), (3, .val (.int .i64 _)), (4, .val (.int .i64 _)), (5, .val (.int .i64 _)), (6, .val (.int .i64 _)), (7, .val (.bool _)), (10, .own 89 70 7 _ _), (18, .val (.int .i64 _)), (19, .val (.int .i64 _)), (20, .val (.int .i64 _)), (21, .val (.bool _)), (24, .own 172 3 1 _ _), (25, .val (.bool _)), (28, .val (.int .i64 _)), (29, .val (.int .i64 _)), (30, .val (.int .i64 _)), (31, .val (.bool _)), (35, .val (.int .i64 _)), (36, .val (.int .i64 _)), (37, .val (.int .i64 _)), (38, .val (.int .i64 _)), (39, .val (.bool _)), (42, .val (.int .i64 _)), (43, .val (.bool _)), (44, .val (.int .i64 _)), (45, .val (.bool _))]) ?_ (imp_covers ⟨rfl, rfl, rfl, rfl, rfl, rfl, rfl, rfl, rfl, rfl, rfl, rfl, rfl, rfl, rfl, rfl, rfl, rfl, rfl, rfl, rfl, rfl, rfl, rfl, rfl, rfl, trivial⟩)
                                            refine code_seq (fun K42 hK42 => ?_)
                                            refine code_region ?_
                                            refine list_cons rfl (op_q (q_move rfl (by decide)) ?_)
                                            refine list_cons rfl (op_q (by first | exact q_notd rfl (by decide) | exact q_not rfl (by decide)) ?_)
                                            refine list_cons rfl (op_q (q_move rfl (by decide)) ?_)
                                            refine list_guard_d rfl rfl rfl rfl (by decide) rfl (by decide) (fun h25 => ?_) (fun h25 => ?_)
                                            · simp only [Bool.false_eq_true, if_true, if_false, Decidable.not_not] at h25
                                              (try simp only [Decidable.not_not] at h25); (try have hG : Cn n0 k ∧ 0 ≤ s ∧ s ≤ 1000 := h25)
                                              refine id (op_q (q_move rfl (by decide)) ?_)
                                              refine list_guard_y rfl rfl rfl rfl (by decide) rfl ?_
                                              refine id (op_q (q_move rfl (by decide)) ?_)
                                              refine list_guard_y rfl rfl rfl rfl (by decide) rfl ?_
                                              refine id (op_q (q_ge rfl rfl (by decide)) ?_)
                                              refine list_cons rfl (op_q (q_pick rfl rfl (by decide)) ?_)
                                              refine list_nil ?_
                                              refine hK42 _ ?_; clear hK42 K42
                                              refine code_cond_d rfl (fun h26 => ?_) (fun h26 => ?_)
                                              · skip
                                                (try simp only [Decidable.not_not] at h26); (try have hG : Cn n0 k ∧ 0 ≤ s ∧ s ≤ 1000 := h26)
                                                exfalso
                                                have six : Cn at0 y0 ∧ 0 ≤ ch ∧ (overC at0 y0 ch).isSome = true := by assumption
                                                exact over4 six (by assumption) h26
                                              · skip
                                                (try simp only [Decidable.not_not] at h26); (try have hG : Cn n0 k ∧ 0 ≤ s ∧ s ≤ 1000 := h26)
                                                refine code_skip ?_
                                                exact then_n (imp_covers ⟨rfl, rfl, rfl, rfl, rfl, rfl, rfl, rfl, rfl, rfl, rfl, rfl, rfl, rfl, rfl, rfl, rfl, rfl, rfl, rfl, rfl, rfl, trivial⟩)
                                            · simp only [Bool.false_eq_true, if_true, if_false, Decidable.not_not] at h25
                                              (try simp only [Decidable.not_not] at h25); (try have hG : Cn n0 k ∧ 0 ≤ s ∧ s ≤ 1000 := h25)
                                              exfalso
                                              have six : Cn at0 y0 ∧ 0 ≤ ch ∧ (overC at0 y0 ch).isSome = true := by assumption
                                              exact h25 (over3 six (by assumption))
                                          · skip
                                            (try simp only [Decidable.not_not] at h24); (try have hG : Cn n0 k ∧ 0 ≤ s ∧ s ≤ 1000 := h24)
                                            refine code_skip ?_
                                            exact then_n (imp_covers ⟨rfl, rfl, rfl, rfl, rfl, rfl, rfl, rfl, rfl, rfl, rfl, rfl, rfl, rfl, rfl, rfl, rfl, rfl, rfl, rfl, rfl, rfl, trivial⟩)
                                      · simp only [Bool.false_eq_true, if_true, if_false, Decidable.not_not] at h22
                                        (try simp only [Decidable.not_not] at h22); (try have hG : Cn n0 k ∧ 0 ≤ s ∧ s ≤ 1000 := h22)
                                        exfalso
                                        have six : Cn at0 y0 ∧ 0 ≤ ch ∧ (overC at0 y0 ch).isSome = true := by assumption
                                        exact h22 (over1 six)
                                    · skip
                                      (try simp only [Decidable.not_not] at h21); (try have hG : Cn n0 k ∧ 0 ≤ s ∧ s ≤ 1000 := h21)
                                      refine code_skip ?_
                                      exact then_n (imp_covers ⟨rfl, rfl, rfl, rfl, rfl, rfl, rfl, rfl, rfl, rfl, rfl, rfl, rfl, rfl, rfl, rfl, rfl, rfl, rfl, rfl, rfl, rfl, trivial⟩)
                                  · skip
                                    refine codeT.imp (σ' := [(2, .val (.bool _)), (3, .val (.int .i64 _)), (4, .val (.int .i64 _)), (5, .val (.int .i64 _)), (6, .val (.int .i64 _)), (7, .val (.bool _)), (10, .own 89 70 7 _ _), (18, .val (.int .i64 _)), (19, .val (.int .i64 _)), (20, .val (.int .i64 _)), (21, .val (.bool _)), (24, .own 172 3 1 _ _), (25, .val (.bool _)), (28, .val (.int .i64 _)), (29, .val (.int .i64 _)), (30, .val (.int .i64 _)), (31, .val (.bool _))]) ?_ (imp_covers ⟨rfl, rfl, rfl, rfl, rfl, rfl, rfl, rfl, rfl, rfl, rfl, rfl, rfl, rfl, rfl, rfl, rfl, trivial⟩)
                                    refine code_seq_same ?_ ?_
                                    · skip
                                      refine code_seq (fun K43 hK43 => ?_)
                                      refine code_region ?_
                                      refine list_cons rfl (op_q (q_move rfl (by decide)) ?_)
                                      refine list_nil ?_
                                      refine hK43 _ ?_; clear hK43 K43
                                      refine code_cond_d rfl (fun h27 => ?_) (fun h27 => ?_)
                                      · skip
                                        (try simp only [Decidable.not_not] at h27); (try have hG : Cn n0 k ∧ 0 ≤ s ∧ s ≤ 1000 := h27)
                                        refine code_seq (fun K44 hK44 => ?_)
                                        refine code_region ?_
                                        refine list_cons rfl (op_q (q_move rfl (by decide)) ?_)
                                        refine list_cons rfl (op_q (q_move rfl (by decide)) ?_)
                                        refine list_cons rfl (op_call _ (impl_StepChanges _ _) rfl rfl (by decide) (by decide) (by decide) rfl ?_)
                                        rintro _ rfl
                                        refine list_cons rfl (op_q (q_move rfl (by decide)) ?_)
                                        refine list_cons rfl (op_q (q_extract rfl rfl (by decide)) ?_)
                                        refine list_cons rfl (op_q (q_extract rfl rfl (by decide)) ?_)
                                        refine list_cons rfl (op_q (q_assign rfl (by decide)) ?_)
                                        refine list_cons rfl (op_q (q_assign rfl (by decide)) ?_)
                                        refine list_nil ?_
                                        refine hK44 _ ?_; clear hK44 K44
                                        refine codeT.imp (σ' := [(2, .val (.bool _)), (3, .val (.int .i64 _)), (4, .val (.int .i64 _)), (5, .val (.int .i64 _)), (6, .val (.int .i64 _)), (7, .val (.bool _)), (10, .own 89 70 7 _ _), (18, .val (.int .i64 _)), (19, .val (.int .i64 _)), (20, .val (.int .i64 _)), (21, .val (.bool _)), (24, .own 172 3 1 _ _), (25, .val (.bool _)), (28, .val (.int .i64 _)), (29, .val (.int .i64 _)), (30, .val (.int .i64 _)), (31, .val (.bool _)), (46, .val (.int .i64 _)), (47, .val (.bool _))]) ?_ (imp_covers ⟨rfl, rfl, rfl, rfl, rfl, rfl, rfl, rfl, rfl, rfl, rfl, rfl, rfl, rfl, rfl, rfl, rfl, rfl, rfl, trivial⟩)
                                        refine code_seq (fun K45 hK45 => ?_)
                                        refine code_region ?_
                                        refine list_cons rfl (op_q (q_move rfl (by decide)) ?_)
                                        refine list_cons rfl (op_q (by first | exact q_notd rfl (by decide) | exact q_not rfl (by decide)) ?_)
                                        refine list_cons rfl (op_q (q_move rfl (by decide)) ?_)
                                        refine list_guard_d rfl rfl rfl rfl (by decide) rfl (by decide) (fun h28 => ?_) (fun h28 => ?_)
                                        · simp only [Bool.false_eq_true, if_true, if_false, Decidable.not_not] at h28
                                          (try simp only [Decidable.not_not] at h28); (try have hG : Cn n0 k ∧ 0 ≤ s ∧ s ≤ 1000 := h28)
                                          refine id (op_q (q_move rfl (by decide)) ?_)
                                          refine list_guard_y rfl rfl rfl rfl (by decide) rfl ?_
                                          refine id (op_q (q_move rfl (by decide)) ?_)
                                          refine list_guard_y rfl rfl rfl rfl (by decide) rfl ?_
                                          refine id (op_q (q_ne rfl rfl (by decide)) ?_)
                                          refine list_cons rfl (op_q (q_pick rfl rfl (by decide)) ?_)
                                          refine list_cons rfl (op_q (q_move rfl (by decide)) ?_)
                                          refine list_guard_d rfl rfl rfl rfl (by decide) rfl (by decide) (fun h29 => ?_) (fun h29 => ?_)
                                          · simp only [Bool.false_eq_true, if_true, if_false, Decidable.not_not] at h29
                                            (try simp only [Decidable.not_not] at h29); (try have hG : Cn n0 k ∧ 0 ≤ s ∧ s ≤ 1000 := h29)
                                            refine id (op_q (q_move rfl (by decide)) ?_)
                                            refine list_guard_y rfl rfl rfl rfl (by decide) rfl ?_
                                            refine id (op_q (q_move rfl (by decide)) ?_)
                                            refine list_guard_d rfl rfl rfl rfl (by decide) rfl (by decide) (fun h30 => ?_) (fun h30 => ?_)
                                            · simp only [Bool.false_eq_true, if_true, if_false, Decidable.not_not] at h30
                                              (try simp only [Decidable.not_not] at h30); (try have hG : Cn n0 k ∧ 0 ≤ s ∧ s ≤ 1000 := h30)
                                              refine id (op_q (q_move rfl (by decide)) ?_)
                                              refine list_guard_y rfl rfl rfl rfl (by decide) rfl ?_
                                              refine id (op_q (q_move rfl (by decide)) ?_)
                                              refine list_guard_y rfl rfl rfl rfl (by decide) rfl ?_
                                              refine id (op_q (q_eq rfl rfl (by decide)) ?_)
                                              refine list_guard_y rfl rfl rfl rfl (by decide) rfl ?_
                                              refine id (op_q (q_pick rfl rfl (by decide)) ?_)
                                              refine list_guard_y rfl rfl rfl rfl (by decide) rfl ?_
                                              refine id (op_q (q_move rfl (by decide)) ?_)
                                              refine list_guard_d rfl rfl rfl rfl (by decide) rfl (by decide) (fun h31 => ?_) (fun h31 => ?_)
                                              · simp only [Bool.false_eq_true, if_true, if_false, Decidable.not_not] at h31
                                                (try simp only [Decidable.not_not] at h31); (try have hG : Cn n0 k ∧ 0 ≤ s ∧ s ≤ 1000 := h31)
                                                refine id (op_q (q_move rfl (by decide)) ?_)
                                                refine list_guard_y rfl rfl rfl rfl (by decide) rfl ?_
                                                refine id (op_q (q_move rfl (by decide)) ?_)
                                                refine list_guard_y rfl rfl rfl rfl (by decide) rfl ?_
                                                refine id (op_q (q_gt rfl rfl (by decide)) ?_)
                                                refine list_guard_y rfl rfl rfl rfl (by decide) rfl ?_
                                                refine id (op_q (q_pick rfl rfl (by decide)) ?_)
                                                refine list_cons rfl (op_q (q_pick rfl rfl (by decide)) ?_)
                                                refine list_nil ?_
                                                refine hK45 _ ?_; clear hK45 K45
                                                refine codeT.imp (σ' := [(2, .val (.bool _)), (3, .val (.int .i64 _)), (4, .val (.int .i64 _)), (5, .val (.int .i64 _)), (6, .val (.int .i64 _)), (7, .val (.bool _)), (10, .own 89 70 7 _ _), (18, .val (.int .i64 _)), (19, .val (.int .i64 _)), (20, .val (.int .i64 _)), (21, .val (.bool _)), (24, .own 172 3 1 _ _), (25, .val (.bool _)), (28, .val (.int .i64 _)), (29, .val (.int .i64 _)), (30, .val (.int .i64 _)), (31, .val (.bool _)), (46, .val (.int .i64 _)), (47, .val (.bool _)), (308, .val (.bool _))]) ?_ (imp_covers ⟨rfl, rfl, rfl, rfl, rfl, rfl, rfl, rfl, rfl, rfl, rfl, rfl, rfl, rfl, rfl, rfl, rfl, rfl, rfl, rfl, trivial⟩)
                                                refine code_cond_d rfl (fun h32 => ?_) (fun h32 => ?_)
                                                · skip
                                                  (try simp only [Decidable.not_not] at h32); (try have hG : Cn n0 k ∧ 0 ≤ s ∧ s ≤ 1000 := h32)
                                                  exfalso
                                                  have five : 1 ≤ x0 ∧ x0 ≤ 6 := by assumption
                                                  exact most3 five (by assumption) (by assumption) h32
                                                · skip
                                                  (try simp only [Decidable.not_not] at h32); (try have hG : Cn n0 k ∧ 0 ≤ s ∧ s ≤ 1000 := h32)
                                                  refine code_skip ?_
                                                  exact then_n (imp_covers ⟨rfl, rfl, rfl, rfl, rfl, rfl, rfl, rfl, rfl, rfl, rfl, rfl, rfl, rfl, rfl, rfl, rfl, trivial⟩)
                                              · simp only [Bool.false_eq_true, if_true, if_false, Decidable.not_not] at h31
                                                (try simp only [Decidable.not_not] at h31); (try have hG : Cn n0 k ∧ 0 ≤ s ∧ s ≤ 1000 := h31)
                                                refine list_guard_nT rfl rfl rfl rfl (by decide) (by decide) ?_
                                                refine list_guard_nT rfl rfl rfl rfl (by decide) (by decide) ?_
                                                refine list_guard_y rfl rfl rfl rfl (by decide) rfl ?_
                                                refine id (op_q (q_pick rfl rfl (by decide)) ?_)
                                                refine list_cons rfl (op_q (q_pick rfl rfl (by decide)) ?_)
                                                refine list_nil ?_
                                                refine hK45 _ ?_; clear hK45 K45
                                                refine codeT.imp (σ' := [(2, .val (.bool _)), (3, .val (.int .i64 _)), (4, .val (.int .i64 _)), (5, .val (.int .i64 _)), (6, .val (.int .i64 _)), (7, .val (.bool _)), (10, .own 89 70 7 _ _), (18, .val (.int .i64 _)), (19, .val (.int .i64 _)), (20, .val (.int .i64 _)), (21, .val (.bool _)), (24, .own 172 3 1 _ _), (25, .val (.bool _)), (28, .val (.int .i64 _)), (29, .val (.int .i64 _)), (30, .val (.int .i64 _)), (31, .val (.bool _)), (46, .val (.int .i64 _)), (47, .val (.bool _)), (308, .val (.bool _))]) ?_ (imp_covers ⟨rfl, rfl, rfl, rfl, rfl, rfl, rfl, rfl, rfl, rfl, rfl, rfl, rfl, rfl, rfl, rfl, rfl, rfl, rfl, rfl, trivial⟩)
                                                refine code_cond_f rfl ?_
                                                refine code_skip ?_
                                                exact then_n (imp_covers ⟨rfl, rfl, rfl, rfl, rfl, rfl, rfl, rfl, rfl, rfl, rfl, rfl, rfl, rfl, rfl, rfl, rfl, trivial⟩)
                                            · simp only [Bool.false_eq_true, if_true, if_false, Decidable.not_not] at h30
                                              (try simp only [Decidable.not_not] at h30); (try have hG : Cn n0 k ∧ 0 ≤ s ∧ s ≤ 1000 := h30)
                                              refine list_guard_nT rfl rfl rfl rfl (by decide) (by decide) ?_
                                              refine list_guard_nT rfl rfl rfl rfl (by decide) (by decide) ?_
                                              refine list_guard_y rfl rfl rfl rfl (by decide) rfl ?_
                                              refine id (op_q (q_pick rfl rfl (by decide)) ?_)
                                              refine list_guard_y rfl rfl rfl rfl (by decide) rfl ?_
                                              refine id (op_q (q_move rfl (by decide)) ?_)
                                              refine list_guard_nT rfl rfl rfl rfl (by decide) (by decide) ?_
                                              refine list_guard_nT rfl rfl rfl rfl (by decide) (by decide) ?_
                                              refine list_guard_nT rfl rfl rfl rfl (by decide) (by decide) ?_
                                              refine list_guard_y rfl rfl rfl rfl (by decide) rfl ?_
                                              refine id (op_q (q_pick rfl rfl (by decide)) ?_)
                                              refine list_cons rfl (op_q (q_pick rfl rfl (by decide)) ?_)
                                              refine list_nil ?_
                                              refine hK45 _ ?_; clear hK45 K45
                                              refine codeT.imp (σ' := [(2, .val (.bool _)), (3, .val (.int .i64 _)), (4, .val (.int .i64 _)), (5, .val (.int .i64 _)), (6, .val (.int .i64 _)), (7, .val (.bool _)), (10, .own 89 70 7 _ _), (18, .val (.int .i64 _)), (19, .val (.int .i64 _)), (20, .val (.int .i64 _)), (21, .val (.bool _)), (24, .own 172 3 1 _ _), (25, .val (.bool _)), (28, .val (.int .i64 _)), (29, .val (.int .i64 _)), (30, .val (.int .i64 _)), (31, .val (.bool _)), (46, .val (.int .i64 _)), (47, .val (.bool _)), (308, .val (.bool _))]) ?_ (imp_covers ⟨rfl, rfl, rfl, rfl, rfl, rfl, rfl, rfl, rfl, rfl, rfl, rfl, rfl, rfl, rfl, rfl, rfl, rfl, rfl, rfl, trivial⟩)
                                              refine code_cond_f rfl ?_
                                              refine code_skip ?_
                                              exact then_n (imp_covers ⟨rfl, rfl, rfl, rfl, rfl, rfl, rfl, rfl, rfl, rfl, rfl, rfl, rfl, rfl, rfl, rfl, rfl, trivial⟩)
                                          · simp only [Bool.false_eq_true, if_true, if_false, Decidable.not_not] at h29
                                            (try simp only [Decidable.not_not] at h29); (try have hG : Cn n0 k ∧ 0 ≤ s ∧ s ≤ 1000 := h29)
                                            exfalso
                                            have five : 1 ≤ x0 ∧ x0 ≤ 6 := by assumption
                                            exact h29 (most2 five)
                                        · simp only [Bool.false_eq_true, if_true, if_false, Decidable.not_not] at h28
                                          (try simp only [Decidable.not_not] at h28); (try have hG : Cn n0 k ∧ 0 ≤ s ∧ s ≤ 1000 := h28)
                                          exfalso
                                          have five : 1 ≤ x0 ∧ x0 ≤ 6 := by assumption
                                          exact h28 (most1 five)
                                      · skip
                                        (try simp only [Decidable.not_not] at h27); (try have hG : Cn n0 k ∧ 0 ≤ s ∧ s ≤ 1000 := h27)
                                        refine code_skip ?_
                                        exact then_n (imp_covers ⟨rfl, rfl, rfl, rfl, rfl, rfl, rfl, rfl, rfl, rfl, rfl, rfl, rfl, rfl, rfl, rfl, rfl, trivial⟩)
                                    · skip
                                      refine codeT.imp (σ' := [(2, .val (.bool _)), (3, .val (.int .i64 _)), (4, .val (.int .i64 _)), (5, .val (.int .i64 _)), (6, .val (.int .i64 _)), (7, .val (.bool _)), (10, .own 89 70 7 _ _), (18, .val (.int .i64 _)), (19, .val (.int .i64 _)), (24, .own 172 3 1 _ _), (25, .val (.bool _))]) ?_ (imp_covers ⟨rfl, rfl, rfl, rfl, rfl, rfl, rfl, rfl, rfl, rfl, rfl, trivial⟩)
                                      refine code_seq_same ?_ ?_
                                      · skip
                                        refine code_seq (fun K46 hK46 => ?_)
                                        refine code_region ?_
                                        refine list_cons rfl (op_q (q_move rfl (by decide)) ?_)
                                        refine list_nil ?_
                                        refine hK46 _ ?_; clear hK46 K46
                                        refine code_cond_d rfl (fun h33 => ?_) (fun h33 => ?_)
                                        · skip
                                          (try simp only [Decidable.not_not] at h33); (try have hG : Cn n0 k ∧ 0 ≤ s ∧ s ≤ 1000 := h33)
                                          refine code_seq (fun K47 hK47 => ?_)
                                          refine code_region ?_
                                          refine list_cons rfl (op_q (q_move rfl (by decide)) ?_)
                                          refine list_cons rfl (op_call _ (impl_NumberOf _ (by first | omega | (simp; omega))) rfl rfl (by decide) (by decide) (by decide) rfl ?_)
                                          rintro _ rfl
                                          refine list_cons rfl (op_q (q_move rfl (by decide)) ?_)
                                          refine list_cons rfl (op_q (q_extract rfl rfl (by decide)) ?_)
                                          refine list_cons rfl (op_q (q_extract rfl rfl (by decide)) ?_)
                                          refine list_cons rfl (op_q (q_assign rfl (by decide)) ?_)
                                          refine list_cons rfl (op_q (q_assign rfl (by decide)) ?_)
                                          refine list_nil ?_
                                          refine hK47 _ ?_; clear hK47 K47
                                          refine codeT.imp (σ' := [(2, .val (.bool _)), (3, .val (.int .i64 _)), (4, .val (.int .i64 _)), (5, .val (.int .i64 _)), (6, .val (.int .i64 _)), (7, .val (.bool _)), (10, .own 89 70 7 _ _), (18, .val (.int .i64 _)), (19, .val (.int .i64 _)), (24, .own 172 3 1 _ _), (25, .val (.bool _)), (48, .val (.int .i64 _)), (49, .val (.bool _))]) ?_ (imp_covers ⟨rfl, rfl, rfl, rfl, rfl, rfl, rfl, rfl, rfl, rfl, rfl, rfl, rfl, trivial⟩)
                                          refine code_seq (fun K48 hK48 => ?_)
                                          refine code_region ?_
                                          refine list_cons rfl (op_q (q_move rfl (by decide)) ?_)
                                          refine list_cons rfl (op_q (by first | exact q_notd rfl (by decide) | exact q_not rfl (by decide)) ?_)
                                          refine list_cons rfl (op_q (q_move rfl (by decide)) ?_)
                                          refine list_guard_d rfl rfl rfl rfl (by decide) rfl (by decide) (fun h34 => ?_) (fun h34 => ?_)
                                          · simp only [Bool.false_eq_true, if_true, if_false, Decidable.not_not] at h34
                                            (try simp only [Decidable.not_not] at h34); (try have hG : Cn n0 k ∧ 0 ≤ s ∧ s ≤ 1000 := h34)
                                            refine id (op_q (q_move rfl (by decide)) ?_)
                                            refine list_guard_y rfl rfl rfl rfl (by decide) rfl ?_
                                            refine id (op_q (q_move rfl (by decide)) ?_)
                                            refine list_guard_y rfl rfl rfl rfl (by decide) rfl ?_
                                            refine id (op_q (q_ne rfl rfl (by decide)) ?_)
                                            refine list_cons rfl (op_q (q_pick rfl rfl (by decide)) ?_)
                                            refine list_cons rfl (op_q (q_move rfl (by decide)) ?_)
                                            refine list_guard_d rfl rfl rfl rfl (by decide) rfl (by decide) (fun h35 => ?_) (fun h35 => ?_)
                                            · simp only [Bool.false_eq_true, if_true, if_false, Decidable.not_not] at h35
                                              (try simp only [Decidable.not_not] at h35); (try have hG : Cn n0 k ∧ 0 ≤ s ∧ s ≤ 1000 := h35)
                                              refine id (op_q (q_move rfl (by decide)) ?_)
                                              refine list_guard_y rfl rfl rfl rfl (by decide) rfl ?_
                                              refine id (op_q (q_len_sl Tryd.underlying24 rfl rfl (by decide)) ?_)
                                              refine list_guard_y rfl rfl rfl rfl (by decide) rfl ?_
                                              refine id (op_q (q_move rfl (by decide)) ?_)
                                              refine list_guard_y rfl rfl rfl rfl (by decide) rfl ?_
                                              refine id (op_q (q_ne rfl rfl (by decide)) ?_)
                                              refine list_cons rfl (op_q (q_pick rfl rfl (by decide)) ?_)
                                              refine list_nil ?_
                                              refine hK48 _ ?_; clear hK48 K48
                                              refine codeT.imp (σ' := [(2, .val (.bool _)), (3, .val (.int .i64 _)), (4, .val (.int .i64 _)), (5, .val (.int .i64 _)), (6, .val (.int .i64 _)), (7, .val (.bool _)), (10, .own 89 70 7 _ _), (18, .val (.int .i64 _)), (19, .val (.int .i64 _)), (24, .own 172 3 1 _ _), (25, .val (.bool _)), (48, .val (.int .i64 _)), (49, .val (.bool _)), (327, .val (.bool _))]) ?_ (imp_covers ⟨rfl, rfl, rfl, rfl, rfl, rfl, rfl, rfl, rfl, rfl, rfl, rfl, rfl, rfl, trivial⟩)
                                              refine code_cond_d rfl (fun h36 => ?_) (fun h36 => ?_)
                                              · skip
                                                (try simp only [Decidable.not_not] at h36); (try have hG : Cn n0 k ∧ 0 ≤ s ∧ s ≤ 1000 := h36)
                                                exfalso
                                                have four : Cn n cells := by assumption
                                                exact h36 (row3 four)
                                              · skip
                                                (try simp only [Decidable.not_not] at h36); (try have hG : Cn n0 k ∧ 0 ≤ s ∧ s ≤ 1000 := h36)
                                                refine code_skip ?_
                                                exact then_n (imp_covers ⟨rfl, rfl, rfl, rfl, rfl, rfl, rfl, rfl, rfl, rfl, rfl, trivial⟩)
                                            · simp only [Bool.false_eq_true, if_true, if_false, Decidable.not_not] at h35
                                              (try simp only [Decidable.not_not] at h35); (try have hG : Cn n0 k ∧ 0 ≤ s ∧ s ≤ 1000 := h35)
                                              exfalso
                                              have four : Cn n cells := by assumption
                                              exact h35 (row2 four)
                                          · simp only [Bool.false_eq_true, if_true, if_false, Decidable.not_not] at h34
                                            (try simp only [Decidable.not_not] at h34); (try have hG : Cn n0 k ∧ 0 ≤ s ∧ s ≤ 1000 := h34)
                                            exfalso
                                            have four : Cn n cells := by assumption
                                            exact h34 (row1 four)
                                        · skip
                                          (try simp only [Decidable.not_not] at h33); (try have hG : Cn n0 k ∧ 0 ≤ s ∧ s ≤ 1000 := h33)
                                          refine code_skip ?_
                                          exact then_n (imp_covers ⟨rfl, rfl, rfl, rfl, rfl, rfl, rfl, rfl, rfl, rfl, rfl, trivial⟩)
                                      · skip
                                        refine code_seq (fun K49 hK49 => ?_)
                                        refine code_seq (fun K50 hK50 => ?_)
                                        refine code_region ?_
                                        refine list_cons rfl (op_q (q_move rfl (by decide)) ?_)
                                        refine list_cons rfl (op_q (by first | exact q_notd rfl (by decide) | exact q_not rfl (by decide)) ?_)
                                        refine list_nil ?_
                                        refine hK50 _ ?_; clear hK50 K50
                                        refine code_cond_d rfl (fun h37 => ?_) (fun h37 => ?_)
                                        · skip
                                          (try simp only [Decidable.not_not] at h37); (try have hG : Cn n0 k ∧ 0 ≤ s ∧ s ≤ 1000 := h37)
                                          refine code_seq (fun K51 hK51 => ?_)
                                          refine code_region ?_
                                          refine list_cons rfl (op_q (q_assign rfl (by decide)) ?_)
                                          refine list_nil ?_
                                          refine hK51 _ ?_; clear hK51 K51
                                          refine code_ret ?_
                                          refine then_r ?_; clear hK49 K49
                                          refine ends_ret (cs := []) rfl rfl rfl rfl trivial ?_
                                          first
                                            | rfl
                                            | exact absurd hG.1 (by assumption)
                                            | (have hps : psum (fW n0 k s.toNat 0) (i.toNat * 7) = runC n0 k s.toNat := by
                                                 rw [show i.toNat = k.toNat by have := hG.1.1; omega]; exact wear_sum n0 k s.toNat
                                               first
                                                 | rw [decide_eq_true hps]
                                                 | exact absurd hps (by assumption)
                                                 | (have hs1 : s = 1 := by assumption
                                                    subst hs1
                                                    rw [decide_eq_true (show (if Cn n0 k then stepC n0 k else 0) = runC n0 k (Int.toNat 1) by rw [if_pos hG.1]; exact (runC_1 hG.1).symm)]; done))
                                        · skip
                                          (try simp only [Decidable.not_not] at h37); (try have hG : Cn n0 k ∧ 0 ≤ s ∧ s ≤ 1000 := h37)
                                          refine code_skip ?_
                                          refine hK49 _ ?_; clear hK49 K49
                                          refine code_seq (fun K52 hK52 => ?_)
                                          refine code_region ?_
                                          refine list_cons rfl (op_q (q_assign rfl (by decide)) ?_)
                                          refine list_nil ?_
                                          refine hK52 _ ?_; clear hK52 K52
                                          refine codeT.imp (σ' := [(2, .val (.bool false)), (3, .val (.int .i64 n0)), (4, .val (.int .i64 s)), (5, .val (.int .i64 k)), (6, .val (.int .i64 (runC n0 k s.toNat))), (7, .val (.bool _)), (10, .own 89 70 7 k.toNat ((fW n0 k s.toNat 0).map (.int .i64))), (18, .val (.int .i64 _)), (19, .val (.int .i64 _)), (24, .own 172 3 1 _ _), (25, .val (.bool _)), (50, .val (.int .i64 0))]) ?_ (imp_covers ⟨rfl, rfl, rfl, rfl, (congrArg (fun z => some (SV.val (PV.int .i64 z))) (if_pos hG)), rfl, (wear_norm 89 70 hG), rfl, rfl, rfl, rfl, rfl, trivial⟩)
                                          refine code_seq (fun K53 hK53 => ?_)
                                          refine code_seq (fun K54 hK54 => ?_)
                                          refine code_region ?_
                                          refine list_cons rfl (op_q (q_assign rfl (by decide)) ?_)
                                          refine list_nil ?_
                                          refine hK54 _ ?_; clear hK54 K54
                                          refine code_block ?_
                                          refine code_loop (X := Bool × Int × Int × Nat × List PV × Bool × Int × Int) (fun x => [(2, .val (.bool false)), (3, .val (.int .i64 n0)), (4, .val (.int .i64 s)), (5, .val (.int .i64 k)), (6, .val (.int .i64 (runC n0 k s.toNat))), (7, .val (.bool x.1)), (10, .own 89 70 7 k.toNat ((fW n0 k s.toNat 0).map (.int .i64))), (18, .val (.int .i64 x.2.1)), (19, .val (.int .i64 x.2.2.1)), (24, .own 172 3 1 x.2.2.2.1 x.2.2.2.2.1), (25, .val (.bool x.2.2.2.2.2.1)), (50, .val (.int .i64 x.2.2.2.2.2.2.1)), (51, .val (.int .i64 x.2.2.2.2.2.2.2))]) (fun x => 0 ≤ x.2.2.2.2.2.2.2 ∧ x.2.2.2.2.2.2.2 ≤ k ∧ x.2.2.2.2.2.2.1 = psum (fW n0 k s.toNat 0) (x.2.2.2.2.2.2.2.toNat * 7)) (fun x => (k - x.2.2.2.2.2.2.2).toNat) (_, _, _, _, _, _, _, _) (imp_covers ⟨rfl, rfl, rfl, rfl, rfl, rfl, rfl, rfl, rfl, rfl, rfl, rfl, rfl, trivial⟩) ?_ ?_
                                          · (try dsimp only)
                                            exact ⟨by omega, by have := hG.1.1; omega, rfl⟩
                                          · intro x hI
                                            obtain ⟨ok, n, cells, row_n, row_c, four, sum, i⟩ := x
                                            replace hI : 0 ≤ i ∧ i ≤ k ∧ sum = psum (fW n0 k s.toNat 0) (i.toNat * 7) := hI
                                            show codeT _ _ _ [(2, .val (.bool false)), (3, .val (.int .i64 n0)), (4, .val (.int .i64 s)), (5, .val (.int .i64 k)), (6, .val (.int .i64 (runC n0 k s.toNat))), (7, .val (.bool ok)), (10, .own 89 70 7 k.toNat ((fW n0 k s.toNat 0).map (.int .i64))), (18, .val (.int .i64 n)), (19, .val (.int .i64 cells)), (24, .own 172 3 1 row_n row_c), (25, .val (.bool four)), (50, .val (.int .i64 sum)), (51, .val (.int .i64 i))] _
                                            obtain ⟨i1, i2, rfl⟩ := hI
                                            have hk6 := hG.1.1
                                            refine code_seq (fun K55 hK55 => ?_)
                                            refine code_seq (fun K56 hK56 => ?_)
                                            refine code_region ?_
                                            refine list_cons rfl (op_q (q_move rfl (by decide)) ?_)
                                            refine list_cons rfl (op_q (q_move rfl (by decide)) ?_)
                                            refine list_cons rfl (op_q (q_len_sl Tryd.underlying60 rfl rfl (by decide)) ?_)
                                            refine list_cons rfl (op_q (q_lt rfl rfl (by decide)) ?_)
                                            refine list_nil ?_
                                            refine hK56 _ ?_; clear hK56 K56
                                            refine code_cond_d rfl (fun h38 => ?_) (fun h38 => ?_)
                                            · skip
                                              (try simp only [Decidable.not_not] at h38); (try have hG : Cn n0 k ∧ 0 ≤ s ∧ s ≤ 1000 := h38)
                                              refine code_skip ?_
                                              refine hK55 _ ?_; clear hK55 K55
                                              refine code_seq (fun K57 hK57 => ?_)
                                              refine code_block ?_
                                              refine code_seq (fun K58 hK58 => ?_)
                                              refine code_region ?_
                                              refine list_cons rfl (op_q (q_assign rfl (by decide)) ?_)
                                              refine list_nil ?_
                                              refine hK58 _ ?_; clear hK58 K58
                                              refine code_block ?_
                                              refine code_loop (X := Bool × Int × Int × Nat × List PV × Bool × Int × Int) (fun x => [(2, .val (.bool false)), (3, .val (.int .i64 n0)), (4, .val (.int .i64 s)), (5, .val (.int .i64 k)), (6, .val (.int .i64 (runC n0 k s.toNat))), (7, .val (.bool x.1)), (10, .own 89 70 7 k.toNat ((fW n0 k s.toNat 0).map (.int .i64))), (18, .val (.int .i64 x.2.1)), (19, .val (.int .i64 x.2.2.1)), (24, .own 172 3 1 x.2.2.2.1 x.2.2.2.2.1), (25, .val (.bool x.2.2.2.2.2.1)), (50, .val (.int .i64 x.2.2.2.2.2.2.1)), (51, .val (.int .i64 i)), (52, .val (.int .i64 x.2.2.2.2.2.2.2))]) (fun x => 0 ≤ x.2.2.2.2.2.2.2 ∧ x.2.2.2.2.2.2.2 ≤ 7 ∧ x.2.2.2.2.2.2.1 = psum (fW n0 k s.toNat 0) (i.toNat * 7 + x.2.2.2.2.2.2.2.toNat)) (fun x => (7 - x.2.2.2.2.2.2.2).toNat) (_, _, _, _, _, _, _, _) (imp_covers ⟨rfl, rfl, rfl, rfl, rfl, rfl, rfl, rfl, rfl, rfl, rfl, rfl, rfl, rfl, trivial⟩) ?_ ?_
                                              · (try dsimp only)
                                                exact ⟨by omega, by omega, rfl⟩
                                              · intro x hI
                                                obtain ⟨ok, n, cells, row_n, row_c, four, sum, bar⟩ := x
                                                replace hI : 0 ≤ bar ∧ bar ≤ 7 ∧ sum = psum (fW n0 k s.toNat 0) (i.toNat * 7 + bar.toNat) := hI
                                                show codeT _ _ _ [(2, .val (.bool false)), (3, .val (.int .i64 n0)), (4, .val (.int .i64 s)), (5, .val (.int .i64 k)), (6, .val (.int .i64 (runC n0 k s.toNat))), (7, .val (.bool ok)), (10, .own 89 70 7 k.toNat ((fW n0 k s.toNat 0).map (.int .i64))), (18, .val (.int .i64 n)), (19, .val (.int .i64 cells)), (24, .own 172 3 1 row_n row_c), (25, .val (.bool four)), (50, .val (.int .i64 sum)), (51, .val (.int .i64 i)), (52, .val (.int .i64 bar))] _
                                                obtain ⟨j1, j2, rfl⟩ := hI
                                                have hps := psum_bd n0 k s.toNat (i.toNat * 7 + bar.toNat) (by omega) (by omega)
                                                have hfw := fW_le n0 k s.toNat 0 (i.toNat * 7 + bar.toNat)
                                                have hfl := fW_len n0 k s.toNat 0
                                                refine code_seq (fun K59 hK59 => ?_)
                                                refine code_seq (fun K60 hK60 => ?_)
                                                refine code_region ?_
                                                refine list_cons rfl (op_q (q_move rfl (by decide)) ?_)
                                                refine list_cons rfl (op_q (q_lt rfl rfl (by decide)) ?_)
                                                refine list_nil ?_
                                                refine hK60 _ ?_; clear hK60 K60
                                                refine code_cond_d rfl (fun h39 => ?_) (fun h39 => ?_)
                                                · skip
                                                  (try simp only [Decidable.not_not] at h39); (try have hG : Cn n0 k ∧ 0 ≤ s ∧ s ≤ 1000 := h39)
                                                  refine code_skip ?_
                                                  refine hK59 _ ?_; clear hK59 K59
                                                  refine code_seq (fun K61 hK61 => ?_)
                                                  refine code_block ?_
                                                  refine code_region ?_
                                                  refine list_cons rfl (op_q (q_move rfl (by decide)) ?_)
                                                  refine list_cons rfl (op_q (q_move rfl (by decide)) ?_)
                                                  refine list_cons rfl (op_q (q_move rfl (by decide)) ?_)
                                                  refine list_cons rfl (op_q (q_move rfl (by decide)) ?_)
                                                  refine list_cons rfl (op_q (q_indexAddr_own sl_60 rfl rfl (by omega) (by omega) (by decide)) ?_)
                                                  refine list_cons rfl (op_q (q_indexAddr_arr arr_70 rfl rfl rfl (by omega) (by omega) (by decide)) ?_)
                                                  refine list_cons rfl (op_q (q_load one_3 10 rfl rfl rfl (fW_ld (by omega)) (by decide)) ?_)
                                                  refine list_cons rfl (op_q (by first | exact q_addI rfl rfl (by decide) (by omega) (by omega) | exact q_ib rfl rfl rfl (by decide)) ?_)
                                                  refine list_cons rfl (op_q (q_assign rfl (by decide)) ?_)
                                                  refine list_nil ?_
                                                  refine blk_n ?_
                                                  refine hK61 _ ?_; clear hK61 K61
                                                  refine codeT.imp (σ' := [(2, .val (.bool _)), (3, .val (.int .i64 _)), (4, .val (.int .i64 _)), (5, .val (.int .i64 _)), (6, .val (.int .i64 _)), (7, .val (.bool _)), (10, .own 89 70 7 _ _), (18, .val (.int .i64 _)), (19, .val (.int .i64 _)), (24, .own 172 3 1 _ _), (25, .val (.bool _)), (50, .val (.int .i64 _)), (51, .val (.int .i64 _)), (52, .val (.int .i64 _))]) ?_ (imp_covers ⟨rfl, rfl, rfl, rfl, rfl, rfl, rfl, rfl, rfl, rfl, rfl, rfl, rfl, rfl, trivial⟩)
                                                  refine code_region ?_
                                                  refine list_cons rfl (op_q (q_move rfl (by decide)) ?_)
                                                  refine list_cons rfl (op_q (by first | exact q_addI rfl rfl (by decide) (by omega) (by omega) | exact q_ib rfl rfl rfl (by decide)) ?_)
                                                  refine list_cons rfl (op_q (q_assign rfl (by decide)) ?_)
                                                  refine list_nil ?_
                                                  refine then_n ⟨(_, _, _, _, _, _, _, _), imp_covers ⟨rfl, rfl, rfl, rfl, rfl, rfl, rfl, rfl, rfl, rfl, rfl, rfl, rfl, rfl, trivial⟩, ?_, ?_⟩
                                                  · (try dsimp only)
                                                    exact ⟨by omega, by omega, by rw [show (bar + 1).toNat = bar.toNat + 1 by omega, ← Nat.add_assoc, psum]⟩
                                                  · (try dsimp only); omega
                                                · skip
                                                  (try simp only [Decidable.not_not] at h39); (try have hG : Cn n0 k ∧ 0 ≤ s ∧ s ≤ 1000 := h39)
                                                  refine code_exit ?_
                                                  refine then_x ?_; clear hK59 K59
                                                  refine then_x ?_
                                                  refine blk_hit ?_
                                                  refine blk_n ?_
                                                  refine hK57 _ ?_; clear hK57 K57
                                                  refine code_region ?_
                                                  refine list_cons rfl (op_q (q_move rfl (by decide)) ?_)
                                                  refine list_cons rfl (op_q (by first | exact q_addI rfl rfl (by decide) (by omega) (by omega) | exact q_ib rfl rfl rfl (by decide)) ?_)
                                                  refine list_cons rfl (op_q (q_assign rfl (by decide)) ?_)
                                                  refine list_nil ?_
                                                  refine then_n ⟨(_, _, _, _, _, _, _, _), imp_covers ⟨rfl, rfl, rfl, rfl, rfl, rfl, rfl, rfl, rfl, rfl, rfl, rfl, rfl, trivial⟩, ?_, ?_⟩
                                                  · (try dsimp only)
                                                    exact ⟨by omega, by omega, by rw [show (i + 1).toNat * 7 = i.toNat * 7 + bar.toNat by omega]⟩
                                                  · (try dsimp only); omega
                                            · skip
                                              (try simp only [Decidable.not_not] at h38); (try have hG : Cn n0 k ∧ 0 ≤ s ∧ s ≤ 1000 := h38)
                                              refine code_exit ?_
                                              refine then_x ?_; clear hK55 K55
                                              refine then_x ?_
                                              refine blk_hit ?_
                                              refine hK53 _ ?_; clear hK53 K53
                                              refine code_seq (fun K62 hK62 => ?_)
                                              refine code_seq (fun K63 hK63 => ?_)
                                              refine code_region ?_
                                              refine list_cons rfl (op_q (q_move rfl (by decide)) ?_)
                                              refine list_cons rfl (op_q (q_ne rfl rfl (by decide)) ?_)
                                              refine list_nil ?_
                                              refine hK63 _ ?_; clear hK63 K63
                                              refine code_cond_d rfl (fun h40 => ?_) (fun h40 => ?_)
                                              · skip
                                                (try simp only [Decidable.not_not] at h40); (try have hG : Cn n0 k ∧ 0 ≤ s ∧ s ≤ 1000 := h40)
                                                refine code_seq (fun K64 hK64 => ?_)
                                                refine code_region ?_
                                                refine list_cons rfl (op_q (q_move rfl (by decide)) ?_)
                                                refine list_cons rfl (op_q (q_move rfl (by decide)) ?_)
                                                refine list_cons rfl (op_q (q_eq rfl rfl (by decide)) ?_)
                                                refine list_cons rfl (op_q (q_assign rfl (by decide)) ?_)
                                                refine list_nil ?_
                                                refine hK64 _ ?_; clear hK64 K64
                                                refine codeT.imp (σ' := [(2, .val (.bool _)), (3, .val (.int .i64 _)), (4, .val (.int .i64 _)), (5, .val (.int .i64 _)), (6, .val (.int .i64 _)), (7, .val (.bool _)), (10, .own 89 70 7 _ _), (18, .val (.int .i64 _)), (19, .val (.int .i64 _)), (24, .own 172 3 1 _ _), (25, .val (.bool _)), (50, .val (.int .i64 _)), (51, .val (.int .i64 _))]) ?_ (imp_covers ⟨rfl, rfl, rfl, rfl, rfl, rfl, rfl, rfl, rfl, rfl, rfl, rfl, rfl, trivial⟩)
                                                refine code_ret ?_
                                                refine then_r ?_; clear hK62 K62
                                                refine ends_ret (cs := []) rfl rfl rfl rfl trivial ?_
                                                first
                                                  | rfl
                                                  | exact absurd hG.1 (by assumption)
                                                  | (have hps : psum (fW n0 k s.toNat 0) (i.toNat * 7) = runC n0 k s.toNat := by
                                                       rw [show i.toNat = k.toNat by have := hG.1.1; omega]; exact wear_sum n0 k s.toNat
                                                     first
                                                       | rw [decide_eq_true hps]
                                                       | exact absurd hps (by assumption)
                                                       | (have hs1 : s = 1 := by assumption
                                                          subst hs1
                                                          rw [decide_eq_true (show (if Cn n0 k then stepC n0 k else 0) = runC n0 k (Int.toNat 1) by rw [if_pos hG.1]; exact (runC_1 hG.1).symm)]; done))
                                              · skip
                                                (try simp only [Decidable.not_not] at h40); (try have hG : Cn n0 k ∧ 0 ≤ s ∧ s ≤ 1000 := h40)
                                                refine code_skip ?_
                                                refine hK62 _ ?_; clear hK62 K62
                                                refine code_seq (fun K65 hK65 => ?_)
                                                refine code_region ?_
                                                refine list_cons rfl (op_q (q_move rfl (by decide)) ?_)
                                                refine list_cons rfl (op_q (q_move rfl (by decide)) ?_)
                                                refine list_cons rfl (op_call _ (impl_StepChanges _ _) rfl rfl (by decide) (by decide) (by decide) rfl ?_)
                                                rintro _ rfl
                                                refine list_cons rfl (op_q (q_move rfl (by decide)) ?_)
                                                refine list_cons rfl (op_q (q_extract rfl rfl (by decide)) ?_)
                                                refine list_cons rfl (op_q (q_extract rfl rfl (by decide)) ?_)
                                                refine list_cons rfl (op_q (q_assign rfl (by decide)) ?_)
                                                refine list_cons rfl (op_q (q_assign rfl (by decide)) ?_)
                                                refine list_nil ?_
                                                refine hK65 _ ?_; clear hK65 K65
                                                refine codeT.imp (σ' := [(2, .val (.bool _)), (3, .val (.int .i64 _)), (4, .val (.int .i64 _)), (5, .val (.int .i64 _)), (6, .val (.int .i64 _)), (7, .val (.bool _)), (10, .own 89 70 7 _ _), (18, .val (.int .i64 _)), (19, .val (.int .i64 _)), (24, .own 172 3 1 _ _), (25, .val (.bool _)), (50, .val (.int .i64 _)), (51, .val (.int .i64 _)), (53, .val (.int .i64 _)), (54, .val (.bool _))]) ?_ (imp_covers ⟨rfl, rfl, rfl, rfl, rfl, rfl, rfl, rfl, rfl, rfl, rfl, rfl, rfl, rfl, rfl, trivial⟩)
                                                refine code_seq (fun K66 hK66 => ?_)
                                                refine code_region ?_
                                                refine list_cons rfl (op_q (q_move rfl (by decide)) ?_)
                                                refine list_cons rfl (op_q (q_move rfl (by decide)) ?_)
                                                refine list_cons rfl (op_q (q_eq rfl rfl (by decide)) ?_)
                                                refine list_cons rfl (op_q (q_move rfl (by decide)) ?_)
                                                refine list_guard_d rfl rfl rfl rfl (by decide) rfl (by decide) (fun h41 => ?_) (fun h41 => ?_)
                                                · simp only [Bool.false_eq_true, if_true, if_false, Decidable.not_not] at h41
                                                  (try simp only [Decidable.not_not] at h41); (try have hG : Cn n0 k ∧ 0 ≤ s ∧ s ≤ 1000 := h41)
                                                  refine id (op_q (q_move rfl (by decide)) ?_)
                                                  refine list_cons rfl (op_q (q_pick rfl rfl (by decide)) ?_)
                                                  refine list_cons rfl (op_q (q_move rfl (by decide)) ?_)
                                                  refine list_guard_d rfl rfl rfl rfl (by decide) rfl (by decide) (fun h42 => ?_) (fun h42 => ?_)
                                                  · simp only [Bool.false_eq_true, if_true, if_false, Decidable.not_not] at h42
                                                    (try simp only [Decidable.not_not] at h42); (try have hG : Cn n0 k ∧ 0 ≤ s ∧ s ≤ 1000 := h42)
                                                    refine id (op_q (q_move rfl (by decide)) ?_)
                                                    refine list_guard_y rfl rfl rfl rfl (by decide) rfl ?_
                                                    refine id (op_q (q_move rfl (by decide)) ?_)
                                                    refine list_guard_y rfl rfl rfl rfl (by decide) rfl ?_
                                                    refine id (op_q (q_eq rfl rfl (by decide)) ?_)
                                                    refine list_cons rfl (op_q (q_pick rfl rfl (by decide)) ?_)
                                                    refine list_cons rfl (op_q (q_assign rfl (by decide)) ?_)
                                                    refine list_nil ?_
                                                    refine hK66 _ ?_; clear hK66 K66
                                                    refine codeT.imp (σ' := [(2, .val (.bool _)), (3, .val (.int .i64 _)), (4, .val (.int .i64 _)), (5, .val (.int .i64 _)), (6, .val (.int .i64 _)), (7, .val (.bool _)), (10, .own 89 70 7 _ _), (18, .val (.int .i64 _)), (19, .val (.int .i64 _)), (24, .own 172 3 1 _ _), (25, .val (.bool _)), (50, .val (.int .i64 _)), (51, .val (.int .i64 _)), (53, .val (.int .i64 _)), (54, .val (.bool _))]) ?_ (imp_covers ⟨rfl, rfl, rfl, rfl, rfl, rfl, rfl, rfl, rfl, rfl, rfl, rfl, rfl, rfl, rfl, trivial⟩)
                                                    refine code_ret ?_
                                                    refine ends_ret (cs := []) rfl rfl rfl rfl trivial ?_
                                                    first
                                                      | rfl
                                                      | exact absurd hG.1 (by assumption)
                                                      | (have hps : psum (fW n0 k s.toNat 0) (i.toNat * 7) = runC n0 k s.toNat := by
                                                           rw [show i.toNat = k.toNat by have := hG.1.1; omega]; exact wear_sum n0 k s.toNat
                                                         first
                                                           | rw [decide_eq_true hps]
                                                           | exact absurd hps (by assumption)
                                                           | (have hs1 : s = 1 := by assumption
                                                              subst hs1
                                                              rw [decide_eq_true (show (if Cn n0 k then stepC n0 k else 0) = runC n0 k (Int.toNat 1) by rw [if_pos hG.1]; exact (runC_1 hG.1).symm)]; done))
                                                  · simp only [Bool.false_eq_true, if_true, if_false, Decidable.not_not] at h42
                                                    (try simp only [Decidable.not_not] at h42); (try have hG : Cn n0 k ∧ 0 ≤ s ∧ s ≤ 1000 := h42)
                                                    refine list_guard_nT rfl rfl rfl rfl (by decide) (by decide) ?_
                                                    refine list_guard_nT rfl rfl rfl rfl (by decide) (by decide) ?_
                                                    refine list_cons rfl (op_q (q_pick rfl rfl (by decide)) ?_)
                                                    refine list_cons rfl (op_q (q_assign rfl (by decide)) ?_)
                                                    refine list_nil ?_
                                                    refine hK66 _ ?_; clear hK66 K66
                                                    refine codeT.imp (σ' := [(2, .val (.bool _)), (3, .val (.int .i64 _)), (4, .val (.int .i64 _)), (5, .val (.int .i64 _)), (6, .val (.int .i64 _)), (7, .val (.bool _)), (10, .own 89 70 7 _ _), (18, .val (.int .i64 _)), (19, .val (.int .i64 _)), (24, .own 172 3 1 _ _), (25, .val (.bool _)), (50, .val (.int .i64 _)), (51, .val (.int .i64 _)), (53, .val (.int .i64 _)), (54, .val (.bool _))]) ?_ (imp_covers ⟨rfl, rfl, rfl, rfl, rfl, rfl, rfl, rfl, rfl, rfl, rfl, rfl, rfl, rfl, rfl, trivial⟩)
                                                    refine code_ret ?_
                                                    refine ends_ret (cs := []) rfl rfl rfl rfl trivial ?_
                                                    first
                                                      | rfl
                                                      | exact absurd hG.1 (by assumption)
                                                      | (have hps : psum (fW n0 k s.toNat 0) (i.toNat * 7) = runC n0 k s.toNat := by
                                                           rw [show i.toNat = k.toNat by have := hG.1.1; omega]; exact wear_sum n0 k s.toNat
                                                         first
                                                           | rw [decide_eq_true hps]
                                                           | exact absurd hps (by assumption)
                                                           | (have hs1 : s = 1 := by assumption
                                                              subst hs1
                                                              rw [decide_eq_true (show (if Cn n0 k then stepC n0 k else 0) = runC n0 k (Int.toNat 1) by rw [if_pos hG.1]; exact (runC_1 hG.1).symm)]; done))
                                                · simp only [Bool.false_eq_true, if_true, if_false, Decidable.not_not] at h41
                                                  (try simp only [Decidable.not_not] at h41); (try have hG : Cn n0 k ∧ 0 ≤ s ∧ s ≤ 1000 := h41)
                                                  refine list_cons rfl (op_q (q_pick rfl rfl (by decide)) ?_)
                                                  refine list_cons rfl (op_q (q_move rfl (by decide)) ?_)
                                                  refine list_guard_nT rfl rfl rfl rfl (by decide) (by decide) ?_
                                                  refine list_guard_nT rfl rfl rfl rfl (by decide) (by decide) ?_
                                                  refine list_guard_nT rfl rfl rfl rfl (by decide) (by decide) ?_
                                                  refine list_cons rfl (op_q (q_pick rfl rfl (by decide)) ?_)
                                                  refine list_cons rfl (op_q (q_assign rfl (by decide)) ?_)
                                                  refine list_nil ?_
                                                  refine hK66 _ ?_; clear hK66 K66
                                                  refine codeT.imp (σ' := [(2, .val (.bool _)), (3, .val (.int .i64 _)), (4, .val (.int .i64 _)), (5, .val (.int .i64 _)), (6, .val (.int .i64 _)), (7, .val (.bool _)), (10, .own 89 70 7 _ _), (18, .val (.int .i64 _)), (19, .val (.int .i64 _)), (24, .own 172 3 1 _ _), (25, .val (.bool _)), (50, .val (.int .i64 _)), (51, .val (.int .i64 _)), (53, .val (.int .i64 _)), (54, .val (.bool _))]) ?_ (imp_covers ⟨rfl, rfl, rfl, rfl, rfl, rfl, rfl, rfl, rfl, rfl, rfl, rfl, rfl, rfl, rfl, trivial⟩)
                                                  refine code_ret ?_
                                                  refine ends_ret (cs := []) rfl rfl rfl rfl trivial ?_
                                                  first
                                                    | rfl
                                                    | exact absurd hG.1 (by assumption)
                                                    | (have hps : psum (fW n0 k s.toNat 0) (i.toNat * 7) = runC n0 k s.toNat := by
                                                         rw [show i.toNat = k.toNat by have := hG.1.1; omega]; exact wear_sum n0 k s.toNat
                                                       first
                                                         | rw [decide_eq_true hps]
                                                         | exact absurd hps (by assumption)
                                                         | (have hs1 : s = 1 := by assumption
                                                            subst hs1
                                                            rw [decide_eq_true (show (if Cn n0 k then stepC n0 k else 0) = runC n0 k (Int.toNat 1) by rw [if_pos hG.1]; exact (runC_1 hG.1).symm)]; done))
                              · simp only [Bool.false_eq_true, if_true, if_false, Decidable.not_not] at h19
                                (try simp only [Decidable.not_not] at h19); (try have hG : Cn n0 k ∧ 0 ≤ s ∧ s ≤ 1000 := h19)
                                exfalso
                                first | exact absurd rfl h19 | exact h19 trivial | (simp at h19; done)
                          · simp only [Bool.false_eq_true, if_true, if_false, Decidable.not_not] at h17
                            (try simp only [Decidable.not_not] at h17); (try have hG : Cn n0 k ∧ 0 ≤ s ∧ s ≤ 1000 := h17)
                            exfalso
                            first | exact absurd rfl h17 | exact h17 trivial | (simp at h17; done)
                        · simp only [Bool.false_eq_true, if_true, if_false, Decidable.not_not] at h16
                          (try simp only [Decidable.not_not] at h16); (try have hG : Cn n0 k ∧ 0 ≤ s ∧ s ≤ 1000 := h16)
                          exfalso
                          first | exact absurd rfl h16 | exact h16 trivial | (simp at h16; done)
                    · simp only [Bool.false_eq_true, if_true, if_false, Decidable.not_not] at h14
                      (try simp only [Decidable.not_not] at h14); (try have hG : Cn n0 k ∧ 0 ≤ s ∧ s ≤ 1000 := h14)
                      exfalso
                      first | exact absurd rfl h14 | exact h14 trivial | (simp at h14; done)
                  · simp only [Bool.false_eq_true, if_true, if_false, Decidable.not_not] at h13
                    (try simp only [Decidable.not_not] at h13); (try have hG : Cn n0 k ∧ 0 ≤ s ∧ s ≤ 1000 := h13)
                    exfalso
                    first | exact absurd rfl h13 | exact h13 trivial | (simp at h13; done)
              · simp only [Bool.false_eq_true, if_true, if_false, Decidable.not_not] at h11
                (try simp only [Decidable.not_not] at h11); (try have hG : Cn n0 k ∧ 0 ≤ s ∧ s ≤ 1000 := h11)
                exfalso
                first | exact absurd rfl h11 | exact h11 trivial | (simp at h11; done)
          · simp only [Bool.false_eq_true, if_true, if_false, Decidable.not_not] at h5
            (try simp only [Decidable.not_not] at h5); (try have hG : Cn n0 k ∧ 0 ≤ s ∧ s ≤ 1000 := h5)
            exfalso
            first | exact absurd rfl h5 | exact h5 trivial | (simp at h5; done)
        · simp only [Bool.false_eq_true, if_true, if_false, Decidable.not_not] at h4
          (try simp only [Decidable.not_not] at h4); (try have hG : Cn n0 k ∧ 0 ≤ s ∧ s ≤ 1000 := h4)
          exfalso
          first | exact absurd rfl h4 | exact h4 trivial | (simp at h4; done)
    · simp only [Bool.false_eq_true, if_true, if_false, Decidable.not_not] at h2
      (try simp only [Decidable.not_not] at h2); (try have hG : Cn n0 k ∧ 0 ≤ s ∧ s ≤ 1000 := h2)
      exfalso
      first | exact absurd rfl h2 | exact h2 trivial | (simp at h2; done)

end Go.Proofs.YtjbbijlbenkgcaaDoor
