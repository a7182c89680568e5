/- Contracts of functions, walked over the pure layer; each says for which arguments. -/
import Derived.Test.YtjbbijlbenkgcaaDoorLF2Ty
import Derived.Test.YtjbbijlbenkgcaaDoorTf
import Derived.Test.YtjbbijlbenkgcaaDoorSp
import Derived.Test.YtjbbijlbenkgcaaDoorS3
import Derived.Test.YtjbbijlbenkgcaaDoorS3b
import Derived.Test.YtjbbijlbenkgcaaDoorS3d
import Derived.Test.YtjbbijlbenkgcaaDoorShelf
import Derived.Test.YtjbbijlbenkgcaaDoorIm
import Derived.Test.YtjbbijlbenkgcaaDoorIm3f
import Derived.Test.YtjbbijlbenkgcaaDoorIm3g
import Derived.Test.YtjbbijlbenkgcaaDoorS3c
import Derived.Test.YtjbbijlbenkgcaaDoorMgH
import Derived.Test.YtjbbijlbenkgcaaDoorMgF
import Derived.Test.YtjbbijlbenkgcaaDoorCFo
namespace Go.Proofs.YtjbbijlbenkgcaaDoor
open Go.RowKit LF2Ty
set_option linter.unusedVariables false
set_option linter.unusedSimpArgs false

set_option maxRecDepth 8000 in
set_option maxHeartbeats 16000000 in
theorem FnFaultsFound_law (code : List UInt8) (p0 : code.length ≤ 9223372036854775807) : MCalls Tryd.prog 3 true none [.sl code.length (bytesP code)] fun rs _ => rs = [.val (.bool true)] := by
  refine mcalls_of_code (n := 245) az Tryd.func3 (by kernel_rfl) rfl rfl (Nat.le_of_ble_eq_true rfl) (by intro t u h; simp [Tryd.f3] at h) ?_
  refine code_seq (fun K1 hK1 => ?_)
  refine code_region ?_
  refine list_cons rfl (op_q (q_assign rfl (by decide)) ?_)
  refine list_nil ?_
  refine hK1 _ ?_; clear hK1 K1
  refine code_seq (fun K2 hK2 => ?_)
  refine code_seq (fun K3 hK3 => ?_)
  refine code_region ?_
  refine list_cons rfl (op_q (q_move rfl (by decide)) ?_)
  refine list_cons rfl (op_call _ (vBig_c _) rfl rfl (by decide) (by decide) (by decide) rfl ?_)
  rintro _ rfl
  refine list_nil ?_
  refine hK3 _ ?_; clear hK3 K3
  refine codeT.imp (σ' := [(0, .ext _), (2, .val (.bool _)), (32, .val (.bool _))]) ?_ (imp_covers ⟨rfl, rfl, rfl, trivial⟩)
  refine code_cond_d rfl (fun h1 => ?_) (fun h1 => ?_)
  · skip
    (try simp only [Decidable.not_not] at h1); (try have hok : PairsP ds es := h1); (try have hth : FirstP fs r := h1; have hfn := firI_n hth)
    refine code_seq (fun K4 hK4 => ?_)
    refine code_region ?_
    refine list_cons rfl (op_q (q_assign rfl (by decide)) ?_)
    refine list_nil ?_
    refine hK4 _ ?_; clear hK4 K4
    refine code_ret ?_
    refine then_r ?_; clear hK2 K2
    refine ends_ret (cs := []) rfl rfl rfl rfl trivial ?_
    first
      | rfl
      | (have hi : i.toNat = r.length := by omega
         rw [hi] at hL
         subst hL
         first
           | exact absurd (fir3 hth).1 (by assumption)
           | rw [decide_eq_true (fir3 hth).2])
  · skip
    (try simp only [Decidable.not_not] at h1); (try have hok : PairsP ds es := h1); (try have hth : FirstP fs r := h1; have hfn := firI_n hth)
    refine code_skip ?_
    refine hK2 _ ?_; clear hK2 K2
    refine code_seq (fun K5 hK5 => ?_)
    refine code_region ?_
    refine list_cons rfl (op_q (q_move rfl (by decide)) ?_)
    refine list_cons rfl (op_callM (DrawFaultsOf_c _ ?_) (.tmp 0) 0 [] [.tmp 34] _ rfl rfl (by intro y hy; cases hy) (by decide) (by decide) (by decide) rfl (by intro h; cases h) ?_)
    · first | assumption | omega | (simp; omega)
    rintro _ _ ⟨ds, es, hd1, hc1, rfl⟩
    have hfa := faI_len ds es
    refine list_cons rfl (op_q (q_move rfl (by decide)) ?_)
    refine list_cons rfl (op_q (q_extract rfl rfl (by decide)) ?_)
    refine list_cons rfl (op_q (q_extract rfl rfl (by decide)) ?_)
    refine list_cons rfl (op_q (q_assign rfl (by decide)) ?_)
    refine list_cons rfl (op_q (q_assign rfl (by decide)) ?_)
    refine list_nil ?_
    refine hK5 _ ?_; clear hK5 K5
    refine codeT.imp (σ' := [(0, .ext _), (2, .val (.bool _)), (3, .own 35 3 1 _ _), (4, .own 1035 3 1 _ _)]) ?_ (imp_covers ⟨rfl, rfl, rfl, rfl, trivial⟩)
    refine code_seq (fun K6 hK6 => ?_)
    refine code_region ?_
    refine list_cons rfl (op_q (q_move rfl (by decide)) ?_)
    refine list_cons rfl (op_q (q_move rfl (by decide)) ?_)
    refine list_cons rfl (op_callM (impl_FaultsOf _ _ (by omega) (by omega)) (.tmp 0) 0 [] [.tmp 39, .tmp 40] _ rfl rfl (by intro y hy; cases hy) (by decide) (by decide) (by decide) rfl (by intro h; cases h) ?_)
    rintro _ _ rfl
    refine list_cons rfl (op_q (q_move rfl (by decide)) ?_)
    refine list_cons rfl (op_q (q_extract rfl rfl (by decide)) ?_)
    refine list_cons rfl (op_q (q_extract rfl rfl (by decide)) ?_)
    refine list_cons rfl (op_q (q_assign rfl (by decide)) ?_)
    refine list_cons rfl (op_q (q_assign rfl (by decide)) ?_)
    refine list_nil ?_
    refine hK6 _ ?_; clear hK6 K6
    refine codeT.imp (σ' := [(0, .ext _), (2, .val (.bool _)), (3, .own 35 3 1 _ _), (4, .own 1035 3 1 _ _), (5, .own 41 42 2 _ _), (6, .val (.bool _))]) ?_ (imp_covers ⟨rfl, rfl, rfl, rfl, rfl, rfl, trivial⟩)
    refine code_seq (fun K7 hK7 => ?_)
    refine code_region ?_
    refine list_cons rfl (op_q (q_move rfl (by decide)) ?_)
    refine list_cons rfl (op_q (q_move rfl (by decide)) ?_)
    refine list_cons rfl (op_call _ (spec_FaultsOf _ _ (by omega) (by omega)) rfl rfl (by decide) (by decide) (by decide) rfl ?_)
    rintro _ rfl
    refine list_cons rfl (op_q (q_move rfl (by decide)) ?_)
    refine list_cons rfl (op_q (q_extract rfl rfl (by decide)) ?_)
    refine list_cons rfl (op_q (q_extract rfl rfl (by decide)) ?_)
    refine list_cons rfl (op_q (q_assign rfl (by decide)) ?_)
    refine list_cons rfl (op_q (q_assign rfl (by decide)) ?_)
    refine list_nil ?_
    refine hK7 _ ?_; clear hK7 K7
    refine codeT.imp (σ' := [(0, .ext _), (2, .val (.bool _)), (3, .own 35 3 1 _ _), (4, .own 1035 3 1 _ _), (5, .own 41 42 2 _ _), (6, .val (.bool _)), (7, .own 47 42 2 _ _), (8, .val (.bool _))]) ?_ (imp_covers ⟨rfl, rfl, rfl, rfl, rfl, rfl, rfl, rfl, trivial⟩)
    refine code_seq (fun K8 hK8 => ?_)
    refine code_region ?_
    refine list_cons rfl (op_q (q_move rfl (by decide)) ?_)
    refine list_cons rfl (op_call _ (vCut_c _ (by omega) _ (by omega) (by omega)) rfl rfl (by decide) (by decide) (by decide) rfl ?_)
    rintro _ ⟨c2, hc2, rfl⟩
    refine list_cons rfl (op_callM (DrawCountNumbers_c _ ?_) (.tmp 0) 0 [] [.tmp 52] _ rfl rfl (by intro y hy; cases hy) (by decide) (by decide) (by decide) rfl (by intro h; cases h) ?_)
    · first | assumption | omega | (simp; omega)
    rintro _ _ ⟨fs, r, ⟨hf1, hf2⟩, hr1, rfl⟩
    have hfl := fl_len fs
    have hfla := fl_flat fs
    refine listT.imp ?_ imp_unfrz
    refine list_cons rfl (op_q (q_move rfl (by decide)) ?_)
    refine list_cons rfl (op_q (q_extract rfl rfl (by decide)) ?_)
    refine list_cons rfl (op_q (q_extract rfl rfl (by decide)) ?_)
    refine list_cons rfl (op_q (q_assign rfl (by decide)) ?_)
    refine list_cons rfl (op_q (q_assign rfl (by decide)) ?_)
    refine list_nil ?_
    refine hK8 _ ?_; clear hK8 K8
    refine codeT.imp (σ' := [(0, .ext _), (2, .val (.bool _)), (3, .own 35 3 1 _ _), (4, .own 1035 3 1 _ _), (5, .own 41 42 2 _ _), (6, .val (.bool _)), (7, .own 47 42 2 _ _), (8, .val (.bool _)), (9, .bor 53 _), (10, .own 1053 3 1 _ _)]) ?_ (imp_covers ⟨rfl, rfl, rfl, rfl, rfl, rfl, rfl, rfl, rfl, rfl, trivial⟩)
    refine code_seq (fun K9 hK9 => ?_)
    refine code_region ?_
    refine list_cons rfl (op_q (q_move rfl (by decide)) ?_)
    refine list_cons rfl (op_q (q_move rfl (by decide)) ?_)
    refine list_cons rfl (op_call _ (impl_CountNumbers _ _ (by omega) (by omega)) rfl rfl (by decide) (by decide) (by decide) rfl ?_)
    rintro _ rfl
    refine list_cons rfl (op_q (q_move rfl (by decide)) ?_)
    refine list_cons rfl (op_q (q_extract rfl rfl (by decide)) ?_)
    refine list_cons rfl (op_q (q_extract rfl rfl (by decide)) ?_)
    refine list_cons rfl (op_q (q_assign rfl (by decide)) ?_)
    refine list_cons rfl (op_q (q_assign rfl (by decide)) ?_)
    refine list_nil ?_
    refine hK9 _ ?_; clear hK9 K9
    refine codeT.imp (σ' := [(0, .ext _), (2, .val (.bool _)), (3, .own 35 3 1 _ _), (4, .own 1035 3 1 _ _), (5, .own 41 42 2 _ _), (6, .val (.bool _)), (7, .own 47 42 2 _ _), (8, .val (.bool _)), (9, .bor 53 _), (10, .own 1053 3 1 _ _), (11, .val (.int .i64 _)), (12, .val (.bool _))]) ?_ (imp_covers ⟨rfl, rfl, rfl, rfl, rfl, rfl, rfl, rfl, rfl, rfl, rfl, rfl, trivial⟩)
    refine code_seq (fun K10 hK10 => ?_)
    refine code_region ?_
    refine list_cons rfl (op_q (q_move rfl (by decide)) ?_)
    refine list_cons rfl (op_q (q_move rfl (by decide)) ?_)
    refine list_cons rfl (op_call _ (spec_CountNumbers _ _ (by omega) (by omega)) rfl rfl (by decide) (by decide) (by decide) rfl ?_)
    rintro _ rfl
    refine list_cons rfl (op_q (q_move rfl (by decide)) ?_)
    refine list_cons rfl (op_q (q_extract rfl rfl (by decide)) ?_)
    refine list_cons rfl (op_q (q_extract rfl rfl (by decide)) ?_)
    refine list_cons rfl (op_q (q_assign rfl (by decide)) ?_)
    refine list_cons rfl (op_q (q_assign rfl (by decide)) ?_)
    refine list_nil ?_
    refine hK10 _ ?_; clear hK10 K10
    refine codeT.imp (σ' := [(0, .ext _), (2, .val (.bool _)), (3, .own 35 3 1 _ _), (4, .own 1035 3 1 _ _), (5, .own 41 42 2 _ _), (6, .val (.bool _)), (7, .own 47 42 2 _ _), (8, .val (.bool _)), (9, .bor 53 _), (10, .own 1053 3 1 _ _), (11, .val (.int .i64 _)), (12, .val (.bool _)), (13, .val (.int .i64 _)), (14, .val (.bool _))]) ?_ (imp_covers ⟨rfl, rfl, rfl, rfl, rfl, rfl, rfl, rfl, rfl, rfl, rfl, rfl, rfl, rfl, trivial⟩)
    refine code_seq (fun K11 hK11 => ?_)
    refine code_region ?_
    refine list_cons rfl (op_q (q_move rfl (by decide)) ?_)
    refine list_cons rfl (op_q (q_move rfl (by decide)) ?_)
    refine list_cons rfl (op_call _ (impl_FirstNumber _ _ (by omega) (by omega)) rfl rfl (by decide) (by decide) (by decide) rfl ?_)
    rintro _ rfl; have hfi := firI_len fs r hr1
    refine list_cons rfl (op_q (q_move rfl (by decide)) ?_)
    refine list_cons rfl (op_q (q_extract rfl rfl (by decide)) ?_)
    refine list_cons rfl (op_q (q_extract rfl rfl (by decide)) ?_)
    refine list_cons rfl (op_q (q_assign rfl (by decide)) ?_)
    refine list_cons rfl (op_q (q_assign rfl (by decide)) ?_)
    refine list_nil ?_
    refine hK11 _ ?_; clear hK11 K11
    refine codeT.imp (σ' := [(0, .ext _), (2, .val (.bool _)), (3, .own 35 3 1 _ _), (4, .own 1035 3 1 _ _), (5, .own 41 42 2 _ _), (6, .val (.bool _)), (7, .own 47 42 2 _ _), (8, .val (.bool _)), (9, .bor 53 _), (10, .own 1053 3 1 _ _), (11, .val (.int .i64 _)), (12, .val (.bool _)), (13, .val (.int .i64 _)), (14, .val (.bool _)), (15, .own 71 3 1 _ _), (16, .val (.bool _))]) ?_ (imp_covers ⟨rfl, rfl, rfl, rfl, rfl, rfl, rfl, rfl, rfl, rfl, rfl, rfl, rfl, rfl, rfl, rfl, trivial⟩)
    refine code_seq (fun K12 hK12 => ?_)
    refine code_region ?_
    refine list_cons rfl (op_q (q_move rfl (by decide)) ?_)
    refine list_cons rfl (op_q (q_move rfl (by decide)) ?_)
    refine list_cons rfl (op_call _ (spec_FirstNumber _ _ (by omega) (by omega)) rfl rfl (by decide) (by decide) (by decide) rfl ?_)
    rintro _ rfl
    refine list_cons rfl (op_q (q_move rfl (by decide)) ?_)
    refine list_cons rfl (op_q (q_extract rfl rfl (by decide)) ?_)
    refine list_cons rfl (op_q (q_extract rfl rfl (by decide)) ?_)
    refine list_cons rfl (op_q (q_assign rfl (by decide)) ?_)
    refine list_cons rfl (op_q (q_assign rfl (by decide)) ?_)
    refine list_nil ?_
    refine hK12 _ ?_; clear hK12 K12
    refine codeT.imp (σ' := [(0, .ext _), (2, .val (.bool _)), (3, .own 35 3 1 _ _), (4, .own 1035 3 1 _ _), (5, .own 41 42 2 _ _), (6, .val (.bool _)), (7, .own 47 42 2 _ _), (8, .val (.bool _)), (9, .bor 53 _), (10, .own 1053 3 1 _ _), (11, .val (.int .i64 _)), (12, .val (.bool _)), (13, .val (.int .i64 _)), (14, .val (.bool _)), (15, .own 71 3 1 _ _), (16, .val (.bool _)), (17, .own 77 3 1 _ _), (18, .val (.bool _))]) ?_ (imp_covers ⟨rfl, rfl, rfl, rfl, rfl, rfl, rfl, rfl, rfl, rfl, rfl, rfl, rfl, rfl, rfl, rfl, rfl, rfl, trivial⟩)
    refine codeT.imp (σ' := [(2, .val (.bool _)), (3, .own 35 3 1 _ _), (4, .own 1035 3 1 _ _), (5, .own 41 42 2 _ _), (6, .val (.bool _)), (7, .own 47 42 2 _ _), (8, .val (.bool _)), (9, .bor 53 _), (10, .own 1053 3 1 _ _), (11, .val (.int .i64 _)), (12, .val (.bool _)), (13, .val (.int .i64 _)), (14, .val (.bool _)), (15, .own 71 3 1 _ _), (16, .val (.bool _)), (17, .own 77 3 1 _ _), (18, .val (.bool _))]) ?_ (imp_covers ⟨rfl, rfl, rfl, rfl, rfl, rfl, rfl, rfl, rfl, rfl, rfl, rfl, rfl, rfl, rfl, rfl, rfl, trivial⟩)
    refine code_seq_same ?_ ?_
    · skip
      refine code_seq (fun K13 hK13 => ?_)
      refine code_region ?_
      refine list_cons rfl (op_q (q_move rfl (by decide)) ?_)
      refine list_cons rfl (op_q (q_move rfl (by decide)) ?_)
      refine list_cons rfl (op_q (q_bne Tryd.underlying4 rfl rfl (by decide)) ?_)
      refine list_cons rfl (op_q (q_move rfl (by decide)) ?_)
      refine list_guard_d rfl rfl rfl rfl (by decide) rfl (by decide) (fun h2 => ?_) (fun h2 => ?_)
      · simp only [Bool.false_eq_true, if_true, if_false, Decidable.not_not] at h2
        (try simp only [Decidable.not_not] at h2); (try have hok : PairsP ds es := h2); (try have hth : FirstP fs r := h2; have hfn := firI_n hth)
        refine id (op_q (q_move rfl (by decide)) ?_)
        refine list_guard_y rfl rfl rfl rfl (by decide) rfl ?_
        refine id (op_q (q_move rfl (by decide)) ?_)
        refine list_guard_y rfl rfl rfl rfl (by decide) rfl ?_
        refine id (op_call _ (vFaults_c _ _ (by first | omega | (simp; omega))) rfl rfl (by decide) (by decide) (by decide) rfl ?_)
        rintro _ rfl
        refine list_guard_y rfl rfl rfl rfl (by decide) rfl ?_
        refine id (op_q (by first | exact q_notd rfl (by decide) | exact q_not rfl (by decide)) ?_)
        refine list_cons rfl (op_q (q_pick rfl rfl (by decide)) ?_)
        refine list_cons rfl (op_q (q_move rfl (by decide)) ?_)
        refine list_guard_d rfl rfl rfl rfl (by decide) rfl (by decide) (fun h3 => ?_) (fun h3 => ?_)
        · simp only [Bool.false_eq_true, if_true, if_false, Decidable.not_not] at h3
          (try simp only [Decidable.not_not] at h3); (try have hok : PairsP ds es := h3); (try have hth : FirstP fs r := h3; have hfn := firI_n hth)
          refine id (op_q (q_move rfl (by decide)) ?_)
          refine list_guard_y rfl rfl rfl rfl (by decide) rfl ?_
          refine id (op_q (q_move rfl (by decide)) ?_)
          refine list_guard_y rfl rfl rfl rfl (by decide) rfl ?_
          refine id (op_q (q_ne rfl rfl (by decide)) ?_)
          refine list_cons rfl (op_q (q_pick rfl rfl (by decide)) ?_)
          refine list_cons rfl (op_q (q_move rfl (by decide)) ?_)
          refine list_guard_d rfl rfl rfl rfl (by decide) rfl (by decide) (fun h4 => ?_) (fun h4 => ?_)
          · simp only [Bool.false_eq_true, if_true, if_false, Decidable.not_not] at h4
            (try simp only [Decidable.not_not] at h4); (try have hok : PairsP ds es := h4); (try have hth : FirstP fs r := h4; have hfn := firI_n hth)
            refine id (op_q (q_move rfl (by decide)) ?_)
            refine list_guard_y rfl rfl rfl rfl (by decide) rfl ?_
            refine id (op_q (q_move rfl (by decide)) ?_)
            refine list_guard_y rfl rfl rfl rfl (by decide) rfl ?_
            refine id (op_q (q_bne Tryd.underlying4 rfl rfl (by decide)) ?_)
            refine list_cons rfl (op_q (q_pick rfl rfl (by decide)) ?_)
            refine list_cons rfl (op_q (q_move rfl (by decide)) ?_)
            refine list_guard_d rfl rfl rfl rfl (by decide) rfl (by decide) (fun h5 => ?_) (fun h5 => ?_)
            · simp only [Bool.false_eq_true, if_true, if_false, Decidable.not_not] at h5
              (try simp only [Decidable.not_not] at h5); (try have hok : PairsP ds es := h5); (try have hth : FirstP fs r := h5; have hfn := firI_n hth)
              refine id (op_q (q_move rfl (by decide)) ?_)
              refine list_guard_y rfl rfl rfl rfl (by decide) rfl ?_
              refine id (op_q (q_move rfl (by decide)) ?_)
              refine list_guard_y rfl rfl rfl rfl (by decide) rfl ?_
              refine id (op_q (q_bne Tryd.underlying4 rfl rfl (by decide)) ?_)
              refine list_cons rfl (op_q (q_pick rfl rfl (by decide)) ?_)
              refine list_cons rfl (op_q (q_move rfl (by decide)) ?_)
              refine list_guard_d rfl rfl rfl rfl (by decide) rfl (by decide) (fun h6 => ?_) (fun h6 => ?_)
              · simp only [Bool.false_eq_true, if_true, if_false, Decidable.not_not] at h6
                (try simp only [Decidable.not_not] at h6); (try have hok : PairsP ds es := h6); (try have hth : FirstP fs r := h6; have hfn := firI_n hth)
                refine id (op_q (q_move rfl (by decide)) ?_)
                refine list_guard_y rfl rfl rfl rfl (by decide) rfl ?_
                refine id (op_q (q_move rfl (by decide)) ?_)
                refine list_guard_y rfl rfl rfl rfl (by decide) rfl ?_
                refine id (op_call _ (vInts_c _ _ (by first | omega | (simp; omega))) rfl rfl (by decide) (by decide) (by decide) rfl ?_)
                rintro _ rfl
                refine list_guard_y rfl rfl rfl rfl (by decide) rfl ?_
                refine id (op_q (by first | exact q_notd rfl (by decide) | exact q_not rfl (by decide)) ?_)
                refine list_cons rfl (op_q (q_pick rfl rfl (by decide)) ?_)
                refine list_cons rfl (op_q (q_move rfl (by decide)) ?_)
                refine list_guard_d rfl rfl rfl rfl (by decide) rfl (by decide) (fun h7 => ?_) (fun h7 => ?_)
                · simp only [Bool.false_eq_true, if_true, if_false, Decidable.not_not] at h7
                  (try simp only [Decidable.not_not] at h7); (try have hok : PairsP ds es := h7); (try have hth : FirstP fs r := h7; have hfn := firI_n hth)
                  refine id (op_q (q_move rfl (by decide)) ?_)
                  refine list_guard_y rfl rfl rfl rfl (by decide) rfl ?_
                  refine id (op_q (q_move rfl (by decide)) ?_)
                  refine list_guard_y rfl rfl rfl rfl (by decide) rfl ?_
                  refine id (op_q (q_move rfl (by decide)) ?_)
                  refine list_guard_d rfl rfl rfl rfl (by decide) rfl (by decide) (fun h8 => ?_) (fun h8 => ?_)
                  · simp only [Bool.false_eq_true, if_true, if_false, Decidable.not_not] at h8
                    (try simp only [Decidable.not_not] at h8); (try have hok : PairsP ds es := h8); (try have hth : FirstP fs r := h8; have hfn := firI_n hth)
                    refine id (op_q (q_move rfl (by decide)) ?_)
                    refine list_guard_y rfl rfl rfl rfl (by decide) rfl ?_
                    refine id (op_q (q_gt rfl rfl (by decide)) ?_)
                    refine list_guard_y rfl rfl rfl rfl (by decide) rfl ?_
                    refine id (op_q (q_pick rfl rfl (by decide)) ?_)
                    refine list_guard_y rfl rfl rfl rfl (by decide) rfl ?_
                    refine id (op_q (q_bne Tryd.underlying4 rfl rfl (by decide)) ?_)
                    refine list_cons rfl (op_q (q_pick rfl rfl (by decide)) ?_)
                    refine list_nil ?_
                    refine hK13 _ ?_; clear hK13 K13
                    refine codeT.imp (σ' := [(2, .val (.bool _)), (3, .own 35 3 1 _ _), (4, .own 1035 3 1 _ _), (5, .own 41 42 2 _ _), (6, .val (.bool _)), (7, .own 47 42 2 _ _), (8, .val (.bool _)), (9, .bor 53 _), (10, .own 1053 3 1 _ _), (11, .val (.int .i64 _)), (12, .val (.bool _)), (13, .val (.int .i64 _)), (14, .val (.bool _)), (15, .own 71 3 1 _ _), (16, .val (.bool _)), (17, .own 77 3 1 _ _), (18, .val (.bool _)), (118, .val (.bool _))]) ?_ (imp_covers ⟨rfl, rfl, rfl, rfl, rfl, rfl, rfl, rfl, rfl, rfl, rfl, rfl, rfl, rfl, rfl, rfl, rfl, rfl, trivial⟩)
                    refine code_cond_d rfl (fun h9 => ?_) (fun h9 => ?_)
                    · skip
                      (try simp only [Decidable.not_not] at h9); (try have hok : PairsP ds es := h9); (try have hth : FirstP fs r := h9; have hfn := firI_n hth)
                      exfalso
                      first | exact h9 (decide_eq_decide.mpr ⟨fun e => ((first_iff fs r).1 e).2, fun e => (first_iff fs r).2 ⟨by assumption, e⟩⟩) | exact h9 (decide_eq_false fun e => absurd e.1 (by assumption))
                    · skip
                      (try simp only [Decidable.not_not] at h9); (try have hok : PairsP ds es := h9); (try have hth : FirstP fs r := h9; have hfn := firI_n hth)
                      refine code_skip ?_
                      exact then_n (imp_covers ⟨rfl, rfl, rfl, rfl, rfl, rfl, rfl, rfl, rfl, rfl, rfl, rfl, rfl, rfl, rfl, rfl, rfl, trivial⟩)
                  · simp only [Bool.false_eq_true, if_true, if_false, Decidable.not_not] at h8
                    (try simp only [Decidable.not_not] at h8); (try have hok : PairsP ds es := h8); (try have hth : FirstP fs r := h8; have hfn := firI_n hth)
                    refine list_guard_nT rfl rfl rfl rfl (by decide) (by decide) ?_
                    refine list_guard_y rfl rfl rfl rfl (by decide) rfl ?_
                    refine id (op_q (q_pick rfl rfl (by decide)) ?_)
                    refine list_guard_y rfl rfl rfl rfl (by decide) rfl ?_
                    refine id (op_q (q_bne Tryd.underlying4 rfl rfl (by decide)) ?_)
                    refine list_cons rfl (op_q (q_pick rfl rfl (by decide)) ?_)
                    refine list_nil ?_
                    refine hK13 _ ?_; clear hK13 K13
                    refine codeT.imp (σ' := [(2, .val (.bool _)), (3, .own 35 3 1 _ _), (4, .own 1035 3 1 _ _), (5, .own 41 42 2 _ _), (6, .val (.bool _)), (7, .own 47 42 2 _ _), (8, .val (.bool _)), (9, .bor 53 _), (10, .own 1053 3 1 _ _), (11, .val (.int .i64 _)), (12, .val (.bool _)), (13, .val (.int .i64 _)), (14, .val (.bool _)), (15, .own 71 3 1 _ _), (16, .val (.bool _)), (17, .own 77 3 1 _ _), (18, .val (.bool _)), (118, .val (.bool _))]) ?_ (imp_covers ⟨rfl, rfl, rfl, rfl, rfl, rfl, rfl, rfl, rfl, rfl, rfl, rfl, rfl, rfl, rfl, rfl, rfl, rfl, trivial⟩)
                    refine code_cond_d rfl (fun h10 => ?_) (fun h10 => ?_)
                    · skip
                      (try simp only [Decidable.not_not] at h10); (try have hok : PairsP ds es := h10); (try have hth : FirstP fs r := h10; have hfn := firI_n hth)
                      exfalso
                      first | exact h10 (decide_eq_decide.mpr ⟨fun e => ((first_iff fs r).1 e).2, fun e => (first_iff fs r).2 ⟨by assumption, e⟩⟩) | exact h10 (decide_eq_false fun e => absurd e.1 (by assumption))
                    · skip
                      (try simp only [Decidable.not_not] at h10); (try have hok : PairsP ds es := h10); (try have hth : FirstP fs r := h10; have hfn := firI_n hth)
                      refine code_skip ?_
                      exact then_n (imp_covers ⟨rfl, rfl, rfl, rfl, rfl, rfl, rfl, rfl, rfl, rfl, rfl, rfl, rfl, rfl, rfl, rfl, rfl, trivial⟩)
                · simp only [Bool.false_eq_true, if_true, if_false, Decidable.not_not] at h7
                  (try simp only [Decidable.not_not] at h7); (try have hok : PairsP ds es := h7); (try have hth : FirstP fs r := h7; have hfn := firI_n hth)
                  exfalso
                  first | exact absurd rfl h7 | exact h7 trivial | (simp at h7; done)
              · simp only [Bool.false_eq_true, if_true, if_false, Decidable.not_not] at h6
                (try simp only [Decidable.not_not] at h6); (try have hok : PairsP ds es := h6); (try have hth : FirstP fs r := h6; have hfn := firI_n hth)
                exfalso
                first | exact absurd rfl h6 | exact h6 trivial | (simp at h6; done)
            · simp only [Bool.false_eq_true, if_true, if_false, Decidable.not_not] at h5
              (try simp only [Decidable.not_not] at h5); (try have hok : PairsP ds es := h5); (try have hth : FirstP fs r := h5; have hfn := firI_n hth)
              exfalso
              first | exact absurd rfl h5 | exact h5 trivial | (simp at h5; done)
          · simp only [Bool.false_eq_true, if_true, if_false, Decidable.not_not] at h4
            (try simp only [Decidable.not_not] at h4); (try have hok : PairsP ds es := h4); (try have hth : FirstP fs r := h4; have hfn := firI_n hth)
            exfalso
            first | exact absurd rfl h4 | exact h4 trivial | (simp at h4; done)
        · simp only [Bool.false_eq_true, if_true, if_false, Decidable.not_not] at h3
          (try simp only [Decidable.not_not] at h3); (try have hok : PairsP ds es := h3); (try have hth : FirstP fs r := h3; have hfn := firI_n hth)
          exfalso
          first | exact absurd rfl h3 | exact h3 trivial | (simp at h3; done)
      · simp only [Bool.false_eq_true, if_true, if_false, Decidable.not_not] at h2
        (try simp only [Decidable.not_not] at h2); (try have hok : PairsP ds es := h2); (try have hth : FirstP fs r := h2; have hfn := firI_n hth)
        exfalso
        first | exact absurd rfl h2 | exact h2 trivial | (simp at h2; done)
    · skip
      refine codeT.imp (σ' := [(2, .val (.bool _)), (3, .own 35 3 1 _ _), (4, .own 1035 3 1 _ _), (5, .own 41 42 2 _ _), (6, .val (.bool _)), (9, .bor 53 _), (10, .own 1053 3 1 _ _), (15, .own 71 3 1 _ _), (16, .val (.bool _))]) ?_ (imp_covers ⟨rfl, rfl, rfl, rfl, rfl, rfl, rfl, rfl, rfl, trivial⟩)
      refine code_seq_same ?_ ?_
      · skip
        refine code_seq (fun K14 hK14 => ?_)
        refine code_region ?_
        refine list_cons rfl (op_q (q_move rfl (by decide)) ?_)
        refine list_nil ?_
        refine hK14 _ ?_; clear hK14 K14
        refine code_cond_d rfl (fun h11 => ?_) (fun h11 => ?_)
        · skip
          (try simp only [Decidable.not_not] at h11); (try have hok : PairsP ds es := h11); (try have hth : FirstP fs r := h11; have hfn := firI_n hth)
          refine code_seq (fun K15 hK15 => ?_)
          refine code_region ?_
          refine list_cons rfl (op_q (q_assign rfl (by decide)) ?_)
          refine list_nil ?_
          refine hK15 _ ?_; clear hK15 K15
          refine code_block ?_
          refine code_loop (X := Int) (fun x => [(2, .val (.bool false)), (3, .own 35 3 1 ds.length (ds.map (.int .i64))), (4, .own 1035 3 1 es.length (es.map (.int .i64))), (5, .own 41 42 2 (if PairsP ds es then faultsOf ds es else []).length (fl (if PairsP ds es then faultsOf ds es else []))), (6, .val (.bool (decide (PairsP ds es)))), (9, .bor 53 (.sl fs.length (fl fs))), (10, .own 1053 3 1 r.length (r.map (.int .i64))), (15, .own 71 3 1 (if FirstP fs r then firK fs r r.length else []).length ((if FirstP fs r then firK fs r r.length else []).map (.int .i64))), (16, .val (.bool (decide (FirstP fs r)))), (19, .val (.int .i64 x))]) (fun x => 0 ≤ x ∧ x ≤ (if PairsP ds es then faultsOf ds es else []).length) (fun x => (if PairsP ds es then faultsOf ds es else []).length - x.toNat) (_) (imp_covers ⟨rfl, rfl, rfl, rfl, rfl, rfl, rfl, rfl, rfl, rfl, trivial⟩) ?_ ?_
          · (try dsimp only)
            exact ⟨by omega, by omega⟩
          · intro x hI
            revert hI; revert x; intro i hI
            replace hI : 0 ≤ i ∧ i ≤ (if PairsP ds es then faultsOf ds es else []).length := hI
            show codeT _ _ _ [(2, .val (.bool false)), (3, .own 35 3 1 ds.length (ds.map (.int .i64))), (4, .own 1035 3 1 es.length (es.map (.int .i64))), (5, .own 41 42 2 (if PairsP ds es then faultsOf ds es else []).length (fl (if PairsP ds es then faultsOf ds es else []))), (6, .val (.bool (decide (PairsP ds es)))), (9, .bor 53 (.sl fs.length (fl fs))), (10, .own 1053 3 1 r.length (r.map (.int .i64))), (15, .own 71 3 1 (if FirstP fs r then firK fs r r.length else []).length ((if FirstP fs r then firK fs r r.length else []).map (.int .i64))), (16, .val (.bool (decide (FirstP fs r)))), (19, .val (.int .i64 i))] _
            obtain ⟨i1, i2⟩ := hI
            refine code_seq (fun K16 hK16 => ?_)
            refine code_seq (fun K17 hK17 => ?_)
            refine code_region ?_
            refine list_cons rfl (op_q (q_move rfl (by decide)) ?_)
            refine list_cons rfl (op_q (q_move rfl (by decide)) ?_)
            refine list_cons rfl (op_q (q_len_sl Tryd.underlying27 rfl rfl (by decide)) ?_)
            refine list_cons rfl (op_q (q_lt rfl rfl (by decide)) ?_)
            refine list_cons rfl (op_q (q_move rfl (by decide)) ?_)
            refine list_guard_d rfl rfl rfl rfl (by decide) rfl (by decide) (fun h12 => ?_) (fun h12 => ?_)
            · simp only [Bool.false_eq_true, if_true, if_false, Decidable.not_not] at h12
              (try simp only [Decidable.not_not] at h12); (try have hok : PairsP ds es := h12); (try have hth : FirstP fs r := h12; have hfn := firI_n hth)
              refine id (op_q (q_move rfl (by decide)) ?_)
              refine list_guard_y rfl rfl rfl rfl (by decide) rfl ?_
              refine id (op_q (q_lt rfl rfl (by decide)) ?_)
              refine list_cons rfl (op_q (q_pick rfl rfl (by decide)) ?_)
              refine list_nil ?_
              refine hK17 _ ?_; clear hK17 K17
              refine codeT.imp (σ' := [(2, .val (.bool _)), (3, .own 35 3 1 _ _), (4, .own 1035 3 1 _ _), (5, .own 41 42 2 _ _), (6, .val (.bool _)), (9, .bor 53 _), (10, .own 1053 3 1 _ _), (15, .own 71 3 1 _ _), (16, .val (.bool _)), (19, .val (.int .i64 _)), (127, .val (.bool _))]) ?_ (imp_covers ⟨rfl, rfl, rfl, rfl, rfl, rfl, rfl, rfl, rfl, rfl, rfl, trivial⟩)
              refine code_cond_d rfl (fun h13 => ?_) (fun h13 => ?_)
              · skip
                (try simp only [Decidable.not_not] at h13); (try have hok : PairsP ds es := h13); (try have hth : FirstP fs r := h13; have hfn := firI_n hth)
                refine code_skip ?_
                refine hK16 _ ?_; clear hK16 K16
                refine code_seq (fun K18 hK18 => ?_)
                refine code_block ?_
                refine code_seq (fun K19 hK19 => ?_)
                refine code_seq (fun K20 hK20 => ?_)
                refine code_region ?_
                refine list_cons rfl (op_q (q_assign rfl (by decide)) ?_)
                refine list_nil ?_
                refine hK20 _ ?_; clear hK20 K20
                refine code_block ?_
                refine code_loop (X := Int) (fun x => [(2, .val (.bool false)), (3, .own 35 3 1 ds.length (ds.map (.int .i64))), (4, .own 1035 3 1 es.length (es.map (.int .i64))), (5, .own 41 42 2 (if PairsP ds es then faultsOf ds es else []).length (fl (if PairsP ds es then faultsOf ds es else []))), (6, .val (.bool (decide (PairsP ds es)))), (9, .bor 53 (.sl fs.length (fl fs))), (10, .own 1053 3 1 r.length (r.map (.int .i64))), (15, .own 71 3 1 (if FirstP fs r then firK fs r r.length else []).length ((if FirstP fs r then firK fs r r.length else []).map (.int .i64))), (16, .val (.bool (decide (FirstP fs r)))), (19, .val (.int .i64 i)), (20, .val (.int .i64 x))]) (fun x => 0 ≤ x ∧ x ≤ ds.length) (fun x => ds.length - x.toNat) (_) (imp_covers ⟨rfl, rfl, rfl, rfl, rfl, rfl, rfl, rfl, rfl, rfl, rfl, trivial⟩) ?_ ?_
                · (try dsimp only)
                  exact ⟨by omega, by omega⟩
                · intro x hI
                  revert hI; revert x; intro k hI
                  replace hI : 0 ≤ k ∧ k ≤ ds.length := hI
                  show codeT _ _ _ [(2, .val (.bool false)), (3, .own 35 3 1 ds.length (ds.map (.int .i64))), (4, .own 1035 3 1 es.length (es.map (.int .i64))), (5, .own 41 42 2 (if PairsP ds es then faultsOf ds es else []).length (fl (if PairsP ds es then faultsOf ds es else []))), (6, .val (.bool (decide (PairsP ds es)))), (9, .bor 53 (.sl fs.length (fl fs))), (10, .own 1053 3 1 r.length (r.map (.int .i64))), (15, .own 71 3 1 (if FirstP fs r then firK fs r r.length else []).length ((if FirstP fs r then firK fs r r.length else []).map (.int .i64))), (16, .val (.bool (decide (FirstP fs r)))), (19, .val (.int .i64 i)), (20, .val (.int .i64 k))] _
                  obtain ⟨j1, j2⟩ := hI
                  have hpl := hok.1
                  refine code_seq (fun K21 hK21 => ?_)
                  refine code_seq (fun K22 hK22 => ?_)
                  refine code_region ?_
                  refine list_cons rfl (op_q (q_move rfl (by decide)) ?_)
                  refine list_cons rfl (op_q (q_move rfl (by decide)) ?_)
                  refine list_cons rfl (op_q (q_len_sl Tryd.underlying24 rfl rfl (by decide)) ?_)
                  refine list_cons rfl (op_q (q_lt rfl rfl (by decide)) ?_)
                  refine list_nil ?_
                  refine hK22 _ ?_; clear hK22 K22
                  refine code_cond_d rfl (fun h14 => ?_) (fun h14 => ?_)
                  · skip
                    (try simp only [Decidable.not_not] at h14); (try have hok : PairsP ds es := h14); (try have hth : FirstP fs r := h14; have hfn := firI_n hth)
                    refine code_skip ?_
                    refine hK21 _ ?_; clear hK21 K21
                    refine code_seq (fun K23 hK23 => ?_)
                    refine code_block ?_
                    refine code_seq (fun K24 hK24 => ?_)
                    refine code_region ?_
                    refine list_cons rfl (op_q (q_move rfl (by decide)) ?_)
                    refine list_cons rfl (op_q (q_move rfl (by decide)) ?_)
                    refine list_cons rfl (op_q (q_indexAddr_own sl_24 rfl rfl (by omega) (by omega) (by decide)) ?_)
                    refine list_cons rfl (op_q (q_load one_3 3 rfl rfl rfl (by first | rfl | exact get_map1 _ 0 _ (by first | omega | (simp; omega))) (by decide)) ?_)
                    refine list_cons rfl (op_call _ (impl_CellOf _) rfl rfl (by decide) (by decide) (by decide) rfl ?_)
                    rintro _ rfl
                    refine list_cons rfl (op_q (q_move rfl (by decide)) ?_)
                    refine list_cons rfl (op_q (q_extract rfl rfl (by decide)) ?_)
                    refine list_cons rfl (op_q (q_extract rfl rfl (by decide)) ?_)
                    refine list_cons rfl (op_q (q_assign rfl (by decide)) ?_)
                    refine list_cons rfl (op_q (q_assign rfl (by decide)) ?_)
                    refine list_nil ?_
                    refine hK24 _ ?_; clear hK24 K24
                    refine codeT.imp (σ' := [(2, .val (.bool _)), (3, .own 35 3 1 _ _), (4, .own 1035 3 1 _ _), (5, .own 41 42 2 _ _), (6, .val (.bool _)), (9, .bor 53 _), (10, .own 1053 3 1 _ _), (15, .own 71 3 1 _ _), (16, .val (.bool _)), (19, .val (.int .i64 _)), (20, .val (.int .i64 _)), (21, .val (.int .i64 _)), (22, .val (.bool _))]) ?_ (imp_covers ⟨rfl, rfl, rfl, rfl, rfl, rfl, rfl, rfl, rfl, rfl, rfl, rfl, rfl, trivial⟩)
                    refine code_seq (fun K25 hK25 => ?_)
                    refine code_region ?_
                    refine list_cons rfl (op_q (q_move rfl (by decide)) ?_)
                    refine list_cons rfl (op_q (q_move rfl (by decide)) ?_)
                    refine list_cons rfl (op_q (q_indexAddr_own sl_27 rfl rfl (by omega) (by omega) (by decide)) ?_)
                    refine list_cons rfl (op_q (q_load_agg agg_42 5 (.inl rfl) rfl rfl (by rw [fl_len]; omega) (flat_part (fl_flat _) _ _) (by decide)) ?_)
                    refine list_cons rfl (op_q (q_move rfl (by decide)) ?_)
                    refine list_cons rfl (op_call _ (shownE _ _ (by omega)) rfl rfl (by decide) (by decide) (by decide) rfl ?_)
                    rintro _ rfl
                    refine list_cons rfl (op_q (q_move rfl (by decide)) ?_)
                    refine list_cons rfl (op_q (q_extract rfl rfl (by decide)) ?_)
                    refine list_cons rfl (op_q (q_extract rfl rfl (by decide)) ?_)
                    refine list_cons rfl (op_q (q_assign rfl (by decide)) ?_)
                    refine list_cons rfl (op_q (q_assign rfl (by decide)) ?_)
                    refine list_nil ?_
                    refine hK25 _ ?_; clear hK25 K25
                    refine codeT.imp (σ' := [(2, .val (.bool _)), (3, .own 35 3 1 _ _), (4, .own 1035 3 1 _ _), (5, .own 41 42 2 _ _), (6, .val (.bool _)), (9, .bor 53 _), (10, .own 1053 3 1 _ _), (15, .own 71 3 1 _ _), (16, .val (.bool _)), (19, .val (.int .i64 _)), (20, .val (.int .i64 _)), (21, .val (.int .i64 _)), (22, .val (.bool _)), (23, .val (.int .i64 _)), (24, .val (.bool _))]) ?_ (imp_covers ⟨rfl, rfl, rfl, rfl, rfl, rfl, rfl, rfl, rfl, rfl, rfl, rfl, rfl, rfl, rfl, trivial⟩)
                    refine code_seq (fun K26 hK26 => ?_)
                    refine code_region ?_
                    refine list_cons rfl (op_q (q_move rfl (by decide)) ?_)
                    refine list_cons rfl (op_q (by first | exact q_notd rfl (by decide) | exact q_not rfl (by decide)) ?_)
                    refine list_cons rfl (op_q (q_move rfl (by decide)) ?_)
                    refine list_guard_d rfl rfl rfl rfl (by decide) rfl (by decide) (fun h15 => ?_) (fun h15 => ?_)
                    · simp only [Bool.false_eq_true, if_true, if_false, Decidable.not_not] at h15
                      (try simp only [Decidable.not_not] at h15); (try have hok : PairsP ds es := h15); (try have hth : FirstP fs r := h15; have hfn := firI_n hth)
                      refine id (op_q (q_move rfl (by decide)) ?_)
                      refine list_guard_y rfl rfl rfl rfl (by decide) rfl ?_
                      refine id (op_q (by first | exact q_notd rfl (by decide) | exact q_not rfl (by decide)) ?_)
                      refine list_cons rfl (op_q (q_pick rfl rfl (by decide)) ?_)
                      refine list_cons rfl (op_q (q_move rfl (by decide)) ?_)
                      refine list_guard_d rfl rfl rfl rfl (by decide) rfl (by decide) (fun h16 => ?_) (fun h16 => ?_)
                      · simp only [Bool.false_eq_true, if_true, if_false, Decidable.not_not] at h16
                        (try simp only [Decidable.not_not] at h16); (try have hok : PairsP ds es := h16); (try have hth : FirstP fs r := h16; have hfn := firI_n hth)
                        refine id (op_q (q_move rfl (by decide)) ?_)
                        refine list_guard_y rfl rfl rfl rfl (by decide) rfl ?_
                        refine id (op_q (q_move rfl (by decide)) ?_)
                        refine list_guard_y rfl rfl rfl rfl (by decide) rfl ?_
                        refine id (op_q (q_move rfl (by decide)) ?_)
                        refine list_guard_y rfl rfl rfl rfl (by decide) rfl ?_
                        refine id (op_q (q_indexAddr_own sl_24 rfl rfl (by omega) (by omega) (by decide)) ?_)
                        refine list_guard_y rfl rfl rfl rfl (by decide) rfl ?_
                        refine id (op_q (q_load one_3 4 rfl rfl rfl (by first | rfl | exact get_map1 _ 0 _ (by first | omega | (simp; omega))) (by decide)) ?_)
                        refine list_guard_y rfl rfl rfl rfl (by decide) rfl ?_
                        refine id (op_q (q_ne rfl rfl (by decide)) ?_)
                        refine list_cons rfl (op_q (q_pick rfl rfl (by decide)) ?_)
                        refine list_nil ?_
                        refine hK26 _ ?_; clear hK26 K26
                        refine codeT.imp (σ' := [(2, .val (.bool _)), (3, .own 35 3 1 _ _), (4, .own 1035 3 1 _ _), (5, .own 41 42 2 _ _), (6, .val (.bool _)), (9, .bor 53 _), (10, .own 1053 3 1 _ _), (15, .own 71 3 1 _ _), (16, .val (.bool _)), (19, .val (.int .i64 _)), (20, .val (.int .i64 _)), (21, .val (.int .i64 _)), (22, .val (.bool _)), (23, .val (.int .i64 _)), (24, .val (.bool _)), (166, .val (.bool _))]) ?_ (imp_covers ⟨rfl, rfl, rfl, rfl, rfl, rfl, rfl, rfl, rfl, rfl, rfl, rfl, rfl, rfl, rfl, rfl, trivial⟩)
                        refine code_cond_d rfl (fun h17 => ?_) (fun h17 => ?_)
                        · skip
                          (try simp only [Decidable.not_not] at h17); (try have hok : PairsP ds es := h17); (try have hth : FirstP fs r := h17; have hfn := firI_n hth)
                          exfalso
                          exact h17 (sh2 hok (by omega) (by omega))
                        · skip
                          (try simp only [Decidable.not_not] at h17); (try have hok : PairsP ds es := h17); (try have hth : FirstP fs r := h17; have hfn := firI_n hth)
                          refine code_skip ?_
                          refine blk_n ?_
                          refine hK23 _ ?_; clear hK23 K23
                          refine code_region ?_
                          refine list_cons rfl (op_q (q_move rfl (by decide)) ?_)
                          refine list_cons rfl (op_q (by first | exact q_addI rfl rfl (by decide) (by omega) (by omega) | exact q_ib rfl rfl rfl (by decide)) ?_)
                          refine list_cons rfl (op_q (q_assign rfl (by decide)) ?_)
                          refine list_nil ?_
                          refine then_n ⟨(_), imp_covers ⟨rfl, rfl, rfl, rfl, rfl, rfl, rfl, rfl, rfl, rfl, rfl, trivial⟩, ?_, ?_⟩
                          · (try dsimp only)
                            exact ⟨by omega, by omega⟩
                          · (try dsimp only); omega
                      · simp only [Bool.false_eq_true, if_true, if_false, Decidable.not_not] at h16
                        (try simp only [Decidable.not_not] at h16); (try have hok : PairsP ds es := h16); (try have hth : FirstP fs r := h16; have hfn := firI_n hth)
                        exfalso
                        exact h16 (sh1 hok (by omega) (by omega))
                    · simp only [Bool.false_eq_true, if_true, if_false, Decidable.not_not] at h15
                      (try simp only [Decidable.not_not] at h15); (try have hok : PairsP ds es := h15); (try have hth : FirstP fs r := h15; have hfn := firI_n hth)
                      exfalso
                      exact h15 (hok.2.2 k.toNat (by omega)).1
                  · skip
                    (try simp only [Decidable.not_not] at h14); (try have hok : PairsP ds es := h14); (try have hth : FirstP fs r := h14; have hfn := firI_n hth)
                    refine code_exit ?_
                    refine then_x ?_; clear hK21 K21
                    refine then_x ?_
                    refine blk_hit ?_
                    refine hK19 _ ?_; clear hK19 K19
                    refine code_seq (fun K27 hK27 => ?_)
                    refine code_draw (by kernel_rfl) (by kernel_rfl) ?_
                    refine draw_q rfl (q_move rfl (by decide)) ?_
                    refine draw_q rfl (q_gt rfl rfl (by decide)) ?_
                    refine draw_q rfl (q_move rfl (by decide)) ?_
                    refine draw_guard_d rfl rfl rfl rfl (by decide) rfl (by decide) (fun h18 => q_move rfl (by decide)) (fun h18 => ?_) (fun h18 => ?_)
                    · simp only [Bool.false_eq_true, if_true, if_false, Decidable.not_not] at h18
                      (try simp only [Decidable.not_not] at h18); (try have hok : PairsP ds es := h18); (try have hth : FirstP fs r := h18; have hfn := firI_n hth)
                      refine draw_guard_y rfl rfl rfl rfl (by decide) rfl (q_move rfl (by decide)) ?_
                      refine draw_guard_y rfl rfl rfl rfl (by decide) rfl (q_indexAddr_own sl_27 rfl rfl (by omega) (by omega) (by decide)) ?_
                      refine draw_guard_y rfl rfl rfl rfl (by decide) rfl (q_fieldAddr fi_42_0 rfl rfl (by decide)) ?_
                      refine draw_guard_y rfl rfl rfl rfl (by decide) rfl (q_load one_3 5 rfl rfl rfl (by first | exact fl_ld0 (by omega) | exact fl_ld1 (by omega)) (by decide)) ?_
                      refine draw_guard_y rfl rfl rfl rfl (by decide) rfl (q_move rfl (by decide)) ?_
                      refine draw_guard_y rfl rfl rfl rfl (by decide) rfl (q_move rfl (by decide)) ?_
                      refine draw_guard_y rfl rfl rfl rfl (by decide) rfl (by first | exact q_subI rfl rfl (by decide) (by omega) (by omega) | exact q_ib rfl rfl rfl (by decide)) ?_
                      refine draw_guard_y rfl rfl rfl rfl (by decide) rfl (q_indexAddr_own sl_27 rfl rfl (by omega) (by omega) (by decide)) ?_
                      refine draw_guard_y rfl rfl rfl rfl (by decide) rfl (q_fieldAddr fi_42_0 rfl rfl (by decide)) ?_
                      refine draw_guard_y rfl rfl rfl rfl (by decide) rfl (q_load one_3 5 rfl rfl rfl (by first | exact fl_ld0 (by omega) | exact fl_ld1 (by omega)) (by decide)) ?_
                      refine draw_guard_y rfl rfl rfl rfl (by decide) rfl (q_lt rfl rfl (by decide)) ?_
                      refine draw_guard_y rfl rfl rfl rfl (by decide) rfl (q_move rfl (by decide)) ?_
                      refine draw_guard_d rfl rfl rfl rfl (by decide) rfl (by decide) (fun h19 => q_move rfl (by decide)) (fun h19 => ?_) (fun h19 => ?_)
                      · simp only [Bool.false_eq_true, if_true, if_false, Decidable.not_not] at h19
                        (try simp only [Decidable.not_not] at h19); (try have hok : PairsP ds es := h19); (try have hth : FirstP fs r := h19; have hfn := firI_n hth)
                        refine draw_guard_y rfl rfl rfl rfl (by decide) rfl (q_move rfl (by decide)) ?_
                        refine draw_guard_y rfl rfl rfl rfl (by decide) rfl (q_indexAddr_own sl_27 rfl rfl (by omega) (by omega) (by decide)) ?_
                        refine draw_guard_y rfl rfl rfl rfl (by decide) rfl (q_fieldAddr fi_42_0 rfl rfl (by decide)) ?_
                        refine draw_guard_y rfl rfl rfl rfl (by decide) rfl (q_load one_3 5 rfl rfl rfl (by first | exact fl_ld0 (by omega) | exact fl_ld1 (by omega)) (by decide)) ?_
                        refine draw_guard_y rfl rfl rfl rfl (by decide) rfl (q_move rfl (by decide)) ?_
                        refine draw_guard_y rfl rfl rfl rfl (by decide) rfl (q_move rfl (by decide)) ?_
                        refine draw_guard_y rfl rfl rfl rfl (by decide) rfl (by first | exact q_subI rfl rfl (by decide) (by omega) (by omega) | exact q_ib rfl rfl rfl (by decide)) ?_
                        refine draw_guard_y rfl rfl rfl rfl (by decide) rfl (q_indexAddr_own sl_27 rfl rfl (by omega) (by omega) (by decide)) ?_
                        refine draw_guard_y rfl rfl rfl rfl (by decide) rfl (q_fieldAddr fi_42_0 rfl rfl (by decide)) ?_
                        refine draw_guard_y rfl rfl rfl rfl (by decide) rfl (q_load one_3 5 rfl rfl rfl (by first | exact fl_ld0 (by omega) | exact fl_ld1 (by omega)) (by decide)) ?_
                        refine draw_guard_y rfl rfl rfl rfl (by decide) rfl (q_eq rfl rfl (by decide)) ?_
                        refine draw_guard_y rfl rfl rfl rfl (by decide) rfl (q_move rfl (by decide)) ?_
                        refine draw_guard_d rfl rfl rfl rfl (by decide) rfl (by decide) (fun h20 => q_move rfl (by decide)) (fun h20 => ?_) (fun h20 => ?_)
                        · simp only [Bool.false_eq_true, if_true, if_false, Decidable.not_not] at h20
                          (try simp only [Decidable.not_not] at h20); (try have hok : PairsP ds es := h20); (try have hth : FirstP fs r := h20; have hfn := firI_n hth)
                          refine draw_guard_y rfl rfl rfl rfl (by decide) rfl (q_move rfl (by decide)) ?_
                          refine draw_guard_y rfl rfl rfl rfl (by decide) rfl (q_indexAddr_own sl_27 rfl rfl (by omega) (by omega) (by decide)) ?_
                          refine draw_guard_y rfl rfl rfl rfl (by decide) rfl (q_fieldAddr fi_42_1 rfl rfl (by decide)) ?_
                          refine draw_guard_y rfl rfl rfl rfl (by decide) rfl (q_load one_3 5 rfl rfl rfl (by first | exact fl_ld0 (by omega) | exact fl_ld1 (by omega)) (by decide)) ?_
                          refine draw_guard_y rfl rfl rfl rfl (by decide) rfl (q_move rfl (by decide)) ?_
                          refine draw_guard_y rfl rfl rfl rfl (by decide) rfl (q_move rfl (by decide)) ?_
                          refine draw_guard_y rfl rfl rfl rfl (by decide) rfl (by first | exact q_subI rfl rfl (by decide) (by omega) (by omega) | exact q_ib rfl rfl rfl (by decide)) ?_
                          refine draw_guard_y rfl rfl rfl rfl (by decide) rfl (q_indexAddr_own sl_27 rfl rfl (by omega) (by omega) (by decide)) ?_
                          refine draw_guard_y rfl rfl rfl rfl (by decide) rfl (q_fieldAddr fi_42_1 rfl rfl (by decide)) ?_
                          refine draw_guard_y rfl rfl rfl rfl (by decide) rfl (q_load one_3 5 rfl rfl rfl (by first | exact fl_ld0 (by omega) | exact fl_ld1 (by omega)) (by decide)) ?_
                          refine draw_guard_y rfl rfl rfl rfl (by decide) rfl (q_le rfl rfl (by decide)) ?_
                          refine draw_guard_y rfl rfl rfl rfl (by decide) rfl (q_pick rfl rfl (by decide)) ?_
                          refine draw_guard_y rfl rfl rfl rfl (by decide) rfl (q_pick rfl rfl (by decide)) ?_
                          refine draw_q rfl (q_pick rfl rfl (by decide)) ?_
                          refine draw_nil ?_
                          refine hK27 _ ?_; clear hK27 K27
                          refine codeT.imp (σ' := [(2, .val (.bool _)), (3, .own 35 3 1 _ _), (4, .own 1035 3 1 _ _), (5, .own 41 42 2 _ _), (6, .val (.bool _)), (9, .bor 53 _), (10, .own 1053 3 1 _ _), (15, .own 71 3 1 _ _), (16, .val (.bool _)), (19, .val (.int .i64 _)), (20, .val (.int .i64 _)), (210, .val (.bool _))]) ?_ (imp_covers ⟨rfl, rfl, rfl, rfl, rfl, rfl, rfl, rfl, rfl, rfl, rfl, rfl, trivial⟩)
                          refine code_cond_d rfl (fun h21 => ?_) (fun h21 => ?_)
                          · skip
                            (try simp only [Decidable.not_not] at h21); (try have hok : PairsP ds es := h21); (try have hth : FirstP fs r := h21; have hfn := firI_n hth)
                            exfalso
                            have hlt := foundI_lt hok (i := i) (by omega) (by omega)
                            have hlt2 := hlt.2 (by assumption)
                            omega
                          · skip
                            (try simp only [Decidable.not_not] at h21); (try have hok : PairsP ds es := h21); (try have hth : FirstP fs r := h21; have hfn := firI_n hth)
                            refine code_skip ?_
                            refine blk_n ?_
                            refine hK18 _ ?_; clear hK18 K18
                            refine code_region ?_
                            refine list_cons rfl (op_q (q_move rfl (by decide)) ?_)
                            refine list_cons rfl (op_q (by first | exact q_addI rfl rfl (by decide) (by omega) (by omega) | exact q_ib rfl rfl rfl (by decide)) ?_)
                            refine list_cons rfl (op_q (q_assign rfl (by decide)) ?_)
                            refine list_nil ?_
                            refine then_n ⟨(_), imp_covers ⟨rfl, rfl, rfl, rfl, rfl, rfl, rfl, rfl, rfl, rfl, trivial⟩, ?_, ?_⟩
                            · (try dsimp only)
                              exact ⟨by omega, by omega⟩
                            · (try dsimp only); omega
                        · simp only [Bool.false_eq_true, if_true, if_false, Decidable.not_not] at h20
                          (try simp only [Decidable.not_not] at h20); (try have hok : PairsP ds es := h20); (try have hth : FirstP fs r := h20; have hfn := firI_n hth)
                          refine draw_guard_nT rfl rfl rfl rfl (by decide) (by decide) ?_
                          refine draw_guard_nT rfl rfl rfl rfl (by decide) (by decide) ?_
                          refine draw_guard_nT rfl rfl rfl rfl (by decide) (by decide) ?_
                          refine draw_guard_nT rfl rfl rfl rfl (by decide) (by decide) ?_
                          refine draw_guard_nT rfl rfl rfl rfl (by decide) (by decide) ?_
                          refine draw_guard_nT rfl rfl rfl rfl (by decide) (by decide) ?_
                          refine draw_guard_nT rfl rfl rfl rfl (by decide) (by decide) ?_
                          refine draw_guard_nT rfl rfl rfl rfl (by decide) (by decide) ?_
                          refine draw_guard_nT rfl rfl rfl rfl (by decide) (by decide) ?_
                          refine draw_guard_nT rfl rfl rfl rfl (by decide) (by decide) ?_
                          refine draw_guard_nT rfl rfl rfl rfl (by decide) (by decide) ?_
                          refine draw_guard_y rfl rfl rfl rfl (by decide) rfl (q_pick rfl rfl (by decide)) ?_
                          refine draw_guard_y rfl rfl rfl rfl (by decide) rfl (q_pick rfl rfl (by decide)) ?_
                          refine draw_q rfl (q_pick rfl rfl (by decide)) ?_
                          refine draw_nil ?_
                          refine hK27 _ ?_; clear hK27 K27
                          refine codeT.imp (σ' := [(2, .val (.bool _)), (3, .own 35 3 1 _ _), (4, .own 1035 3 1 _ _), (5, .own 41 42 2 _ _), (6, .val (.bool _)), (9, .bor 53 _), (10, .own 1053 3 1 _ _), (15, .own 71 3 1 _ _), (16, .val (.bool _)), (19, .val (.int .i64 _)), (20, .val (.int .i64 _)), (210, .val (.bool _))]) ?_ (imp_covers ⟨rfl, rfl, rfl, rfl, rfl, rfl, rfl, rfl, rfl, rfl, rfl, rfl, trivial⟩)
                          refine code_cond_f rfl ?_
                          refine code_skip ?_
                          refine blk_n ?_
                          refine hK18 _ ?_; clear hK18 K18
                          refine code_region ?_
                          refine list_cons rfl (op_q (q_move rfl (by decide)) ?_)
                          refine list_cons rfl (op_q (by first | exact q_addI rfl rfl (by decide) (by omega) (by omega) | exact q_ib rfl rfl rfl (by decide)) ?_)
                          refine list_cons rfl (op_q (q_assign rfl (by decide)) ?_)
                          refine list_nil ?_
                          refine then_n ⟨(_), imp_covers ⟨rfl, rfl, rfl, rfl, rfl, rfl, rfl, rfl, rfl, rfl, trivial⟩, ?_, ?_⟩
                          · (try dsimp only)
                            exact ⟨by omega, by omega⟩
                          · (try dsimp only); omega
                      · simp only [Bool.false_eq_true, if_true, if_false, Decidable.not_not] at h19
                        (try simp only [Decidable.not_not] at h19); (try have hok : PairsP ds es := h19); (try have hth : FirstP fs r := h19; have hfn := firI_n hth)
                        exfalso
                        have hlt := foundI_lt hok (i := i) (by omega) (by omega)
                        omega
                    · simp only [Bool.false_eq_true, if_true, if_false, Decidable.not_not] at h18
                      (try simp only [Decidable.not_not] at h18); (try have hok : PairsP ds es := h18); (try have hth : FirstP fs r := h18; have hfn := firI_n hth)
                      refine draw_guard_nT rfl rfl rfl rfl (by decide) (by decide) ?_
                      refine draw_guard_nT rfl rfl rfl rfl (by decide) (by decide) ?_
                      refine draw_guard_nT rfl rfl rfl rfl (by decide) (by decide) ?_
                      refine draw_guard_nT rfl rfl rfl rfl (by decide) (by decide) ?_
                      refine draw_guard_nT rfl rfl rfl rfl (by decide) (by decide) ?_
                      refine draw_guard_nT rfl rfl rfl rfl (by decide) (by decide) ?_
                      refine draw_guard_nT rfl rfl rfl rfl (by decide) (by decide) ?_
                      refine draw_guard_nT rfl rfl rfl rfl (by decide) (by decide) ?_
                      refine draw_guard_nT rfl rfl rfl rfl (by decide) (by decide) ?_
                      refine draw_guard_nT rfl rfl rfl rfl (by decide) (by decide) ?_
                      refine draw_guard_nT rfl rfl rfl rfl (by decide) (by decide) ?_
                      refine draw_guard_nT rfl rfl rfl rfl (by decide) (by decide) ?_
                      refine draw_guard_u rfl rfl rfl rfl (by decide) (by decide) ?_
                      refine draw_guard_u rfl rfl rfl rfl (by decide) (by decide) ?_
                      refine draw_guard_u rfl rfl rfl rfl (by decide) (by decide) ?_
                      refine draw_guard_u rfl rfl rfl rfl (by decide) (by decide) ?_
                      refine draw_guard_u rfl rfl rfl rfl (by decide) (by decide) ?_
                      refine draw_guard_u rfl rfl rfl rfl (by decide) (by decide) ?_
                      refine draw_guard_u rfl rfl rfl rfl (by decide) (by decide) ?_
                      refine draw_guard_u rfl rfl rfl rfl (by decide) (by decide) ?_
                      refine draw_guard_u rfl rfl rfl rfl (by decide) (by decide) ?_
                      refine draw_guard_u rfl rfl rfl rfl (by decide) (by decide) ?_
                      refine draw_guard_u rfl rfl rfl rfl (by decide) (by decide) ?_
                      refine draw_guard_u rfl rfl rfl rfl (by decide) (by decide) ?_
                      refine draw_guard_u rfl rfl rfl rfl (by decide) (by decide) ?_
                      refine draw_guard_u rfl rfl rfl rfl (by decide) (by decide) ?_
                      refine draw_guard_u rfl rfl rfl rfl (by decide) (by decide) ?_
                      refine draw_guard_u rfl rfl rfl rfl (by decide) (by decide) ?_
                      refine draw_guard_u rfl rfl rfl rfl (by decide) (by decide) ?_
                      refine draw_guard_u rfl rfl rfl rfl (by decide) (by decide) ?_
                      refine draw_guard_u rfl rfl rfl rfl (by decide) (by decide) ?_
                      refine draw_guard_u rfl rfl rfl rfl (by decide) (by decide) ?_
                      refine draw_guard_u rfl rfl rfl rfl (by decide) (by decide) ?_
                      refine draw_guard_u rfl rfl rfl rfl (by decide) (by decide) ?_
                      refine draw_guard_u rfl rfl rfl rfl (by decide) (by decide) ?_
                      refine draw_guard_u rfl rfl rfl rfl (by decide) (by decide) ?_
                      refine draw_guard_u rfl rfl rfl rfl (by decide) (by decide) ?_
                      refine draw_guard_u rfl rfl rfl rfl (by decide) (by decide) ?_
                      refine draw_guard_nT rfl rfl rfl rfl (by decide) (by decide) ?_
                      refine draw_q rfl (q_pick rfl rfl (by decide)) ?_
                      refine draw_nil ?_
                      refine hK27 _ ?_; clear hK27 K27
                      refine codeT.imp (σ' := [(2, .val (.bool _)), (3, .own 35 3 1 _ _), (4, .own 1035 3 1 _ _), (5, .own 41 42 2 _ _), (6, .val (.bool _)), (9, .bor 53 _), (10, .own 1053 3 1 _ _), (15, .own 71 3 1 _ _), (16, .val (.bool _)), (19, .val (.int .i64 _)), (20, .val (.int .i64 _)), (210, .val (.bool _))]) ?_ (imp_covers ⟨rfl, rfl, rfl, rfl, rfl, rfl, rfl, rfl, rfl, rfl, rfl, rfl, trivial⟩)
                      refine code_cond_f rfl ?_
                      refine code_skip ?_
                      refine blk_n ?_
                      refine hK18 _ ?_; clear hK18 K18
                      refine code_region ?_
                      refine list_cons rfl (op_q (q_move rfl (by decide)) ?_)
                      refine list_cons rfl (op_q (by first | exact q_addI rfl rfl (by decide) (by omega) (by omega) | exact q_ib rfl rfl rfl (by decide)) ?_)
                      refine list_cons rfl (op_q (q_assign rfl (by decide)) ?_)
                      refine list_nil ?_
                      refine then_n ⟨(_), imp_covers ⟨rfl, rfl, rfl, rfl, rfl, rfl, rfl, rfl, rfl, rfl, trivial⟩, ?_, ?_⟩
                      · (try dsimp only)
                        exact ⟨by omega, by omega⟩
                      · (try dsimp only); omega
              · skip
                (try simp only [Decidable.not_not] at h13); (try have hok : PairsP ds es := h13); (try have hth : FirstP fs r := h13; have hfn := firI_n hth)
                refine code_exit ?_
                refine then_x ?_; clear hK16 K16
                refine then_x ?_
                refine blk_hit ?_
                exact then_n (imp_covers ⟨rfl, rfl, rfl, rfl, rfl, rfl, rfl, rfl, rfl, trivial⟩)
            · simp only [Bool.false_eq_true, if_true, if_false, Decidable.not_not] at h12
              (try simp only [Decidable.not_not] at h12); (try have hok : PairsP ds es := h12); (try have hth : FirstP fs r := h12; have hfn := firI_n hth)
              refine list_guard_nT rfl rfl rfl rfl (by decide) (by decide) ?_
              refine list_cons rfl (op_q (q_pick rfl rfl (by decide)) ?_)
              refine list_nil ?_
              refine hK17 _ ?_; clear hK17 K17
              refine code_cond_f rfl ?_
              refine code_exit ?_
              refine then_x ?_; clear hK16 K16
              refine then_x ?_
              refine blk_hit ?_
              exact then_n (imp_covers ⟨rfl, rfl, rfl, rfl, rfl, rfl, rfl, rfl, rfl, trivial⟩)
        · skip
          (try simp only [Decidable.not_not] at h11); (try have hok : PairsP ds es := h11); (try have hth : FirstP fs r := h11; have hfn := firI_n hth)
          refine code_skip ?_
          exact then_n (imp_covers ⟨rfl, rfl, rfl, rfl, rfl, rfl, rfl, rfl, rfl, trivial⟩)
      · skip
        refine code_seq (fun K28 hK28 => ?_)
        refine code_seq (fun K29 hK29 => ?_)
        refine code_region ?_
        refine list_cons rfl (op_q (q_move rfl (by decide)) ?_)
        refine list_nil ?_
        refine hK29 _ ?_; clear hK29 K29
        refine code_cond_d rfl (fun h22 => ?_) (fun h22 => ?_)
        · skip
          (try simp only [Decidable.not_not] at h22); (try have hok : PairsP ds es := h22); (try have hth : FirstP fs r := h22; have hfn := firI_n hth)
          refine code_seq (fun K30 hK30 => ?_)
          refine code_region ?_
          refine list_cons rfl (op_buildSlice sl_24 (parts := []) rfl rfl rfl (by decide) (by decide) (by decide) rfl ?_)
          refine list_cons rfl (op_q (q_assign rfl (by decide)) ?_)
          refine list_nil ?_
          refine hK30 _ ?_; clear hK30 K30
          refine code_seq (fun K31 hK31 => ?_)
          refine code_seq (fun K32 hK32 => ?_)
          refine code_region ?_
          refine list_cons rfl (op_q (q_assign rfl (by decide)) ?_)
          refine list_nil ?_
          refine hK32 _ ?_; clear hK32 K32
          refine code_block ?_
          refine code_loop (X := Nat × List PV × Nat × List PV × Nat × List PV × Bool × Bool × Nat × List PV × Int) (fun x => [(2, .val (.bool false)), (3, .own 35 3 1 x.1 x.2.1), (4, .own 1035 3 1 x.2.2.1 x.2.2.2.1), (5, .own 41 42 2 x.2.2.2.2.1 x.2.2.2.2.2.1), (6, .val (.bool x.2.2.2.2.2.2.1)), (9, .bor 53 (.sl fs.length (fl fs))), (10, .own 1053 3 1 r.length (r.map (.int .i64))), (15, .own 71 3 1 (if FirstP fs r then firK fs r r.length else []).length ((if FirstP fs r then firK fs r r.length else []).map (.int .i64))), (16, .val (.bool x.2.2.2.2.2.2.2.1)), (25, .own 212 3 1 x.2.2.2.2.2.2.2.2.1 x.2.2.2.2.2.2.2.2.2.1), (26, .val (.int .i64 x.2.2.2.2.2.2.2.2.2.2))]) (fun x => 0 ≤ x.2.2.2.2.2.2.2.2.2.2 ∧ x.2.2.2.2.2.2.2.2.2.2 ≤ r.length ∧ ∃ L : List Int, x.2.2.2.2.2.2.2.2.1 = L.length ∧ x.2.2.2.2.2.2.2.2.2.1 = L.map (.int .i64) ∧ L = cR (firK fs r r.length) x.2.2.2.2.2.2.2.2.2.2.toNat ∧ (L.length : Int) = x.2.2.2.2.2.2.2.2.2.2) (fun x => r.length - x.2.2.2.2.2.2.2.2.2.2.toNat) (_, _, _, _, _, _, _, _, _, _, _) (imp_covers ⟨rfl, rfl, rfl, rfl, rfl, rfl, rfl, rfl, rfl, rfl, rfl, trivial⟩) ?_ ?_
          · (try dsimp only)
            exact ⟨by omega, by omega, [], rfl, rfl, rfl, rfl⟩
          · intro x hI
            obtain ⟨digits_n, digits_c, cells_n, cells_c, list_n, list_c, ok, there, row_n, row_c, i⟩ := x
            replace hI : 0 ≤ i ∧ i ≤ r.length ∧ ∃ L : List Int, row_n = L.length ∧ row_c = L.map (.int .i64) ∧ L = cR (firK fs r r.length) i.toNat ∧ (L.length : Int) = i := hI
            show codeT _ _ _ [(2, .val (.bool false)), (3, .own 35 3 1 digits_n digits_c), (4, .own 1035 3 1 cells_n cells_c), (5, .own 41 42 2 list_n list_c), (6, .val (.bool ok)), (9, .bor 53 (.sl fs.length (fl fs))), (10, .own 1053 3 1 r.length (r.map (.int .i64))), (15, .own 71 3 1 (if FirstP fs r then firK fs r r.length else []).length ((if FirstP fs r then firK fs r r.length else []).map (.int .i64))), (16, .val (.bool there)), (25, .own 212 3 1 row_n row_c), (26, .val (.int .i64 i))] _
            obtain ⟨i1, i2, L, rfl, rfl, hL, hLn⟩ := hI
            refine code_seq (fun K33 hK33 => ?_)
            refine code_seq (fun K34 hK34 => ?_)
            refine code_region ?_
            refine list_cons rfl (op_q (q_move rfl (by decide)) ?_)
            refine list_cons rfl (op_q (q_move rfl (by decide)) ?_)
            refine list_cons rfl (op_q (q_len_sl Tryd.underlying24 rfl rfl (by decide)) ?_)
            refine list_cons rfl (op_q (q_lt rfl rfl (by decide)) ?_)
            refine list_nil ?_
            refine hK34 _ ?_; clear hK34 K34
            refine code_cond_d rfl (fun h23 => ?_) (fun h23 => ?_)
            · skip
              (try simp only [Decidable.not_not] at h23); (try have hok : PairsP ds es := h23); (try have hth : FirstP fs r := h23; have hfn := firI_n hth)
              refine code_skip ?_
              refine hK33 _ ?_; clear hK33 K33
              refine code_seq (fun K35 hK35 => ?_)
              refine code_block ?_
              refine code_seq (fun K36 hK36 => ?_)
              refine code_region ?_
              refine list_cons rfl (op_q (q_move rfl (by decide)) ?_)
              refine list_cons rfl (op_q (q_move rfl (by decide)) ?_)
              refine list_cons rfl (op_q (q_indexAddr_own sl_24 rfl rfl (by omega) (by omega) (by decide)) ?_)
              refine list_cons rfl (op_q (q_load one_3 15 rfl rfl rfl (by first | rfl | exact get_map1 _ 0 _ (by first | omega | (simp; omega))) (by decide)) ?_)
              refine list_cons rfl (op_call _ (impl_CellOf _) rfl rfl (by decide) (by decide) (by decide) rfl ?_)
              rintro _ rfl
              refine list_cons rfl (op_q (q_move rfl (by decide)) ?_)
              refine list_cons rfl (op_q (q_extract rfl rfl (by decide)) ?_)
              refine list_cons rfl (op_q (q_extract rfl rfl (by decide)) ?_)
              refine list_cons rfl (op_q (q_assign rfl (by decide)) ?_)
              refine list_cons rfl (op_q (q_assign rfl (by decide)) ?_)
              refine list_nil ?_
              refine hK36 _ ?_; clear hK36 K36
              refine codeT.imp (σ' := [(2, .val (.bool _)), (3, .own 35 3 1 _ _), (4, .own 1035 3 1 _ _), (5, .own 41 42 2 _ _), (6, .val (.bool _)), (9, .bor 53 _), (10, .own 1053 3 1 _ _), (15, .own 71 3 1 _ _), (16, .val (.bool _)), (25, .own 212 3 1 _ _), (26, .val (.int .i64 _)), (27, .val (.int .i64 _)), (28, .val (.bool _))]) ?_ (imp_covers ⟨rfl, rfl, rfl, rfl, rfl, rfl, rfl, rfl, rfl, rfl, rfl, rfl, rfl, trivial⟩)
              refine code_seq (fun K37 hK37 => ?_)
              refine code_seq (fun K38 hK38 => ?_)
              refine code_region ?_
              refine list_cons rfl (op_q (q_move rfl (by decide)) ?_)
              refine list_cons rfl (op_q (by first | exact q_notd rfl (by decide) | exact q_not rfl (by decide)) ?_)
              refine list_nil ?_
              refine hK38 _ ?_; clear hK38 K38
              refine code_cond_d rfl (fun h24 => ?_) (fun h24 => ?_)
              · skip
                (try simp only [Decidable.not_not] at h24); (try have hok : PairsP ds es := h24); (try have hth : FirstP fs r := h24; have hfn := firI_n hth)
                exfalso
                exact h24 (fir1 hth (by omega))
              · skip
                (try simp only [Decidable.not_not] at h24); (try have hok : PairsP ds es := h24); (try have hth : FirstP fs r := h24; have hfn := firI_n hth)
                refine code_skip ?_
                refine hK37 _ ?_; clear hK37 K37
                refine code_region ?_
                refine list_cons rfl (op_q (q_move rfl (by decide)) ?_)
                refine list_cons rfl (op_q (q_move rfl (by decide)) ?_)
                refine list_cons rfl (op_buildSlice sl_24 (parts := [(0, .tmp 230)]) rfl rfl rfl (by decide) (by decide) (by decide) rfl ?_)
                refine list_cons rfl (op_append_gen sl_24 (l := 212) (.inl rfl) rfl rfl (l2 := none) (.inl ⟨rfl, (by first | rfl | exact flat_map _ (fun _ => rfl) _)⟩) (by first | rfl | simp | omega) (by omega) (by decide) (by decide) (by decide) ?_)
                refine list_cons rfl (op_q (q_assign rfl (by decide)) ?_)
                refine list_nil ?_
                refine blk_n ?_
                refine hK35 _ ?_; clear hK35 K35
                refine codeT.imp (σ' := [(2, .val (.bool _)), (3, .own 35 3 1 _ _), (4, .own 1035 3 1 _ _), (5, .own 41 42 2 _ _), (6, .val (.bool _)), (9, .bor 53 _), (10, .own 1053 3 1 _ _), (15, .own 71 3 1 _ _), (16, .val (.bool _)), (25, .own 212 3 1 _ _), (26, .val (.int .i64 _)), (27, .val (.int .i64 _)), (28, .val (.bool _))]) ?_ (imp_covers ⟨rfl, rfl, rfl, rfl, rfl, rfl, rfl, rfl, rfl, rfl, rfl, rfl, rfl, trivial⟩)
                refine code_region ?_
                refine list_cons rfl (op_q (q_move rfl (by decide)) ?_)
                refine list_cons rfl (op_q (by first | exact q_addI rfl rfl (by decide) (by omega) (by omega) | exact q_ib rfl rfl rfl (by decide)) ?_)
                refine list_cons rfl (op_q (q_assign rfl (by decide)) ?_)
                refine list_nil ?_
                refine then_n ⟨(_, _, _, _, _, _, _, _, _, _, _), imp_covers ⟨rfl, rfl, rfl, rfl, rfl, rfl, rfl, rfl, rfl, rfl, rfl, trivial⟩, ?_, ?_⟩
                · (try dsimp only)
                  have hx : i.toNat < r.length := by omega
                  refine ⟨by omega, by omega, cR (firK fs r r.length) (i.toNat + 1), ?_, ?_, by rw [show (i + 1).toNat = i.toNat + 1 by omega], ?_⟩
                  · rw [fir2 hth hx, ← hL]; simp
                  · rw [fir2 hth hx, ← hL]; exact row_snoc L _
                  · rw [cR_len _ (by rw [firK_len]; omega)]; omega
                · (try dsimp only); omega
            · skip
              (try simp only [Decidable.not_not] at h23); (try have hok : PairsP ds es := h23); (try have hth : FirstP fs r := h23; have hfn := firI_n hth)
              refine code_exit ?_
              refine then_x ?_; clear hK33 K33
              refine then_x ?_
              refine blk_hit ?_
              refine hK31 _ ?_; clear hK31 K31
              refine code_seq (fun K39 hK39 => ?_)
              refine code_region ?_
              refine list_cons rfl (op_q (q_move rfl (by decide)) ?_)
              refine list_cons rfl (op_q (q_move rfl (by decide)) ?_)
              refine list_cons rfl (op_call _ (impl_ShownRow _ _ (by omega) (by omega)) rfl rfl (by decide) (by decide) (by decide) rfl ?_)
              rintro _ rfl
              refine list_cons rfl (op_q (q_move rfl (by decide)) ?_)
              refine list_cons rfl (op_q (q_extract rfl rfl (by decide)) ?_)
              refine list_cons rfl (op_q (q_extract rfl rfl (by decide)) ?_)
              refine list_cons rfl (op_q (q_assign rfl (by decide)) ?_)
              refine list_cons rfl (op_q (q_assign rfl (by decide)) ?_)
              refine list_nil ?_
              refine hK39 _ ?_; clear hK39 K39
              refine codeT.imp (σ' := [(2, .val (.bool _)), (3, .own 35 3 1 _ _), (4, .own 1035 3 1 _ _), (5, .own 41 42 2 _ _), (6, .val (.bool _)), (9, .bor 53 _), (10, .own 1053 3 1 _ _), (15, .own 71 3 1 _ _), (16, .val (.bool _)), (25, .own 212 3 1 _ _), (26, .val (.int .i64 _)), (29, .own 236 3 1 _ _), (30, .val (.bool _))]) ?_ (imp_covers ⟨rfl, rfl, rfl, rfl, rfl, rfl, rfl, rfl, rfl, rfl, rfl, rfl, rfl, trivial⟩)
              refine code_seq (fun K40 hK40 => ?_)
              refine code_region ?_
              refine list_cons rfl (op_q (q_move rfl (by decide)) ?_)
              refine list_cons rfl (op_q (q_move rfl (by decide)) ?_)
              refine list_guard_d rfl rfl rfl rfl (by decide) rfl (by decide) (fun h25 => ?_) (fun h25 => ?_)
              · simp only [Bool.false_eq_true, if_true, if_false, Decidable.not_not] at h25
                (try simp only [Decidable.not_not] at h25); (try have hok : PairsP ds es := h25); (try have hth : FirstP fs r := h25; have hfn := firI_n hth)
                refine id (op_q (q_move rfl (by decide)) ?_)
                refine list_guard_y rfl rfl rfl rfl (by decide) rfl ?_
                refine id (op_q (q_move rfl (by decide)) ?_)
                refine list_guard_y rfl rfl rfl rfl (by decide) rfl ?_
                refine id (op_call _ (vInts_c _ _ (by first | omega | exact shI_len _ _)) rfl rfl (by decide) (by decide) (by decide) rfl ?_)
                rintro _ rfl
                refine list_cons rfl (op_q (q_pick rfl rfl (by decide)) ?_)
                refine list_cons rfl (op_q (q_assign rfl (by decide)) ?_)
                refine list_nil ?_
                refine hK40 _ ?_; clear hK40 K40
                refine codeT.imp (σ' := [(2, .val (.bool _)), (3, .own 35 3 1 _ _), (4, .own 1035 3 1 _ _), (5, .own 41 42 2 _ _), (6, .val (.bool _)), (9, .bor 53 _), (10, .own 1053 3 1 _ _), (15, .own 71 3 1 _ _), (16, .val (.bool _)), (25, .own 212 3 1 _ _), (26, .val (.int .i64 _)), (29, .own 236 3 1 _ _), (30, .val (.bool _))]) ?_ (imp_covers ⟨rfl, rfl, rfl, rfl, rfl, rfl, rfl, rfl, rfl, rfl, rfl, rfl, rfl, trivial⟩)
                refine code_ret ?_
                refine then_r ?_; clear hK28 K28
                refine ends_ret (cs := []) rfl rfl rfl rfl trivial ?_
                first
                  | rfl
                  | (have hi : i.toNat = r.length := by omega
                     rw [hi] at hL
                     subst hL
                     first
                       | exact absurd (fir3 hth).1 (by assumption)
                       | rw [decide_eq_true (fir3 hth).2])
              · simp only [Bool.false_eq_true, if_true, if_false, Decidable.not_not] at h25
                (try simp only [Decidable.not_not] at h25); (try have hok : PairsP ds es := h25); (try have hth : FirstP fs r := h25; have hfn := firI_n hth)
                refine list_guard_nT rfl rfl rfl rfl (by decide) (by decide) ?_
                refine list_guard_nT rfl rfl rfl rfl (by decide) (by decide) ?_
                refine list_cons rfl (op_q (q_pick rfl rfl (by decide)) ?_)
                refine list_cons rfl (op_q (q_assign rfl (by decide)) ?_)
                refine list_nil ?_
                refine hK40 _ ?_; clear hK40 K40
                refine code_ret ?_
                refine then_r ?_; clear hK28 K28
                refine ends_ret (cs := []) rfl rfl rfl rfl trivial ?_
                first
                  | rfl
                  | (have hi : i.toNat = r.length := by omega
                     rw [hi] at hL
                     subst hL
                     first
                       | exact absurd (fir3 hth).1 (by assumption)
                       | rw [decide_eq_true (fir3 hth).2])
        · skip
          (try simp only [Decidable.not_not] at h22); (try have hok : PairsP ds es := h22); (try have hth : FirstP fs r := h22; have hfn := firI_n hth)
          refine code_skip ?_
          refine hK28 _ ?_; clear hK28 K28
          refine code_seq (fun K41 hK41 => ?_)
          refine code_region ?_
          refine list_cons rfl (op_q (q_assign rfl (by decide)) ?_)
          refine list_nil ?_
          refine hK41 _ ?_; clear hK41 K41
          refine code_ret ?_
          refine ends_ret (cs := []) rfl rfl rfl rfl trivial ?_
          first
            | rfl
            | (have hi : i.toNat = r.length := by omega
               rw [hi] at hL
               subst hL
               first
                 | exact absurd (fir3 hth).1 (by assumption)
                 | rw [decide_eq_true (fir3 hth).2])

end Go.Proofs.YtjbbijlbenkgcaaDoor
