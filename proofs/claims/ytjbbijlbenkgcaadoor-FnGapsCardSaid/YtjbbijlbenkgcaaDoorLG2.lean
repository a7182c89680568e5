/- Contracts of functions, walked over the pure layer; each says for which arguments. -/
import Derived.Test.YtjbbijlbenkgcaaDoorLG2Ty
import Derived.Test.YtjbbijlbenkgcaaDoorTf
import Derived.Test.YtjbbijlbenkgcaaDoorSp
import Derived.Test.YtjbbijlbenkgcaaDoorS4
import Derived.Test.YtjbbijlbenkgcaaDoorS4c
import Derived.Test.YtjbbijlbenkgcaaDoorS5
import Derived.Test.YtjbbijlbenkgcaaDoorShelf
import Derived.Test.YtjbbijlbenkgcaaDoorIm
import Derived.Test.YtjbbijlbenkgcaaDoorS5p
import Derived.Test.YtjbbijlbenkgcaaDoorMgI
import Derived.Test.YtjbbijlbenkgcaaDoorMgG
import Derived.Test.YtjbbijlbenkgcaaDoorI4c
namespace Go.Proofs.YtjbbijlbenkgcaaDoor
open Go.RowKit LG2Ty
set_option linter.unusedVariables false
set_option linter.unusedSimpArgs false

set_option maxRecDepth 8000 in
set_option maxHeartbeats 16000000 in
theorem FnGaps_law (code : List UInt8) (p0 : code.length ≤ 9223372036854775807) : MCalls Tryd.prog 4 true none [.sl code.length (bytesP code)] fun rs _ => rs = [.val (.bool true)] := by
  refine mcalls_of_code (n := 406) az Tryd.func4 (by kernel_rfl) rfl rfl (Nat.le_of_ble_eq_true rfl) (by intro t u h; simp [Tryd.f4] at h) ?_
  refine code_seq (fun K1 hK1 => ?_)
  refine code_region ?_
  refine list_cons rfl (op_q (q_assign rfl (by decide)) ?_)
  refine list_nil ?_
  refine hK1 _ ?_; clear hK1 K1
  refine code_seq (fun K2 hK2 => ?_)
  refine code_seq (fun K3 hK3 => ?_)
  refine code_region ?_
  refine list_cons rfl (op_q (q_move rfl (by decide)) ?_)
  refine list_cons rfl (op_call _ (vBig_c _) rfl rfl (by decide) (by decide) (by decide) rfl ?_)
  rintro _ rfl
  refine list_nil ?_
  refine hK3 _ ?_; clear hK3 K3
  refine codeT.imp (σ' := [(0, .ext _), (2, .val (.bool _)), (53, .val (.bool _))]) ?_ (imp_covers ⟨rfl, rfl, rfl, trivial⟩)
  refine code_cond_d rfl (fun h1 => ?_) (fun h1 => ?_)
  · skip
    (try simp only [Decidable.not_not] at h1); (try have hgp1 := gapI_pos h1)
    refine code_seq (fun K4 hK4 => ?_)
    refine code_region ?_
    refine list_cons rfl (op_q (q_assign rfl (by decide)) ?_)
    refine list_nil ?_
    refine hK4 _ ?_; clear hK4 K4
    refine code_ret ?_
    refine then_r ?_; clear hK2 K2
    refine ends_ret (cs := []) rfl rfl rfl rfl trivial ?_
    first | rfl | (rw [decide_eq_true (show (((if DigP g then dcd g else []).length : Nat) : Int) = (g.length : Int) by rw [if_pos (by assumption), dcd_len])]) | exact absurd (by rw [if_pos (show DigP g by assumption)]; exact dcd_code (by assumption)) h1
  (try simp only [Decidable.not_not] at h1); (try have hgp1 := gapI_pos h1)
  refine code_skip ?_
  refine hK2 _ ?_; clear hK2 K2
  refine code_seq (fun K5 hK5 => ?_)
  refine code_region ?_
  refine list_cons rfl (op_q (q_move rfl (by decide)) ?_)
  refine list_cons rfl (op_callM (DrawGapOf_c _ ?_) (.tmp 0) 0 [] [.tmp 54] _ rfl rfl (by intro y hy; cases hy) (by decide) (by decide) (by decide) rfl (by intro h; cases h) ?_)
  · first | assumption | omega | (simp; omega)
  rintro _ _ ⟨l, ⟨hl1, hl2⟩, rfl⟩
  refine list_cons rfl (op_q (q_assign rfl (by decide)) ?_)
  refine list_nil ?_
  refine hK5 _ ?_; clear hK5 K5
  refine codeT.imp (σ' := [(0, .ext _), (2, .val (.bool _)), (3, .own 55 3 1 _ _)]) ?_ (imp_covers ⟨rfl, rfl, rfl, trivial⟩)
  refine code_seq (fun K6 hK6 => ?_)
  refine code_region ?_
  refine list_cons rfl (op_q (q_move rfl (by decide)) ?_)
  refine list_cons rfl (op_call _ (impl_GapOf _ (by omega)) rfl rfl (by decide) (by decide) (by decide) rfl ?_)
  rintro _ rfl; have hgi := gapI_le l
  refine list_cons rfl (op_q (q_move rfl (by decide)) ?_)
  refine list_cons rfl (op_q (q_extract rfl rfl (by decide)) ?_)
  refine list_cons rfl (op_q (q_extract rfl rfl (by decide)) ?_)
  refine list_cons rfl (op_q (q_assign rfl (by decide)) ?_)
  refine list_cons rfl (op_q (q_assign rfl (by decide)) ?_)
  refine list_nil ?_
  refine hK6 _ ?_; clear hK6 K6
  refine codeT.imp (σ' := [(0, .ext _), (2, .val (.bool _)), (3, .own 55 3 1 _ _), (4, .val (.int .i64 _)), (5, .val (.bool _))]) ?_ (imp_covers ⟨rfl, rfl, rfl, rfl, rfl, trivial⟩)
  refine code_seq (fun K7 hK7 => ?_)
  refine code_region ?_
  refine list_cons rfl (op_q (q_move rfl (by decide)) ?_)
  refine list_cons rfl (op_call _ (spec_GapOf _ (by omega)) rfl rfl (by decide) (by decide) (by decide) rfl ?_)
  rintro _ rfl
  refine list_cons rfl (op_q (q_move rfl (by decide)) ?_)
  refine list_cons rfl (op_q (q_extract rfl rfl (by decide)) ?_)
  refine list_cons rfl (op_q (q_extract rfl rfl (by decide)) ?_)
  refine list_cons rfl (op_q (q_assign rfl (by decide)) ?_)
  refine list_cons rfl (op_q (q_assign rfl (by decide)) ?_)
  refine list_nil ?_
  refine hK7 _ ?_; clear hK7 K7
  refine codeT.imp (σ' := [(0, .ext _), (2, .val (.bool _)), (3, .own 55 3 1 _ _), (4, .val (.int .i64 _)), (5, .val (.bool _)), (6, .val (.int .i64 _)), (7, .val (.bool _))]) ?_ (imp_covers ⟨rfl, rfl, rfl, rfl, rfl, rfl, rfl, trivial⟩)
  refine code_seq (fun K8 hK8 => ?_)
  refine code_region ?_
  refine list_cons rfl (op_q (q_move rfl (by decide)) ?_)
  refine list_cons rfl (op_call _ (impl_GapPairs _ (by omega)) rfl rfl (by decide) (by decide) (by decide) rfl ?_)
  rintro _ rfl; have hpl := gpp_len l
  refine list_cons rfl (op_q (q_move rfl (by decide)) ?_)
  refine list_cons rfl (op_q (q_extract rfl rfl (by decide)) ?_)
  refine list_cons rfl (op_q (q_extract rfl rfl (by decide)) ?_)
  refine list_cons rfl (op_q (q_assign rfl (by decide)) ?_)
  refine list_cons rfl (op_q (q_assign rfl (by decide)) ?_)
  refine list_nil ?_
  refine hK8 _ ?_; clear hK8 K8
  refine codeT.imp (σ' := [(0, .ext _), (2, .val (.bool _)), (3, .own 55 3 1 _ _), (4, .val (.int .i64 _)), (5, .val (.bool _)), (6, .val (.int .i64 _)), (7, .val (.bool _)), (8, .own 68 56 2 _ _), (9, .val (.bool _))]) ?_ (imp_covers ⟨rfl, rfl, rfl, rfl, rfl, rfl, rfl, rfl, rfl, trivial⟩)
  refine code_seq (fun K9 hK9 => ?_)
  refine code_region ?_
  refine list_cons rfl (op_q (q_move rfl (by decide)) ?_)
  refine list_cons rfl (op_call _ (spec_GapPairs _ (by omega)) rfl rfl (by decide) (by decide) (by decide) rfl ?_)
  rintro _ rfl; have hpl := gpp_len l
  refine list_cons rfl (op_q (q_move rfl (by decide)) ?_)
  refine list_cons rfl (op_q (q_extract rfl rfl (by decide)) ?_)
  refine list_cons rfl (op_q (q_extract rfl rfl (by decide)) ?_)
  refine list_cons rfl (op_q (q_assign rfl (by decide)) ?_)
  refine list_cons rfl (op_q (q_assign rfl (by decide)) ?_)
  refine list_nil ?_
  refine hK9 _ ?_; clear hK9 K9
  refine codeT.imp (σ' := [(0, .ext _), (2, .val (.bool _)), (3, .own 55 3 1 _ _), (4, .val (.int .i64 _)), (5, .val (.bool _)), (6, .val (.int .i64 _)), (7, .val (.bool _)), (8, .own 68 56 2 _ _), (9, .val (.bool _)), (10, .own 73 56 2 _ _), (11, .val (.bool _))]) ?_ (imp_covers ⟨rfl, rfl, rfl, rfl, rfl, rfl, rfl, rfl, rfl, rfl, rfl, trivial⟩)
  refine code_seq (fun K10 hK10 => ?_)
  refine code_region ?_
  refine list_cons rfl (op_q (q_move rfl (by decide)) ?_)
  refine list_cons rfl (op_call _ (impl_MendsUpTo _ (by omega)) rfl rfl (by decide) (by decide) (by decide) rfl ?_)
  rintro _ rfl
  refine list_cons rfl (op_q (q_move rfl (by decide)) ?_)
  refine list_cons rfl (op_q (q_extract rfl rfl (by decide)) ?_)
  refine list_cons rfl (op_q (q_extract rfl rfl (by decide)) ?_)
  refine list_cons rfl (op_q (q_assign rfl (by decide)) ?_)
  refine list_cons rfl (op_q (q_assign rfl (by decide)) ?_)
  refine list_nil ?_
  refine hK10 _ ?_; clear hK10 K10
  refine codeT.imp (σ' := [(0, .ext _), (2, .val (.bool _)), (3, .own 55 3 1 _ _), (4, .val (.int .i64 _)), (5, .val (.bool _)), (6, .val (.int .i64 _)), (7, .val (.bool _)), (8, .own 68 56 2 _ _), (9, .val (.bool _)), (10, .own 73 56 2 _ _), (11, .val (.bool _)), (12, .val (.int .i64 _)), (13, .val (.bool _))]) ?_ (imp_covers ⟨rfl, rfl, rfl, rfl, rfl, rfl, rfl, rfl, rfl, rfl, rfl, rfl, rfl, trivial⟩)
  refine code_seq (fun K11 hK11 => ?_)
  refine code_region ?_
  refine list_cons rfl (op_q (q_move rfl (by decide)) ?_)
  refine list_cons rfl (op_call _ (spec_MendsUpTo _ (by omega)) rfl rfl (by decide) (by decide) (by decide) rfl ?_)
  rintro _ rfl
  refine list_cons rfl (op_q (q_move rfl (by decide)) ?_)
  refine list_cons rfl (op_q (q_extract rfl rfl (by decide)) ?_)
  refine list_cons rfl (op_q (q_extract rfl rfl (by decide)) ?_)
  refine list_cons rfl (op_q (q_assign rfl (by decide)) ?_)
  refine list_cons rfl (op_q (q_assign rfl (by decide)) ?_)
  refine list_nil ?_
  refine hK11 _ ?_; clear hK11 K11
  refine codeT.imp (σ' := [(0, .ext _), (2, .val (.bool _)), (3, .own 55 3 1 _ _), (4, .val (.int .i64 _)), (5, .val (.bool _)), (6, .val (.int .i64 _)), (7, .val (.bool _)), (8, .own 68 56 2 _ _), (9, .val (.bool _)), (10, .own 73 56 2 _ _), (11, .val (.bool _)), (12, .val (.int .i64 _)), (13, .val (.bool _)), (14, .val (.int .i64 _)), (15, .val (.bool _))]) ?_ (imp_covers ⟨rfl, rfl, rfl, rfl, rfl, rfl, rfl, rfl, rfl, rfl, rfl, rfl, rfl, rfl, rfl, trivial⟩)
  refine code_seq (fun K12 hK12 => ?_)
  refine code_region ?_
  refine list_cons rfl (op_q (q_move rfl (by decide)) ?_)
  refine list_cons rfl (op_call _ (impl_SeesUpTo _ (by omega)) rfl rfl (by decide) (by decide) (by decide) rfl ?_)
  rintro _ rfl
  refine list_cons rfl (op_q (q_move rfl (by decide)) ?_)
  refine list_cons rfl (op_q (q_extract rfl rfl (by decide)) ?_)
  refine list_cons rfl (op_q (q_extract rfl rfl (by decide)) ?_)
  refine list_cons rfl (op_q (q_assign rfl (by decide)) ?_)
  refine list_cons rfl (op_q (q_assign rfl (by decide)) ?_)
  refine list_nil ?_
  refine hK12 _ ?_; clear hK12 K12
  refine codeT.imp (σ' := [(0, .ext _), (2, .val (.bool _)), (3, .own 55 3 1 _ _), (4, .val (.int .i64 _)), (5, .val (.bool _)), (6, .val (.int .i64 _)), (7, .val (.bool _)), (8, .own 68 56 2 _ _), (9, .val (.bool _)), (10, .own 73 56 2 _ _), (11, .val (.bool _)), (12, .val (.int .i64 _)), (13, .val (.bool _)), (14, .val (.int .i64 _)), (15, .val (.bool _)), (16, .val (.int .i64 _)), (17, .val (.bool _))]) ?_ (imp_covers ⟨rfl, rfl, rfl, rfl, rfl, rfl, rfl, rfl, rfl, rfl, rfl, rfl, rfl, rfl, rfl, rfl, rfl, trivial⟩)
  refine code_seq (fun K13 hK13 => ?_)
  refine code_region ?_
  refine list_cons rfl (op_q (q_move rfl (by decide)) ?_)
  refine list_cons rfl (op_call _ (spec_SeesUpTo _ (by omega)) rfl rfl (by decide) (by decide) (by decide) rfl ?_)
  rintro _ rfl
  refine list_cons rfl (op_q (q_move rfl (by decide)) ?_)
  refine list_cons rfl (op_q (q_extract rfl rfl (by decide)) ?_)
  refine list_cons rfl (op_q (q_extract rfl rfl (by decide)) ?_)
  refine list_cons rfl (op_q (q_assign rfl (by decide)) ?_)
  refine list_cons rfl (op_q (q_assign rfl (by decide)) ?_)
  refine list_nil ?_
  refine hK13 _ ?_; clear hK13 K13
  refine codeT.imp (σ' := [(0, .ext _), (2, .val (.bool _)), (3, .own 55 3 1 _ _), (4, .val (.int .i64 _)), (5, .val (.bool _)), (6, .val (.int .i64 _)), (7, .val (.bool _)), (8, .own 68 56 2 _ _), (9, .val (.bool _)), (10, .own 73 56 2 _ _), (11, .val (.bool _)), (12, .val (.int .i64 _)), (13, .val (.bool _)), (14, .val (.int .i64 _)), (15, .val (.bool _)), (16, .val (.int .i64 _)), (17, .val (.bool _)), (18, .val (.int .i64 _)), (19, .val (.bool _))]) ?_ (imp_covers ⟨rfl, rfl, rfl, rfl, rfl, rfl, rfl, rfl, rfl, rfl, rfl, rfl, rfl, rfl, rfl, rfl, rfl, rfl, rfl, trivial⟩)
  refine code_seq (fun K14 hK14 => ?_)
  refine code_region ?_
  refine list_cons rfl (op_q (q_move rfl (by decide)) ?_)
  refine list_cons rfl (op_call _ (vCut_c _ (by omega) _ (by omega) (by omega)) rfl rfl (by decide) (by decide) (by decide) rfl ?_)
  rintro _ ⟨c2, hc2, rfl⟩
  refine list_cons rfl (op_callM (DrawFlipCode_c _ ?_) (.tmp 0) 0 [] [.tmp 98] _ rfl rfl (by intro y hy; cases hy) (by decide) (by decide) (by decide) rfl (by intro h; cases h) ?_)
  · first | assumption | omega | (simp; omega)
  rintro _ _ ⟨u, bars, ⟨hu1, hu2⟩, hbars, rfl⟩
  refine list_cons rfl (op_q (q_move rfl (by decide)) ?_)
  refine list_cons rfl (op_q (q_extract rfl rfl (by decide)) ?_)
  refine list_cons rfl (op_q (q_extract rfl rfl (by decide)) ?_)
  refine list_cons rfl (op_q (q_assign rfl (by decide)) ?_)
  refine list_cons rfl (op_q (q_assign rfl (by decide)) ?_)
  refine list_nil ?_
  refine hK14 _ ?_; clear hK14 K14
  refine codeT.imp (σ' := [(0, .ext _), (2, .val (.bool _)), (3, .own 55 3 1 _ _), (4, .val (.int .i64 _)), (5, .val (.bool _)), (6, .val (.int .i64 _)), (7, .val (.bool _)), (8, .own 68 56 2 _ _), (9, .val (.bool _)), (10, .own 73 56 2 _ _), (11, .val (.bool _)), (12, .val (.int .i64 _)), (13, .val (.bool _)), (14, .val (.int .i64 _)), (15, .val (.bool _)), (16, .val (.int .i64 _)), (17, .val (.bool _)), (18, .val (.int .i64 _)), (19, .val (.bool _)), (20, .own 99 3 1 _ _), (21, .val (.int .i64 _))]) ?_ (imp_covers ⟨rfl, rfl, rfl, rfl, rfl, rfl, rfl, rfl, rfl, rfl, rfl, rfl, rfl, rfl, rfl, rfl, rfl, rfl, rfl, rfl, rfl, trivial⟩)
  refine code_seq (fun K15 hK15 => ?_)
  refine code_region ?_
  refine list_cons rfl (op_q (q_move rfl (by decide)) ?_)
  refine list_cons rfl (op_q (q_move rfl (by decide)) ?_)
  refine list_cons rfl (op_call _ (impl_FlipCode _ _ (by omega)) rfl rfl (by decide) (by decide) (by decide) rfl ?_)
  rintro _ rfl; have hfu := flpI_len u bars
  refine list_cons rfl (op_q (q_move rfl (by decide)) ?_)
  refine list_cons rfl (op_q (q_extract rfl rfl (by decide)) ?_)
  refine list_cons rfl (op_q (q_extract rfl rfl (by decide)) ?_)
  refine list_cons rfl (op_q (q_assign rfl (by decide)) ?_)
  refine list_cons rfl (op_q (q_assign rfl (by decide)) ?_)
  refine list_nil ?_
  refine hK15 _ ?_; clear hK15 K15
  refine codeT.imp (σ' := [(0, .ext _), (2, .val (.bool _)), (3, .own 55 3 1 _ _), (4, .val (.int .i64 _)), (5, .val (.bool _)), (6, .val (.int .i64 _)), (7, .val (.bool _)), (8, .own 68 56 2 _ _), (9, .val (.bool _)), (10, .own 73 56 2 _ _), (11, .val (.bool _)), (12, .val (.int .i64 _)), (13, .val (.bool _)), (14, .val (.int .i64 _)), (15, .val (.bool _)), (16, .val (.int .i64 _)), (17, .val (.bool _)), (18, .val (.int .i64 _)), (19, .val (.bool _)), (20, .own 99 3 1 _ _), (21, .val (.int .i64 _)), (22, .own 105 3 1 _ _), (23, .val (.bool _))]) ?_ (imp_covers ⟨rfl, rfl, rfl, rfl, rfl, rfl, rfl, rfl, rfl, rfl, rfl, rfl, rfl, rfl, rfl, rfl, rfl, rfl, rfl, rfl, rfl, rfl, rfl, trivial⟩)
  refine code_seq (fun K16 hK16 => ?_)
  refine code_region ?_
  refine list_cons rfl (op_q (q_move rfl (by decide)) ?_)
  refine list_cons rfl (op_q (q_move rfl (by decide)) ?_)
  refine list_cons rfl (op_call _ (spec_FlipCode _ _ (by omega)) rfl rfl (by decide) (by decide) (by decide) rfl ?_)
  rintro _ rfl; have hfu := flpI_len u bars
  refine list_cons rfl (op_q (q_move rfl (by decide)) ?_)
  refine list_cons rfl (op_q (q_extract rfl rfl (by decide)) ?_)
  refine list_cons rfl (op_q (q_extract rfl rfl (by decide)) ?_)
  refine list_cons rfl (op_q (q_assign rfl (by decide)) ?_)
  refine list_cons rfl (op_q (q_assign rfl (by decide)) ?_)
  refine list_nil ?_
  refine hK16 _ ?_; clear hK16 K16
  refine codeT.imp (σ' := [(0, .ext _), (2, .val (.bool _)), (3, .own 55 3 1 _ _), (4, .val (.int .i64 _)), (5, .val (.bool _)), (6, .val (.int .i64 _)), (7, .val (.bool _)), (8, .own 68 56 2 _ _), (9, .val (.bool _)), (10, .own 73 56 2 _ _), (11, .val (.bool _)), (12, .val (.int .i64 _)), (13, .val (.bool _)), (14, .val (.int .i64 _)), (15, .val (.bool _)), (16, .val (.int .i64 _)), (17, .val (.bool _)), (18, .val (.int .i64 _)), (19, .val (.bool _)), (20, .own 99 3 1 _ _), (21, .val (.int .i64 _)), (22, .own 105 3 1 _ _), (23, .val (.bool _)), (24, .own 111 3 1 _ _), (25, .val (.bool _))]) ?_ (imp_covers ⟨rfl, rfl, rfl, rfl, rfl, rfl, rfl, rfl, rfl, rfl, rfl, rfl, rfl, rfl, rfl, rfl, rfl, rfl, rfl, rfl, rfl, rfl, rfl, rfl, rfl, trivial⟩)
  refine code_seq (fun K17 hK17 => ?_)
  refine code_region ?_
  refine list_cons rfl (op_q (q_move rfl (by decide)) ?_)
  refine list_cons rfl (op_call _ (vCut_c _ (by omega) _ (by omega) (by omega)) rfl rfl (by decide) (by decide) (by decide) rfl ?_)
  rintro _ ⟨c2, hc2, rfl⟩
  refine list_cons rfl (op_callM (DrawCountFar_c _ ?_) (.tmp 0) 0 [] [.tmp 116] _ rfl rfl (by intro y hy; cases hy) (by decide) (by decide) (by decide) rfl (by intro h; cases h) ?_)
  · first | assumption | omega | (simp; omega)
  rintro _ _ ⟨v, d, ⟨hv1, hv2⟩, hd, rfl⟩
  refine list_cons rfl (op_q (q_move rfl (by decide)) ?_)
  refine list_cons rfl (op_q (q_extract rfl rfl (by decide)) ?_)
  refine list_cons rfl (op_q (q_extract rfl rfl (by decide)) ?_)
  refine list_cons rfl (op_q (q_assign rfl (by decide)) ?_)
  refine list_cons rfl (op_q (q_assign rfl (by decide)) ?_)
  refine list_nil ?_
  refine hK17 _ ?_; clear hK17 K17
  refine codeT.imp (σ' := [(0, .ext _), (2, .val (.bool _)), (3, .own 55 3 1 _ _), (4, .val (.int .i64 _)), (5, .val (.bool _)), (6, .val (.int .i64 _)), (7, .val (.bool _)), (8, .own 68 56 2 _ _), (9, .val (.bool _)), (10, .own 73 56 2 _ _), (11, .val (.bool _)), (12, .val (.int .i64 _)), (13, .val (.bool _)), (14, .val (.int .i64 _)), (15, .val (.bool _)), (16, .val (.int .i64 _)), (17, .val (.bool _)), (18, .val (.int .i64 _)), (19, .val (.bool _)), (20, .own 99 3 1 _ _), (21, .val (.int .i64 _)), (22, .own 105 3 1 _ _), (23, .val (.bool _)), (24, .own 111 3 1 _ _), (25, .val (.bool _)), (26, .own 117 3 1 _ _), (27, .val (.int .i64 _))]) ?_ (imp_covers ⟨rfl, rfl, rfl, rfl, rfl, rfl, rfl, rfl, rfl, rfl, rfl, rfl, rfl, rfl, rfl, rfl, rfl, rfl, rfl, rfl, rfl, rfl, rfl, rfl, rfl, rfl, rfl, trivial⟩)
  refine code_seq (fun K18 hK18 => ?_)
  refine code_region ?_
  refine list_cons rfl (op_q (q_move rfl (by decide)) ?_)
  refine list_cons rfl (op_q (q_move rfl (by decide)) ?_)
  refine list_cons rfl (op_call _ (impl_CountFar _ _ (by omega)) rfl rfl (by decide) (by decide) (by decide) rfl ?_)
  rintro _ rfl
  refine list_cons rfl (op_q (q_move rfl (by decide)) ?_)
  refine list_cons rfl (op_q (q_extract rfl rfl (by decide)) ?_)
  refine list_cons rfl (op_q (q_extract rfl rfl (by decide)) ?_)
  refine list_cons rfl (op_q (q_assign rfl (by decide)) ?_)
  refine list_cons rfl (op_q (q_assign rfl (by decide)) ?_)
  refine list_nil ?_
  refine hK18 _ ?_; clear hK18 K18
  refine codeT.imp (σ' := [(0, .ext _), (2, .val (.bool _)), (3, .own 55 3 1 _ _), (4, .val (.int .i64 _)), (5, .val (.bool _)), (6, .val (.int .i64 _)), (7, .val (.bool _)), (8, .own 68 56 2 _ _), (9, .val (.bool _)), (10, .own 73 56 2 _ _), (11, .val (.bool _)), (12, .val (.int .i64 _)), (13, .val (.bool _)), (14, .val (.int .i64 _)), (15, .val (.bool _)), (16, .val (.int .i64 _)), (17, .val (.bool _)), (18, .val (.int .i64 _)), (19, .val (.bool _)), (20, .own 99 3 1 _ _), (21, .val (.int .i64 _)), (22, .own 105 3 1 _ _), (23, .val (.bool _)), (24, .own 111 3 1 _ _), (25, .val (.bool _)), (26, .own 117 3 1 _ _), (27, .val (.int .i64 _)), (28, .val (.int .i64 _)), (29, .val (.bool _))]) ?_ (imp_covers ⟨rfl, rfl, rfl, rfl, rfl, rfl, rfl, rfl, rfl, rfl, rfl, rfl, rfl, rfl, rfl, rfl, rfl, rfl, rfl, rfl, rfl, rfl, rfl, rfl, rfl, rfl, rfl, rfl, rfl, trivial⟩)
  refine code_seq (fun K19 hK19 => ?_)
  refine code_region ?_
  refine list_cons rfl (op_q (q_move rfl (by decide)) ?_)
  refine list_cons rfl (op_q (q_move rfl (by decide)) ?_)
  refine list_cons rfl (op_call _ (spec_CountFar _ _ (by omega)) rfl rfl (by decide) (by decide) (by decide) rfl ?_)
  rintro _ rfl
  refine list_cons rfl (op_q (q_move rfl (by decide)) ?_)
  refine list_cons rfl (op_q (q_extract rfl rfl (by decide)) ?_)
  refine list_cons rfl (op_q (q_extract rfl rfl (by decide)) ?_)
  refine list_cons rfl (op_q (q_assign rfl (by decide)) ?_)
  refine list_cons rfl (op_q (q_assign rfl (by decide)) ?_)
  refine list_nil ?_
  refine hK19 _ ?_; clear hK19 K19
  refine codeT.imp (σ' := ((0, .ext _) :: (2, .val (.bool _)) :: (3, .own 55 3 1 _ _) :: (4, .val (.int .i64 _)) :: (5, .val (.bool _)) :: (6, .val (.int .i64 _)) :: (7, .val (.bool _)) :: (8, .own 68 56 2 _ _) :: (9, .val (.bool _)) :: (10, .own 73 56 2 _ _) :: (11, .val (.bool _)) :: (12, .val (.int .i64 _)) :: (13, .val (.bool _)) :: (14, .val (.int .i64 _)) :: (15, .val (.bool _)) :: (16, .val (.int .i64 _)) :: (17, .val (.bool _)) :: (18, .val (.int .i64 _)) :: (19, .val (.bool _)) :: (20, .own 99 3 1 _ _) :: (21, .val (.int .i64 _)) :: (22, .own 105 3 1 _ _) :: (23, .val (.bool _)) :: (24, .own 111 3 1 _ _) :: (25, .val (.bool _)) :: (26, .own 117 3 1 _ _) :: (27, .val (.int .i64 _)) :: (28, .val (.int .i64 _)) :: (29, .val (.bool _)) :: (30, .val (.int .i64 _)) :: (31, .val (.bool _)) :: [])) ?_ (imp_covers ⟨rfl, rfl, rfl, rfl, rfl, rfl, rfl, rfl, rfl, rfl, rfl, rfl, rfl, rfl, rfl, rfl, rfl, rfl, rfl, rfl, rfl, rfl, rfl, rfl, rfl, rfl, rfl, rfl, rfl, rfl, rfl, trivial⟩)
  refine code_seq (fun K20 hK20 => ?_)
  refine code_region ?_
  refine list_cons rfl (op_q (q_move rfl (by decide)) ?_)
  refine list_cons rfl (op_callM (DrawDigitCode_c _ ?_) (.tmp 0) 0 [] [.tmp 132] _ rfl rfl (by intro y hy; cases hy) (by decide) (by decide) (by decide) rfl (by intro h; cases h) ?_)
  · first | assumption | omega | (simp; omega)
  rintro _ _ ⟨g, ⟨hg1, hg2⟩, rfl⟩
  refine list_cons rfl (op_q (q_assign rfl (by decide)) ?_)
  refine list_nil ?_
  refine hK20 _ ?_; clear hK20 K20
  refine codeT.imp (σ' := ((0, .ext _) :: (2, .val (.bool _)) :: (3, .own 55 3 1 _ _) :: (4, .val (.int .i64 _)) :: (5, .val (.bool _)) :: (6, .val (.int .i64 _)) :: (7, .val (.bool _)) :: (8, .own 68 56 2 _ _) :: (9, .val (.bool _)) :: (10, .own 73 56 2 _ _) :: (11, .val (.bool _)) :: (12, .val (.int .i64 _)) :: (13, .val (.bool _)) :: (14, .val (.int .i64 _)) :: (15, .val (.bool _)) :: (16, .val (.int .i64 _)) :: (17, .val (.bool _)) :: (18, .val (.int .i64 _)) :: (19, .val (.bool _)) :: (20, .own 99 3 1 _ _) :: (21, .val (.int .i64 _)) :: (22, .own 105 3 1 _ _) :: (23, .val (.bool _)) :: (24, .own 111 3 1 _ _) :: (25, .val (.bool _)) :: (26, .own 117 3 1 _ _) :: (27, .val (.int .i64 _)) :: (28, .val (.int .i64 _)) :: (29, .val (.bool _)) :: (30, .val (.int .i64 _)) :: (31, .val (.bool _)) :: (32, .own 133 3 1 _ _) :: [])) ?_ (imp_covers ⟨rfl, rfl, rfl, rfl, rfl, rfl, rfl, rfl, rfl, rfl, rfl, rfl, rfl, rfl, rfl, rfl, rfl, rfl, rfl, rfl, rfl, rfl, rfl, rfl, rfl, rfl, rfl, rfl, rfl, rfl, rfl, rfl, trivial⟩)
  refine code_seq (fun K21 hK21 => ?_)
  refine code_region ?_
  refine list_cons rfl (op_q (q_move rfl (by decide)) ?_)
  refine list_cons rfl (op_call _ (impl_DigitCode _ (by omega)) rfl rfl (by decide) (by decide) (by decide) rfl ?_)
  rintro _ rfl; have hdl := dig_len g
  refine list_cons rfl (op_q (q_move rfl (by decide)) ?_)
  refine list_cons rfl (op_q (q_extract rfl rfl (by decide)) ?_)
  refine list_cons rfl (op_q (q_extract rfl rfl (by decide)) ?_)
  refine list_cons rfl (op_q (q_assign rfl (by decide)) ?_)
  refine list_cons rfl (op_q (q_assign rfl (by decide)) ?_)
  refine list_nil ?_
  refine hK21 _ ?_; clear hK21 K21
  refine codeT.imp (σ' := ((0, .ext _) :: (2, .val (.bool _)) :: (3, .own 55 3 1 _ _) :: (4, .val (.int .i64 _)) :: (5, .val (.bool _)) :: (6, .val (.int .i64 _)) :: (7, .val (.bool _)) :: (8, .own 68 56 2 _ _) :: (9, .val (.bool _)) :: (10, .own 73 56 2 _ _) :: (11, .val (.bool _)) :: (12, .val (.int .i64 _)) :: (13, .val (.bool _)) :: (14, .val (.int .i64 _)) :: (15, .val (.bool _)) :: (16, .val (.int .i64 _)) :: (17, .val (.bool _)) :: (18, .val (.int .i64 _)) :: (19, .val (.bool _)) :: (20, .own 99 3 1 _ _) :: (21, .val (.int .i64 _)) :: (22, .own 105 3 1 _ _) :: (23, .val (.bool _)) :: (24, .own 111 3 1 _ _) :: (25, .val (.bool _)) :: (26, .own 117 3 1 _ _) :: (27, .val (.int .i64 _)) :: (28, .val (.int .i64 _)) :: (29, .val (.bool _)) :: (30, .val (.int .i64 _)) :: (31, .val (.bool _)) :: (32, .own 133 3 1 _ _) :: (33, .own 136 3 1 _ _) :: (34, .val (.bool _)) :: [])) ?_ (imp_covers ⟨rfl, rfl, rfl, rfl, rfl, rfl, rfl, rfl, rfl, rfl, rfl, rfl, rfl, rfl, rfl, rfl, rfl, rfl, rfl, rfl, rfl, rfl, rfl, rfl, rfl, rfl, rfl, rfl, rfl, rfl, rfl, rfl, rfl, rfl, trivial⟩)
  refine code_seq (fun K22 hK22 => ?_)
  refine code_region ?_
  refine list_cons rfl (op_q (q_move rfl (by decide)) ?_)
  refine list_cons rfl (op_call _ (spec_DigitCode _ (by omega)) rfl rfl (by decide) (by decide) (by decide) rfl ?_)
  rintro _ rfl; have hdl := dig_len g
  refine list_cons rfl (op_q (q_move rfl (by decide)) ?_)
  refine list_cons rfl (op_q (q_extract rfl rfl (by decide)) ?_)
  refine list_cons rfl (op_q (q_extract rfl rfl (by decide)) ?_)
  refine list_cons rfl (op_q (q_assign rfl (by decide)) ?_)
  refine list_cons rfl (op_q (q_assign rfl (by decide)) ?_)
  refine list_nil ?_
  refine hK22 _ ?_; clear hK22 K22
  refine codeT.imp (σ' := ((0, .ext _) :: (2, .val (.bool _)) :: (3, .own 55 3 1 _ _) :: (4, .val (.int .i64 _)) :: (5, .val (.bool _)) :: (6, .val (.int .i64 _)) :: (7, .val (.bool _)) :: (8, .own 68 56 2 _ _) :: (9, .val (.bool _)) :: (10, .own 73 56 2 _ _) :: (11, .val (.bool _)) :: (12, .val (.int .i64 _)) :: (13, .val (.bool _)) :: (14, .val (.int .i64 _)) :: (15, .val (.bool _)) :: (16, .val (.int .i64 _)) :: (17, .val (.bool _)) :: (18, .val (.int .i64 _)) :: (19, .val (.bool _)) :: (20, .own 99 3 1 _ _) :: (21, .val (.int .i64 _)) :: (22, .own 105 3 1 _ _) :: (23, .val (.bool _)) :: (24, .own 111 3 1 _ _) :: (25, .val (.bool _)) :: (26, .own 117 3 1 _ _) :: (27, .val (.int .i64 _)) :: (28, .val (.int .i64 _)) :: (29, .val (.bool _)) :: (30, .val (.int .i64 _)) :: (31, .val (.bool _)) :: (32, .own 133 3 1 _ _) :: (33, .own 136 3 1 _ _) :: (34, .val (.bool _)) :: (35, .own 141 3 1 _ _) :: (36, .val (.bool _)) :: [])) ?_ (imp_covers ⟨rfl, rfl, rfl, rfl, rfl, rfl, rfl, rfl, rfl, rfl, rfl, rfl, rfl, rfl, rfl, rfl, rfl, rfl, rfl, rfl, rfl, rfl, rfl, rfl, rfl, rfl, rfl, rfl, rfl, rfl, rfl, rfl, rfl, rfl, rfl, rfl, trivial⟩)
  refine code_seq (fun K23 hK23 => ?_)
  refine code_seq (fun K24 hK24 => ?_)
  refine code_region ?_
  refine list_cons rfl (op_q (q_move rfl (by decide)) ?_)
  refine list_cons rfl (op_q (q_move rfl (by decide)) ?_)
  refine list_cons rfl (op_q (q_ne rfl rfl (by decide)) ?_)
  refine list_cons rfl (op_q (q_move rfl (by decide)) ?_)
  refine list_guard_d rfl rfl rfl rfl (by decide) rfl (by decide) (fun h2 => ?_) (fun h2 => ?_)
  · simp only [Bool.false_eq_true, if_true, if_false, Decidable.not_not] at h2
    (try simp only [Decidable.not_not] at h2); (try have hgp1 := gapI_pos h2)
    refine id (op_q (q_move rfl (by decide)) ?_)
    refine list_guard_y rfl rfl rfl rfl (by decide) rfl ?_
    refine id (op_q (q_move rfl (by decide)) ?_)
    refine list_guard_y rfl rfl rfl rfl (by decide) rfl ?_
    refine id (op_q (q_bne Tryd.underlying4 rfl rfl (by decide)) ?_)
    refine list_cons rfl (op_q (q_pick rfl rfl (by decide)) ?_)
    refine list_cons rfl (op_q (q_move rfl (by decide)) ?_)
    refine list_guard_d rfl rfl rfl rfl (by decide) rfl (by decide) (fun h3 => ?_) (fun h3 => ?_)
    · simp only [Bool.false_eq_true, if_true, if_false, Decidable.not_not] at h3
      (try simp only [Decidable.not_not] at h3); (try have hgp1 := gapI_pos h3)
      refine id (op_q (q_move rfl (by decide)) ?_)
      refine list_guard_y rfl rfl rfl rfl (by decide) rfl ?_
      refine id (op_q (q_move rfl (by decide)) ?_)
      refine list_guard_y rfl rfl rfl rfl (by decide) rfl ?_
      refine id (op_q (q_bne Tryd.underlying4 rfl rfl (by decide)) ?_)
      refine list_cons rfl (op_q (q_pick rfl rfl (by decide)) ?_)
      refine list_cons rfl (op_q (q_move rfl (by decide)) ?_)
      refine list_guard_d rfl rfl rfl rfl (by decide) rfl (by decide) (fun h4 => ?_) (fun h4 => ?_)
      · simp only [Bool.false_eq_true, if_true, if_false, Decidable.not_not] at h4
        (try simp only [Decidable.not_not] at h4); (try have hgp1 := gapI_pos h4)
        refine id (op_q (q_move rfl (by decide)) ?_)
        refine list_guard_y rfl rfl rfl rfl (by decide) rfl ?_
        refine id (op_q (q_move rfl (by decide)) ?_)
        refine list_guard_y rfl rfl rfl rfl (by decide) rfl ?_
        refine id (op_call _ (vPairs_c _ _ (by first | omega | (simp; omega))) rfl rfl (by decide) (by decide) (by decide) rfl ?_)
        rintro _ rfl
        refine list_guard_y rfl rfl rfl rfl (by decide) rfl ?_
        refine id (op_q (by first | exact q_notd rfl (by decide) | exact q_not rfl (by decide)) ?_)
        refine list_cons rfl (op_q (q_pick rfl rfl (by decide)) ?_)
        refine list_cons rfl (op_q (q_move rfl (by decide)) ?_)
        refine list_guard_d rfl rfl rfl rfl (by decide) rfl (by decide) (fun h5 => ?_) (fun h5 => ?_)
        · simp only [Bool.false_eq_true, if_true, if_false, Decidable.not_not] at h5
          (try simp only [Decidable.not_not] at h5); (try have hgp1 := gapI_pos h5)
          refine id (op_q (q_move rfl (by decide)) ?_)
          refine list_guard_y rfl rfl rfl rfl (by decide) rfl ?_
          refine id (op_q (q_move rfl (by decide)) ?_)
          refine list_guard_y rfl rfl rfl rfl (by decide) rfl ?_
          refine id (op_q (q_ne rfl rfl (by decide)) ?_)
          refine list_cons rfl (op_q (q_pick rfl rfl (by decide)) ?_)
          refine list_cons rfl (op_q (q_move rfl (by decide)) ?_)
          refine list_guard_d rfl rfl rfl rfl (by decide) rfl (by decide) (fun h6 => ?_) (fun h6 => ?_)
          · simp only [Bool.false_eq_true, if_true, if_false, Decidable.not_not] at h6
            (try simp only [Decidable.not_not] at h6); (try have hgp1 := gapI_pos h6)
            refine id (op_q (q_move rfl (by decide)) ?_)
            refine list_guard_y rfl rfl rfl rfl (by decide) rfl ?_
            refine id (op_q (q_move rfl (by decide)) ?_)
            refine list_guard_y rfl rfl rfl rfl (by decide) rfl ?_
            refine id (op_q (q_bne Tryd.underlying4 rfl rfl (by decide)) ?_)
            refine list_cons rfl (op_q (q_pick rfl rfl (by decide)) ?_)
            refine list_cons rfl (op_q (q_move rfl (by decide)) ?_)
            refine list_guard_d rfl rfl rfl rfl (by decide) rfl (by decide) (fun h7 => ?_) (fun h7 => ?_)
            · simp only [Bool.false_eq_true, if_true, if_false, Decidable.not_not] at h7
              (try simp only [Decidable.not_not] at h7); (try have hgp1 := gapI_pos h7)
              refine id (op_q (q_move rfl (by decide)) ?_)
              refine list_guard_y rfl rfl rfl rfl (by decide) rfl ?_
              refine id (op_q (q_move rfl (by decide)) ?_)
              refine list_guard_y rfl rfl rfl rfl (by decide) rfl ?_
              refine id (op_q (q_ne rfl rfl (by decide)) ?_)
              refine list_cons rfl (op_q (q_pick rfl rfl (by decide)) ?_)
              refine list_cons rfl (op_q (q_move rfl (by decide)) ?_)
              refine list_guard_d rfl rfl rfl rfl (by decide) rfl (by decide) (fun h8 => ?_) (fun h8 => ?_)
              · simp only [Bool.false_eq_true, if_true, if_false, Decidable.not_not] at h8
                (try simp only [Decidable.not_not] at h8); (try have hgp1 := gapI_pos h8)
                refine id (op_q (q_move rfl (by decide)) ?_)
                refine list_guard_y rfl rfl rfl rfl (by decide) rfl ?_
                refine id (op_q (q_move rfl (by decide)) ?_)
                refine list_guard_y rfl rfl rfl rfl (by decide) rfl ?_
                refine id (op_q (q_bne Tryd.underlying4 rfl rfl (by decide)) ?_)
                refine list_cons rfl (op_q (q_pick rfl rfl (by decide)) ?_)
                refine list_cons rfl (op_q (q_move rfl (by decide)) ?_)
                refine list_guard_d rfl rfl rfl rfl (by decide) rfl (by decide) (fun h9 => ?_) (fun h9 => ?_)
                · simp only [Bool.false_eq_true, if_true, if_false, Decidable.not_not] at h9
                  (try simp only [Decidable.not_not] at h9); (try have hgp1 := gapI_pos h9)
                  refine id (op_q (q_move rfl (by decide)) ?_)
                  refine list_guard_y rfl rfl rfl rfl (by decide) rfl ?_
                  refine id (op_q (q_move rfl (by decide)) ?_)
                  refine list_guard_y rfl rfl rfl rfl (by decide) rfl ?_
                  refine id (op_q (q_bne Tryd.underlying4 rfl rfl (by decide)) ?_)
                  refine list_cons rfl (op_q (q_pick rfl rfl (by decide)) ?_)
                  refine list_cons rfl (op_q (q_move rfl (by decide)) ?_)
                  refine list_guard_d rfl rfl rfl rfl (by decide) rfl (by decide) (fun h10 => ?_) (fun h10 => ?_)
                  · simp only [Bool.false_eq_true, if_true, if_false, Decidable.not_not] at h10
                    (try simp only [Decidable.not_not] at h10); (try have hgp1 := gapI_pos h10)
                    refine id (op_q (q_move rfl (by decide)) ?_)
                    refine list_guard_y rfl rfl rfl rfl (by decide) rfl ?_
                    refine id (op_q (q_move rfl (by decide)) ?_)
                    refine list_guard_y rfl rfl rfl rfl (by decide) rfl ?_
                    refine id (op_call _ (vInts_c _ _ (by first | omega | (simp; omega))) rfl rfl (by decide) (by decide) (by decide) rfl ?_)
                    rintro _ rfl
                    refine list_guard_y rfl rfl rfl rfl (by decide) rfl ?_
                    refine id (op_q (by first | exact q_notd rfl (by decide) | exact q_not rfl (by decide)) ?_)
                    refine list_cons rfl (op_q (q_pick rfl rfl (by decide)) ?_)
                    refine list_cons rfl (op_q (q_move rfl (by decide)) ?_)
                    refine list_guard_d rfl rfl rfl rfl (by decide) rfl (by decide) (fun h11 => ?_) (fun h11 => ?_)
                    · simp only [Bool.false_eq_true, if_true, if_false, Decidable.not_not] at h11
                      (try simp only [Decidable.not_not] at h11); (try have hgp1 := gapI_pos h11)
                      refine id (op_q (q_move rfl (by decide)) ?_)
                      refine list_guard_y rfl rfl rfl rfl (by decide) rfl ?_
                      refine id (op_q (q_move rfl (by decide)) ?_)
                      refine list_guard_y rfl rfl rfl rfl (by decide) rfl ?_
                      refine id (op_q (q_ne rfl rfl (by decide)) ?_)
                      refine list_cons rfl (op_q (q_pick rfl rfl (by decide)) ?_)
                      refine list_cons rfl (op_q (q_move rfl (by decide)) ?_)
                      refine list_guard_d rfl rfl rfl rfl (by decide) rfl (by decide) (fun h12 => ?_) (fun h12 => ?_)
                      · simp only [Bool.false_eq_true, if_true, if_false, Decidable.not_not] at h12
                        (try simp only [Decidable.not_not] at h12); (try have hgp1 := gapI_pos h12)
                        refine id (op_q (q_move rfl (by decide)) ?_)
                        refine list_guard_y rfl rfl rfl rfl (by decide) rfl ?_
                        refine id (op_q (q_move rfl (by decide)) ?_)
                        refine list_guard_y rfl rfl rfl rfl (by decide) rfl ?_
                        refine id (op_q (q_bne Tryd.underlying4 rfl rfl (by decide)) ?_)
                        refine list_cons rfl (op_q (q_pick rfl rfl (by decide)) ?_)
                        refine list_cons rfl (op_q (q_move rfl (by decide)) ?_)
                        refine list_guard_d rfl rfl rfl rfl (by decide) rfl (by decide) (fun h13 => ?_) (fun h13 => ?_)
                        · simp only [Bool.false_eq_true, if_true, if_false, Decidable.not_not] at h13
                          (try simp only [Decidable.not_not] at h13); (try have hgp1 := gapI_pos h13)
                          refine id (op_q (q_move rfl (by decide)) ?_)
                          refine list_guard_y rfl rfl rfl rfl (by decide) rfl ?_
                          refine id (op_q (q_move rfl (by decide)) ?_)
                          refine list_guard_y rfl rfl rfl rfl (by decide) rfl ?_
                          refine id (op_q (q_bne Tryd.underlying4 rfl rfl (by decide)) ?_)
                          refine list_cons rfl (op_q (q_pick rfl rfl (by decide)) ?_)
                          refine list_cons rfl (op_q (q_move rfl (by decide)) ?_)
                          refine list_guard_d rfl rfl rfl rfl (by decide) rfl (by decide) (fun h14 => ?_) (fun h14 => ?_)
                          · simp only [Bool.false_eq_true, if_true, if_false, Decidable.not_not] at h14
                            (try simp only [Decidable.not_not] at h14); (try have hgp1 := gapI_pos h14)
                            refine id (op_q (q_move rfl (by decide)) ?_)
                            refine list_guard_y rfl rfl rfl rfl (by decide) rfl ?_
                            refine id (op_q (q_move rfl (by decide)) ?_)
                            refine list_guard_y rfl rfl rfl rfl (by decide) rfl ?_
                            refine id (op_call _ (vInts_c _ _ (by first | omega | (simp; omega))) rfl rfl (by decide) (by decide) (by decide) rfl ?_)
                            rintro _ rfl
                            refine list_guard_y rfl rfl rfl rfl (by decide) rfl ?_
                            refine id (op_q (by first | exact q_notd rfl (by decide) | exact q_not rfl (by decide)) ?_)
                            refine list_cons rfl (op_q (q_pick rfl rfl (by decide)) ?_)
                            refine list_cons rfl (op_q (q_move rfl (by decide)) ?_)
                            refine list_guard_d rfl rfl rfl rfl (by decide) rfl (by decide) (fun h15 => ?_) (fun h15 => ?_)
                            · simp only [Bool.false_eq_true, if_true, if_false, Decidable.not_not] at h15
                              (try simp only [Decidable.not_not] at h15); (try have hgp1 := gapI_pos h15)
                              refine id (op_q (q_move rfl (by decide)) ?_)
                              refine list_guard_y rfl rfl rfl rfl (by decide) rfl ?_
                              refine id (op_call _ (impl_IsCode _ (by omega)) rfl rfl (by decide) (by decide) (by decide) rfl ?_)
                              rintro _ rfl
                              refine list_guard_y rfl rfl rfl rfl (by decide) rfl ?_
                              refine id (op_q (q_move rfl (by decide)) ?_)
                              refine list_guard_y rfl rfl rfl rfl (by decide) rfl ?_
                              refine id (op_call _ (spec_IsCode _ (by omega)) rfl rfl (by decide) (by decide) (by decide) rfl ?_)
                              rintro _ rfl
                              refine list_guard_y rfl rfl rfl rfl (by decide) rfl ?_
                              refine id (op_q (q_bne Tryd.underlying4 rfl rfl (by decide)) ?_)
                              refine list_cons rfl (op_q (q_pick rfl rfl (by decide)) ?_)
                              refine list_cons rfl (op_q (q_move rfl (by decide)) ?_)
                              refine list_guard_d rfl rfl rfl rfl (by decide) rfl (by decide) (fun h16 => ?_) (fun h16 => ?_)
                              · simp only [Bool.false_eq_true, if_true, if_false, Decidable.not_not] at h16
                                (try simp only [Decidable.not_not] at h16); (try have hgp1 := gapI_pos h16)
                                refine id (op_q (q_move rfl (by decide)) ?_)
                                refine list_guard_y rfl rfl rfl rfl (by decide) rfl ?_
                                refine id (op_q (q_move rfl (by decide)) ?_)
                                refine list_guard_y rfl rfl rfl rfl (by decide) rfl ?_
                                refine id (op_call _ (impl_IsCode _ (by omega)) rfl rfl (by decide) (by decide) (by decide) rfl ?_)
                                rintro _ rfl
                                refine list_guard_y rfl rfl rfl rfl (by decide) rfl ?_
                                refine id (op_q (q_bne Tryd.underlying4 rfl rfl (by decide)) ?_)
                                refine list_cons rfl (op_q (q_pick rfl rfl (by decide)) ?_)
                                refine list_cons rfl (op_q (q_move rfl (by decide)) ?_)
                                refine list_guard_d rfl rfl rfl rfl (by decide) rfl (by decide) (fun h17 => ?_) (fun h17 => ?_)
                                · simp only [Bool.false_eq_true, if_true, if_false, Decidable.not_not] at h17
                                  (try simp only [Decidable.not_not] at h17); (try have hgp1 := gapI_pos h17)
                                  refine id (op_q (q_move rfl (by decide)) ?_)
                                  refine list_guard_y rfl rfl rfl rfl (by decide) rfl ?_
                                  refine id (op_q (q_move rfl (by decide)) ?_)
                                  refine list_guard_y rfl rfl rfl rfl (by decide) rfl ?_
                                  refine id (op_q (q_bne Tryd.underlying4 rfl rfl (by decide)) ?_)
                                  refine list_cons rfl (op_q (q_pick rfl rfl (by decide)) ?_)
                                  refine list_cons rfl (op_q (q_move rfl (by decide)) ?_)
                                  refine list_guard_d rfl rfl rfl rfl (by decide) rfl (by decide) (fun h18 => ?_) (fun h18 => ?_)
                                  · simp only [Bool.false_eq_true, if_true, if_false, Decidable.not_not] at h18
                                    (try simp only [Decidable.not_not] at h18); (try have hgp1 := gapI_pos h18)
                                    refine id (op_q (q_move rfl (by decide)) ?_)
                                    refine list_guard_y rfl rfl rfl rfl (by decide) rfl ?_
                                    refine id (op_q (q_move rfl (by decide)) ?_)
                                    refine list_guard_y rfl rfl rfl rfl (by decide) rfl ?_
                                    refine id (op_q (q_bne Tryd.underlying4 rfl rfl (by decide)) ?_)
                                    refine list_cons rfl (op_q (q_pick rfl rfl (by decide)) ?_)
                                    refine list_nil ?_
                                    refine hK24 _ ?_; clear hK24 K24
                                    refine codeT.imp (σ' := ((0, .ext _) :: (2, .val (.bool _)) :: (3, .own 55 3 1 _ _) :: (4, .val (.int .i64 _)) :: (5, .val (.bool _)) :: (6, .val (.int .i64 _)) :: (7, .val (.bool _)) :: (8, .own 68 56 2 _ _) :: (9, .val (.bool _)) :: (10, .own 73 56 2 _ _) :: (11, .val (.bool _)) :: (12, .val (.int .i64 _)) :: (13, .val (.bool _)) :: (14, .val (.int .i64 _)) :: (15, .val (.bool _)) :: (16, .val (.int .i64 _)) :: (17, .val (.bool _)) :: (18, .val (.int .i64 _)) :: (19, .val (.bool _)) :: (20, .own 99 3 1 _ _) :: (21, .val (.int .i64 _)) :: (22, .own 105 3 1 _ _) :: (23, .val (.bool _)) :: (24, .own 111 3 1 _ _) :: (25, .val (.bool _)) :: (26, .own 117 3 1 _ _) :: (27, .val (.int .i64 _)) :: (28, .val (.int .i64 _)) :: (29, .val (.bool _)) :: (30, .val (.int .i64 _)) :: (31, .val (.bool _)) :: (32, .own 133 3 1 _ _) :: (33, .own 136 3 1 _ _) :: (34, .val (.bool _)) :: (35, .own 141 3 1 _ _) :: (36, .val (.bool _)) :: (237, .val (.bool _)) :: [])) ?_ (imp_covers ⟨rfl, rfl, rfl, rfl, rfl, rfl, rfl, rfl, rfl, rfl, rfl, rfl, rfl, rfl, rfl, rfl, rfl, rfl, rfl, rfl, rfl, rfl, rfl, rfl, rfl, rfl, rfl, rfl, rfl, rfl, rfl, rfl, rfl, rfl, rfl, rfl, rfl, trivial⟩)
                                    refine code_cond_d rfl (fun h19 => ?_) (fun h19 => ?_)
                                    · skip
                                      (try simp only [Decidable.not_not] at h19); (try have hgp1 := gapI_pos h19)
                                      exfalso
                                      first | exact absurd rfl h19 | exact h19 trivial | (simp at h19; done)
                                    (try simp only [Decidable.not_not] at h19); (try have hgp1 := gapI_pos h19)
                                    refine code_skip ?_
                                    refine hK23 _ ?_; clear hK23 K23
                                    refine codeT.imp (σ' := [(2, .val (.bool _)), (3, .own 55 3 1 _ _), (4, .val (.int .i64 _)), (5, .val (.bool _)), (8, .own 68 56 2 _ _), (12, .val (.int .i64 _)), (13, .val (.bool _)), (16, .val (.int .i64 _)), (20, .own 99 3 1 _ _), (21, .val (.int .i64 _)), (22, .own 105 3 1 _ _), (23, .val (.bool _)), (26, .own 117 3 1 _ _), (29, .val (.bool _)), (32, .own 133 3 1 _ _), (33, .own 136 3 1 _ _), (34, .val (.bool _))]) ?_ (imp_covers ⟨rfl, rfl, rfl, rfl, rfl, rfl, rfl, rfl, rfl, rfl, rfl, rfl, rfl, rfl, rfl, rfl, rfl, trivial⟩)
                                    refine code_seq_same ?_ ?_
                                    · skip
                                      refine code_seq (fun K25 hK25 => ?_)
                                      refine code_region ?_
                                      refine list_cons rfl (op_q (q_move rfl (by decide)) ?_)
                                      refine list_nil ?_
                                      refine hK25 _ ?_; clear hK25 K25
                                      refine code_cond_d rfl (fun h20 => ?_) (fun h20 => ?_)
                                      · skip
                                        (try simp only [Decidable.not_not] at h20); (try have hgp1 := gapI_pos h20)
                                        refine codeT.imp (σ' := [(2, .val (.bool _)), (3, .own 55 3 1 _ _), (4, .val (.int .i64 _)), (5, .val (.bool _)), (8, .own 68 56 2 _ _), (12, .val (.int .i64 _)), (13, .val (.bool _)), (16, .val (.int .i64 _)), (20, .own 99 3 1 _ _), (21, .val (.int .i64 _)), (22, .own 105 3 1 _ _), (23, .val (.bool _)), (26, .own 117 3 1 _ _), (29, .val (.bool _)), (32, .own 133 3 1 _ _), (33, .own 136 3 1 _ _), (34, .val (.bool _))]) ?_ (imp_covers ⟨rfl, rfl, rfl, rfl, rfl, rfl, rfl, rfl, rfl, rfl, rfl, rfl, rfl, rfl, rfl, rfl, rfl, trivial⟩)
                                        refine code_seq_same ?_ ?_
                                        · skip
                                          refine code_seq (fun K26 hK26 => ?_)
                                          refine code_region ?_
                                          refine list_cons rfl (op_q (q_move rfl (by decide)) ?_)
                                          refine list_cons rfl (op_q (q_len_sl Tryd.underlying45 rfl rfl (by decide)) ?_)
                                          refine list_cons rfl (op_q (q_eq rfl rfl (by decide)) ?_)
                                          refine list_cons rfl (op_q (q_move rfl (by decide)) ?_)
                                          refine list_cons rfl (op_q (q_len_sl Tryd.underlying24 rfl rfl (by decide)) ?_)
                                          refine list_cons rfl (op_q (q_eq rfl rfl (by decide)) ?_)
                                          refine list_cons rfl (op_q (q_bne Tryd.underlying4 rfl rfl (by decide)) ?_)
                                          refine list_cons rfl (op_q (q_move rfl (by decide)) ?_)
                                          refine list_guard_d rfl rfl rfl rfl (by decide) rfl (by decide) (fun h21 => ?_) (fun h21 => ?_)
                                          · simp only [Bool.false_eq_true, if_true, if_false, Decidable.not_not] at h21
                                            (try simp only [Decidable.not_not] at h21); (try have hgp1 := gapI_pos h21)
                                            refine id (op_q (q_move rfl (by decide)) ?_)
                                            refine list_guard_y rfl rfl rfl rfl (by decide) rfl ?_
                                            refine id (op_q (q_move rfl (by decide)) ?_)
                                            refine list_guard_y rfl rfl rfl rfl (by decide) rfl ?_
                                            refine id (op_q (q_len_sl Tryd.underlying24 rfl rfl (by decide)) ?_)
                                            refine list_guard_y rfl rfl rfl rfl (by decide) rfl ?_
                                            refine id (op_q (q_gt rfl rfl (by decide)) ?_)
                                            refine list_guard_y rfl rfl rfl rfl (by decide) rfl ?_
                                            refine id (op_q (q_bne Tryd.underlying4 rfl rfl (by decide)) ?_)
                                            refine list_cons rfl (op_q (q_pick rfl rfl (by decide)) ?_)
                                            refine list_cons rfl (op_q (q_move rfl (by decide)) ?_)
                                            refine list_guard_d rfl rfl rfl rfl (by decide) rfl (by decide) (fun h22 => ?_) (fun h22 => ?_)
                                            · simp only [Bool.false_eq_true, if_true, if_false, Decidable.not_not] at h22
                                              (try simp only [Decidable.not_not] at h22); (try have hgp1 := gapI_pos h22)
                                              refine id (op_q (q_move rfl (by decide)) ?_)
                                              refine list_guard_y rfl rfl rfl rfl (by decide) rfl ?_
                                              refine id (op_q (q_move rfl (by decide)) ?_)
                                              refine list_guard_d rfl rfl rfl rfl (by decide) rfl (by decide) (fun h23 => ?_) (fun h23 => ?_)
                                              · simp only [Bool.false_eq_true, if_true, if_false, Decidable.not_not] at h23
                                                (try simp only [Decidable.not_not] at h23); (try have hgp1 := gapI_pos h23)
                                                refine id (op_q (q_move rfl (by decide)) ?_)
                                                refine list_guard_y rfl rfl rfl rfl (by decide) rfl ?_
                                                refine id (op_q (q_move rfl (by decide)) ?_)
                                                refine list_guard_y rfl rfl rfl rfl (by decide) rfl ?_
                                                refine id (op_q (by first | exact q_subI rfl rfl (by decide) (by omega) (by omega) | exact q_ib rfl rfl rfl (by decide)) ?_)
                                                refine list_guard_y rfl rfl rfl rfl (by decide) rfl ?_
                                                refine id (op_q (q_ne rfl rfl (by decide)) ?_)
                                                refine list_guard_y rfl rfl rfl rfl (by decide) rfl ?_
                                                refine id (op_q (q_move rfl (by decide)) ?_)
                                                refine list_guard_d rfl rfl rfl rfl (by decide) rfl (by decide) (fun h24 => ?_) (fun h24 => ?_)
                                                · simp only [Bool.false_eq_true, if_true, if_false, Decidable.not_not] at h24
                                                  (try simp only [Decidable.not_not] at h24); (try have hgp1 := gapI_pos h24)
                                                  refine id (op_q (q_move rfl (by decide)) ?_)
                                                  refine list_guard_y rfl rfl rfl rfl (by decide) rfl ?_
                                                  refine id (op_q (q_move rfl (by decide)) ?_)
                                                  refine list_guard_y rfl rfl rfl rfl (by decide) rfl ?_
                                                  refine id (op_q (by first | exact q_subI rfl rfl (by decide) (by omega) (by omega) | exact q_ib rfl rfl rfl (by decide)) ?_)
                                                  refine list_guard_y rfl rfl rfl rfl (by decide) rfl ?_
                                                  refine id (op_q (by first | exact q_quoI rfl rfl (by decide) (by omega) (by omega) (by omega) | exact q_quoT rfl rfl (by omega) (by decide) (by omega) (by omega) | exact q_quo rfl rfl (by omega) (by decide)) ?_)
                                                  refine list_guard_y rfl rfl rfl rfl (by decide) rfl ?_
                                                  refine id (op_q (q_ne rfl rfl (by decide)) ?_)
                                                  refine list_guard_y rfl rfl rfl rfl (by decide) rfl ?_
                                                  refine id (op_q (q_pick rfl rfl (by decide)) ?_)
                                                  refine list_guard_y rfl rfl rfl rfl (by decide) rfl ?_
                                                  refine id (op_q (q_pick rfl rfl (by decide)) ?_)
                                                  refine list_cons rfl (op_q (q_pick rfl rfl (by decide)) ?_)
                                                  refine list_nil ?_
                                                  refine hK26 _ ?_; clear hK26 K26
                                                  refine codeT.imp (σ' := [(2, .val (.bool _)), (3, .own 55 3 1 _ _), (4, .val (.int .i64 _)), (5, .val (.bool _)), (8, .own 68 56 2 _ _), (12, .val (.int .i64 _)), (13, .val (.bool _)), (16, .val (.int .i64 _)), (20, .own 99 3 1 _ _), (21, .val (.int .i64 _)), (22, .own 105 3 1 _ _), (23, .val (.bool _)), (26, .own 117 3 1 _ _), (29, .val (.bool _)), (32, .own 133 3 1 _ _), (33, .own 136 3 1 _ _), (34, .val (.bool _)), (268, .val (.bool _))]) ?_ (imp_covers ⟨rfl, rfl, rfl, rfl, rfl, rfl, rfl, rfl, rfl, rfl, rfl, rfl, rfl, rfl, rfl, rfl, rfl, rfl, trivial⟩)
                                                  refine code_cond_d rfl (fun h25 => ?_) (fun h25 => ?_)
                                                  · skip
                                                    (try simp only [Decidable.not_not] at h25); (try have hgp1 := gapI_pos h25)
                                                    exfalso
                                                    have hC : CodeP l := by assumption
                                                    have hS : CodeP l ∧ ¬ ((l.length : Int) = 1) := by assumption
                                                    first | exact h25 trivial | (rw [if_pos hS, if_pos hC] at h25; exact h25 rfl)
                                                  (try simp only [Decidable.not_not] at h25); (try have hgp1 := gapI_pos h25)
                                                  refine code_skip ?_
                                                  exact then_n (imp_covers ⟨rfl, rfl, rfl, rfl, rfl, rfl, rfl, rfl, rfl, rfl, rfl, rfl, rfl, rfl, rfl, rfl, rfl, trivial⟩)
                                                simp only [Bool.false_eq_true, if_true, if_false, Decidable.not_not] at h24
                                                (try simp only [Decidable.not_not] at h24); (try have hgp1 := gapI_pos h24)
                                                exfalso
                                                have hC : CodeP l := by assumption
                                                have hS : CodeP l ∧ ¬ ((l.length : Int) = 1) := by assumption
                                                rw [if_pos hS, if_pos hC] at h24; exact h24 rfl
                                              simp only [Bool.false_eq_true, if_true, if_false, Decidable.not_not] at h23
                                              (try simp only [Decidable.not_not] at h23); (try have hgp1 := gapI_pos h23)
                                              refine list_guard_nT rfl rfl rfl rfl (by decide) (by decide) ?_
                                              refine list_guard_nT rfl rfl rfl rfl (by decide) (by decide) ?_
                                              refine list_guard_nT rfl rfl rfl rfl (by decide) (by decide) ?_
                                              refine list_guard_nT rfl rfl rfl rfl (by decide) (by decide) ?_
                                              refine list_guard_u rfl rfl rfl rfl (by decide) (by decide) ?_
                                              refine list_guard_u rfl rfl rfl rfl (by decide) (by decide) ?_
                                              refine list_guard_u rfl rfl rfl rfl (by decide) (by decide) ?_
                                              refine list_guard_u rfl rfl rfl rfl (by decide) (by decide) ?_
                                              refine list_guard_u rfl rfl rfl rfl (by decide) (by decide) ?_
                                              refine list_guard_nT rfl rfl rfl rfl (by decide) (by decide) ?_
                                              refine list_guard_y rfl rfl rfl rfl (by decide) rfl ?_
                                              refine id (op_q (q_pick rfl rfl (by decide)) ?_)
                                              refine list_cons rfl (op_q (q_pick rfl rfl (by decide)) ?_)
                                              refine list_nil ?_
                                              refine hK26 _ ?_; clear hK26 K26
                                              refine codeT.imp (σ' := [(2, .val (.bool _)), (3, .own 55 3 1 _ _), (4, .val (.int .i64 _)), (5, .val (.bool _)), (8, .own 68 56 2 _ _), (12, .val (.int .i64 _)), (13, .val (.bool _)), (16, .val (.int .i64 _)), (20, .own 99 3 1 _ _), (21, .val (.int .i64 _)), (22, .own 105 3 1 _ _), (23, .val (.bool _)), (26, .own 117 3 1 _ _), (29, .val (.bool _)), (32, .own 133 3 1 _ _), (33, .own 136 3 1 _ _), (34, .val (.bool _)), (268, .val (.bool _))]) ?_ (imp_covers ⟨rfl, rfl, rfl, rfl, rfl, rfl, rfl, rfl, rfl, rfl, rfl, rfl, rfl, rfl, rfl, rfl, rfl, rfl, trivial⟩)
                                              refine code_cond_f rfl ?_
                                              refine code_skip ?_
                                              exact then_n (imp_covers ⟨rfl, rfl, rfl, rfl, rfl, rfl, rfl, rfl, rfl, rfl, rfl, rfl, rfl, rfl, rfl, rfl, rfl, trivial⟩)
                                            simp only [Bool.false_eq_true, if_true, if_false, Decidable.not_not] at h22
                                            (try simp only [Decidable.not_not] at h22); (try have hgp1 := gapI_pos h22)
                                            exfalso
                                            have hC : CodeP l := by assumption
                                            exact h22 (decide_eq_decide.mpr ⟨fun e => by have := hC.1; have := e.2; omega, fun e => ⟨hC, by omega⟩⟩)
                                          simp only [Bool.false_eq_true, if_true, if_false, Decidable.not_not] at h21
                                          (try simp only [Decidable.not_not] at h21); (try have hgp1 := gapI_pos h21)
                                          exfalso
                                          have hC : CodeP l := by assumption
                                          exact h21 (decide_eq_decide.mpr (by rw [if_pos hC]; exact gap_len hC))
                                        refine code_seq (fun K27 hK27 => ?_)
                                        refine code_seq (fun K28 hK28 => ?_)
                                        refine code_region ?_
                                        refine list_cons rfl (op_q (q_assign rfl (by decide)) ?_)
                                        refine list_nil ?_
                                        refine hK28 _ ?_; clear hK28 K28
                                        refine code_block ?_
                                        refine code_loop (X := Int) (fun x => [(2, .val (.bool false)), (3, .own 55 3 1 (l).length ((l).map (.int .i64))), (4, .val (.int .i64 (if CodeP l then gpL l l.length else 0))), (5, .val (.bool (decide (CodeP l)))), (8, .own 68 56 2 (if CodeP l then prL l (gpL l l.length) l.length else []).length (fl (if CodeP l then prL l (gpL l l.length) l.length else []))), (12, .val (.int .i64 (if CodeP l ∧ ¬ ((l.length : Int) = 1) then (gpL l l.length - 1) / 2 else 0))), (13, .val (.bool (decide (CodeP l ∧ ¬ ((l.length : Int) = 1))))), (16, .val (.int .i64 (if CodeP l ∧ ¬ ((l.length : Int) = 1) then gpL l l.length - 1 else 0))), (20, .own 99 3 1 (u).length ((u).map (.int .i64))), (21, .val (.int .i64 bars)), (22, .own 105 3 1 (if CodeP u ∧ 0 ≤ bars ∧ bars ≤ 127 then flp u bars else []).length ((if CodeP u ∧ 0 ≤ bars ∧ bars ≤ 127 then flp u bars else []).map (.int .i64))), (23, .val (.bool (decide (CodeP u ∧ 0 ≤ bars ∧ bars ≤ 127)))), (26, .own 117 3 1 (v).length ((v).map (.int .i64))), (29, .val (.bool (decide (CodeP v ∧ 1 ≤ d ∧ d ≤ 7)))), (32, .own 133 3 1 (g).length ((g).map (.int .i64))), (33, .own 136 3 1 (if DigP g then dcd g else []).length ((if DigP g then dcd g else []).map (.int .i64))), (34, .val (.bool (decide (DigP g)))), (37, .val (.int .i64 x))]) (fun x => 0 ≤ x ∧ x ≤ (if CodeP l then prL l (gpL l l.length) l.length else []).length) (fun x => (if CodeP l then prL l (gpL l l.length) l.length else []).length - x.toNat) (_) (imp_covers ⟨rfl, rfl, rfl, rfl, rfl, rfl, rfl, rfl, rfl, rfl, rfl, rfl, rfl, rfl, rfl, rfl, rfl, rfl, trivial⟩) ?_ ?_
                                        · (try dsimp only)
                                          exact ⟨by omega, by omega⟩
                                        · intro x hI
                                          revert hI; revert x; intro i hI
                                          replace hI : 0 ≤ i ∧ i ≤ (if CodeP l then prL l (gpL l l.length) l.length else []).length := hI
                                          show codeT _ _ _ [(2, .val (.bool false)), (3, .own 55 3 1 (l).length ((l).map (.int .i64))), (4, .val (.int .i64 (if CodeP l then gpL l l.length else 0))), (5, .val (.bool (decide (CodeP l)))), (8, .own 68 56 2 (if CodeP l then prL l (gpL l l.length) l.length else []).length (fl (if CodeP l then prL l (gpL l l.length) l.length else []))), (12, .val (.int .i64 (if CodeP l ∧ ¬ ((l.length : Int) = 1) then (gpL l l.length - 1) / 2 else 0))), (13, .val (.bool (decide (CodeP l ∧ ¬ ((l.length : Int) = 1))))), (16, .val (.int .i64 (if CodeP l ∧ ¬ ((l.length : Int) = 1) then gpL l l.length - 1 else 0))), (20, .own 99 3 1 (u).length ((u).map (.int .i64))), (21, .val (.int .i64 bars)), (22, .own 105 3 1 (if CodeP u ∧ 0 ≤ bars ∧ bars ≤ 127 then flp u bars else []).length ((if CodeP u ∧ 0 ≤ bars ∧ bars ≤ 127 then flp u bars else []).map (.int .i64))), (23, .val (.bool (decide (CodeP u ∧ 0 ≤ bars ∧ bars ≤ 127)))), (26, .own 117 3 1 (v).length ((v).map (.int .i64))), (29, .val (.bool (decide (CodeP v ∧ 1 ≤ d ∧ d ≤ 7)))), (32, .own 133 3 1 (g).length ((g).map (.int .i64))), (33, .own 136 3 1 (if DigP g then dcd g else []).length ((if DigP g then dcd g else []).map (.int .i64))), (34, .val (.bool (decide (DigP g)))), (37, .val (.int .i64 i))] _
                                          obtain ⟨i1, i2⟩ := hI
                                          have hC : CodeP l := by assumption
                                          have hpm := prI_at hC i.toNat
                                          refine code_seq (fun K29 hK29 => ?_)
                                          refine code_seq (fun K30 hK30 => ?_)
                                          refine code_region ?_
                                          refine list_cons rfl (op_q (q_move rfl (by decide)) ?_)
                                          refine list_cons rfl (op_q (q_move rfl (by decide)) ?_)
                                          refine list_cons rfl (op_q (q_len_sl Tryd.underlying45 rfl rfl (by decide)) ?_)
                                          refine list_cons rfl (op_q (q_lt rfl rfl (by decide)) ?_)
                                          refine list_nil ?_
                                          refine hK30 _ ?_; clear hK30 K30
                                          refine code_cond_d rfl (fun h26 => ?_) (fun h26 => ?_)
                                          · skip
                                            (try simp only [Decidable.not_not] at h26); (try have hgp1 := gapI_pos h26)
                                            refine code_skip ?_
                                            refine hK29 _ ?_; clear hK29 K29
                                            refine code_seq (fun K31 hK31 => ?_)
                                            refine code_block ?_
                                            refine code_seq (fun K32 hK32 => ?_)
                                            refine any_start fun ob1_0 => ?_
                                            refine any_op (rd := [3]) ob1_0 rfl rfl rfl (anyT_quiet [(3, _)] ⟨rfl, trivial⟩ rfl (q_move rfl (by decide))) (fun ob1_1 => ?_)
                                            simp only [List.cons_append, List.nil_append] at ob1_1
                                            refine any_op (rd := [8]) ob1_1 rfl rfl rfl (anyT_quiet [(8, _)] ⟨rfl, trivial⟩ rfl (q_move rfl (by decide))) (fun ob1_2 => ?_)
                                            simp only [List.cons_append, List.nil_append] at ob1_2
                                            refine any_op (rd := [37]) ob1_2 rfl rfl rfl (anyT_quiet [(37, _)] ⟨rfl, trivial⟩ rfl (q_move rfl (by decide))) (fun ob1_3 => ?_)
                                            simp only [List.cons_append, List.nil_append] at ob1_3
                                            refine any_op (rd := [277, 278]) ob1_3 rfl rfl rfl (anyT_quiet [(277, _), (278, _)] ⟨rfl, rfl, trivial⟩ rfl (q_indexAddr_own sl_45 rfl rfl (by omega) (by omega) (by decide))) (fun ob1_4 => ?_)
                                            simp only [List.cons_append, List.nil_append] at ob1_4
                                            refine any_op (rd := [279]) ob1_4 rfl rfl rfl (anyT_quiet [(279, _)] ⟨rfl, trivial⟩ rfl (q_indexAddr_arr arr_56 rfl rfl rfl (by omega) (by omega) (by decide))) (fun ob1_5 => ?_)
                                            simp only [List.cons_append, List.nil_append] at ob1_5
                                            refine any_op (rd := [280, 8]) ob1_5 rfl rfl rfl (anyT_quiet [(280, _), (8, _)] ⟨rfl, rfl, trivial⟩ rfl (q_load one_3 8 rfl rfl rfl (by first | exact pr_ld0 (by omega) | exact pr_ld1 (by omega) | exact get_map1 _ 0 _ (by first | omega | (simp; omega))) (by decide))) (fun ob1_6 => ?_)
                                            simp only [List.cons_append, List.nil_append] at ob1_6
                                            refine any_op (rd := [276, 281]) ob1_6 rfl rfl rfl (anyT_quiet [(276, _), (281, _)] ⟨rfl, rfl, trivial⟩ rfl (q_indexAddr_own sl_24 rfl rfl (by omega) (by omega) (by decide))) (fun ob1_7 => ?_)
                                            simp only [List.cons_append, List.nil_append] at ob1_7
                                            refine any_op (rd := [282, 3]) ob1_7 rfl rfl rfl (anyT_quiet [(282, _), (3, _)] ⟨rfl, rfl, trivial⟩ rfl (q_load one_3 3 rfl rfl rfl (by first | exact pr_ld0 (by omega) | exact pr_ld1 (by omega) | exact get_map1 _ 0 _ (by first | omega | (simp; omega))) (by decide))) (fun ob1_8 => ?_)
                                            simp only [List.cons_append, List.nil_append] at ob1_8
                                            refine any_op (rd := [3]) ob1_8 rfl rfl rfl (anyT_quiet [(3, _)] ⟨rfl, trivial⟩ rfl (q_move rfl (by decide))) (fun ob1_9 => ?_)
                                            simp only [List.cons_append, List.nil_append] at ob1_9
                                            refine any_op (rd := [8]) ob1_9 rfl rfl rfl (anyT_quiet [(8, _)] ⟨rfl, trivial⟩ rfl (q_move rfl (by decide))) (fun ob1_10 => ?_)
                                            simp only [List.cons_append, List.nil_append] at ob1_10
                                            refine any_op (rd := [37]) ob1_10 rfl rfl rfl (anyT_quiet [(37, _)] ⟨rfl, trivial⟩ rfl (q_move rfl (by decide))) (fun ob1_11 => ?_)
                                            simp only [List.cons_append, List.nil_append] at ob1_11
                                            refine any_op (rd := [285, 286]) ob1_11 rfl rfl rfl (anyT_quiet [(285, _), (286, _)] ⟨rfl, rfl, trivial⟩ rfl (q_indexAddr_own sl_45 rfl rfl (by omega) (by omega) (by decide))) (fun ob1_12 => ?_)
                                            simp only [List.cons_append, List.nil_append] at ob1_12
                                            refine any_op (rd := [287]) ob1_12 rfl rfl rfl (anyT_quiet [(287, _)] ⟨rfl, trivial⟩ rfl (q_indexAddr_arr arr_56 rfl rfl rfl (by omega) (by omega) (by decide))) (fun ob1_13 => ?_)
                                            simp only [List.cons_append, List.nil_append] at ob1_13
                                            refine any_op (rd := [288, 8]) ob1_13 rfl rfl rfl (anyT_quiet [(288, _), (8, _)] ⟨rfl, rfl, trivial⟩ rfl (q_load one_3 8 rfl rfl rfl (by first | exact pr_ld0 (by omega) | exact pr_ld1 (by omega) | exact get_map1 _ 0 _ (by first | omega | (simp; omega))) (by decide))) (fun ob1_14 => ?_)
                                            simp only [List.cons_append, List.nil_append] at ob1_14
                                            refine any_op (rd := [284, 289]) ob1_14 rfl rfl rfl (anyT_quiet [(284, _), (289, _)] ⟨rfl, rfl, trivial⟩ rfl (q_indexAddr_own sl_24 rfl rfl (by omega) (by omega) (by decide))) (fun ob1_15 => ?_)
                                            simp only [List.cons_append, List.nil_append] at ob1_15
                                            refine any_op (rd := [290, 3]) ob1_15 rfl rfl rfl (anyT_quiet [(290, _), (3, _)] ⟨rfl, rfl, trivial⟩ rfl (q_load one_3 3 rfl rfl rfl (by first | exact pr_ld0 (by omega) | exact pr_ld1 (by omega) | exact get_map1 _ 0 _ (by first | omega | (simp; omega))) (by decide))) (fun ob1_16 => ?_)
                                            simp only [List.cons_append, List.nil_append] at ob1_16
                                            refine any_op (rd := [283, 291]) ob1_16 rfl rfl rfl (fun σ hag hfr => by have e283 : σ.at 283 = some _ := (hag 283 (by decide)).trans rfl; have e291 : σ.at 291 = some _ := (hag 291 (by decide)).trans rfl; exact op_call _ (impl_FarCells _ _) (evs_cons e283 (evs_cons e291 evs_nil)) rfl (by decide) (by decide) (by decide) hfr (fun rs hR => by subst hR; rfl)) (fun ob1_17 => ?_)
                                            simp only [List.cons_append, List.nil_append] at ob1_17
                                            refine any_op (rd := [292]) ob1_17 rfl rfl rfl (anyT_quiet [(292, _)] ⟨rfl, trivial⟩ rfl (q_move rfl (by decide))) (fun ob1_18 => ?_)
                                            simp only [List.cons_append, List.nil_append] at ob1_18
                                            refine any_op (rd := [275]) ob1_18 rfl rfl rfl (anyT_quiet [(275, _)] ⟨rfl, trivial⟩ rfl (q_extract rfl rfl (by decide))) (fun ob1_19 => ?_)
                                            simp only [List.cons_append, List.nil_append] at ob1_19
                                            refine any_op (rd := [275]) ob1_19 rfl rfl rfl (anyT_quiet [(275, _)] ⟨rfl, trivial⟩ rfl (q_extract rfl rfl (by decide))) (fun ob1_20 => ?_)
                                            simp only [List.cons_append, List.nil_append] at ob1_20
                                            refine any_op (rd := [293]) ob1_20 rfl rfl rfl (anyT_quiet [(293, _)] ⟨rfl, trivial⟩ rfl (q_assign rfl (by decide))) (fun ob1_21 => ?_)
                                            simp only [List.cons_append, List.nil_append] at ob1_21
                                            refine any_end [[], [], [], [1, 2], [1, 2, 3], [1, 2, 3, 4], [0, 1, 2, 3, 4, 5], [0, 1, 2, 3, 4, 5, 6], [], [], [], [9, 10], [9, 10, 11], [9, 10, 11, 12], [8, 9, 10, 11, 12, 13], [8, 9, 10, 11, 12, 13, 14], [0, 1, 2, 3, 4, 5, 6, 7, 8, 9, 10, 11, 12, 13, 14, 15], [0, 1, 2, 3, 4, 5, 6, 7, 8, 9, 10, 11, 12, 13, 14, 15, 16], [0, 1, 2, 3, 4, 5, 6, 7, 8, 9, 10, 11, 12, 13, 14, 15, 16, 17], [0, 1, 2, 3, 4, 5, 6, 7, 8, 9, 10, 11, 12, 13, 14, 15, 16, 17], [0, 1, 2, 3, 4, 5, 6, 7, 8, 9, 10, 11, 12, 13, 14, 15, 16, 17, 18], [0, 1, 2, 3, 4, 5, 6, 7, 8, 9, 10, 11, 12, 13, 14, 15, 16, 17, 18, 19, 20]] ob1_21 (by kernel_rfl) (Nat.le_of_ble_eq_true rfl) (by decide) (by decide) (by kernel_rfl) (by kernel_rfl) (by kernel_rfl) (by kernel_rfl) (by kernel_rfl) ?_
                                            clear ob1_0 ob1_1 ob1_2 ob1_3 ob1_4 ob1_5 ob1_6 ob1_7 ob1_8 ob1_9 ob1_10 ob1_11 ob1_12 ob1_13 ob1_14 ob1_15 ob1_16 ob1_17 ob1_18 ob1_19 ob1_20 ob1_21
                                            refine listT.imp (σ' := ((2, _) :: (3, _) :: (4, _) :: (5, _) :: (8, _) :: (12, _) :: (13, _) :: (16, _) :: (20, _) :: (21, _) :: (22, _) :: (23, _) :: (26, _) :: (29, _) :: (32, _) :: (33, _) :: (34, _) :: (37, _) :: (38, _) :: (269, _) :: (270, _) :: (271, _) :: (272, _) :: (275, _) :: (276, _) :: (277, _) :: (278, _) :: (279, _) :: (280, _) :: (281, _) :: (282, _) :: (283, _) :: (284, _) :: (285, _) :: (286, _) :: (287, _) :: (288, _) :: (289, _) :: (290, _) :: (291, _) :: (292, _) :: (293, _) :: (294, _) :: [])) ?_ (imp_covers ⟨rfl, rfl, rfl, rfl, rfl, rfl, rfl, rfl, rfl, rfl, rfl, rfl, rfl, rfl, rfl, rfl, rfl, rfl, rfl, rfl, rfl, rfl, rfl, rfl, rfl, rfl, rfl, rfl, rfl, rfl, rfl, rfl, rfl, rfl, rfl, rfl, rfl, rfl, rfl, rfl, rfl, rfl, rfl, trivial⟩)
                                            refine list_cons rfl (op_q (q_assign rfl (by decide)) ?_)
                                            refine list_nil ?_
                                            refine hK32 _ ?_; clear hK32 K32
                                            refine codeT.imp (σ' := [(2, .val (.bool _)), (3, .own 55 3 1 _ _), (4, .val (.int .i64 _)), (5, .val (.bool _)), (8, .own 68 56 2 _ _), (12, .val (.int .i64 _)), (13, .val (.bool _)), (16, .val (.int .i64 _)), (20, .own 99 3 1 _ _), (21, .val (.int .i64 _)), (22, .own 105 3 1 _ _), (23, .val (.bool _)), (26, .own 117 3 1 _ _), (29, .val (.bool _)), (32, .own 133 3 1 _ _), (33, .own 136 3 1 _ _), (34, .val (.bool _)), (37, .val (.int .i64 _)), (38, .val (.int .i64 _)), (39, .val (.bool _))]) ?_ (imp_covers ⟨rfl, rfl, rfl, rfl, rfl, rfl, rfl, rfl, rfl, rfl, rfl, rfl, rfl, rfl, rfl, rfl, rfl, rfl, rfl, rfl, trivial⟩)
                                            refine code_seq (fun K33 hK33 => ?_)
                                            refine code_draw (by kernel_rfl) (by kernel_rfl) ?_
                                            refine draw_q rfl (q_move rfl (by decide)) ?_
                                            refine draw_q rfl (by first | exact q_notd rfl (by decide) | exact q_not rfl (by decide)) ?_
                                            refine draw_q rfl (q_move rfl (by decide)) ?_
                                            refine draw_guard_d rfl rfl rfl rfl (by decide) rfl (by decide) (fun h27 => q_move rfl (by decide)) (fun h27 => ?_) (fun h27 => ?_)
                                            · simp only [Bool.false_eq_true, if_true, if_false, Decidable.not_not] at h27
                                              (try simp only [Decidable.not_not] at h27); (try have hgp1 := gapI_pos h27)
                                              refine draw_guard_y rfl rfl rfl rfl (by decide) rfl (q_move rfl (by decide)) ?_
                                              refine draw_guard_y rfl rfl rfl rfl (by decide) rfl (q_ne rfl rfl (by decide)) ?_
                                              refine draw_q rfl (q_pick rfl rfl (by decide)) ?_
                                              refine draw_q rfl (q_move rfl (by decide)) ?_
                                              refine draw_guard_d rfl rfl rfl rfl (by decide) rfl (by decide) (fun h28 => q_move rfl (by decide)) (fun h28 => ?_) (fun h28 => ?_)
                                              · simp only [Bool.false_eq_true, if_true, if_false, Decidable.not_not] at h28
                                                (try simp only [Decidable.not_not] at h28); (try have hgp1 := gapI_pos h28)
                                                refine draw_guard_y rfl rfl rfl rfl (by decide) rfl (q_move rfl (by decide)) ?_
                                                refine draw_guard_y rfl rfl rfl rfl (by decide) rfl (q_indexAddr_own sl_45 rfl rfl (by omega) (by omega) (by decide)) ?_
                                                refine draw_guard_y rfl rfl rfl rfl (by decide) rfl (q_indexAddr_arr arr_56 rfl rfl rfl (by omega) (by omega) (by decide)) ?_
                                                refine draw_guard_y rfl rfl rfl rfl (by decide) rfl (q_load one_3 8 rfl rfl rfl (by first | exact pr_ld0 (by omega) | exact pr_ld1 (by omega)) (by decide)) ?_
                                                refine draw_guard_y rfl rfl rfl rfl (by decide) rfl (q_move rfl (by decide)) ?_
                                                refine draw_guard_y rfl rfl rfl rfl (by decide) rfl (q_move rfl (by decide)) ?_
                                                refine draw_guard_y rfl rfl rfl rfl (by decide) rfl (q_indexAddr_own sl_45 rfl rfl (by omega) (by omega) (by decide)) ?_
                                                refine draw_guard_y rfl rfl rfl rfl (by decide) rfl (q_indexAddr_arr arr_56 rfl rfl rfl (by omega) (by omega) (by decide)) ?_
                                                refine draw_guard_y rfl rfl rfl rfl (by decide) rfl (q_load one_3 8 rfl rfl rfl (by first | exact pr_ld0 (by omega) | exact pr_ld1 (by omega)) (by decide)) ?_
                                                refine draw_guard_y rfl rfl rfl rfl (by decide) rfl (q_ge rfl rfl (by decide)) ?_
                                                refine draw_q rfl (q_pick rfl rfl (by decide)) ?_
                                                refine draw_nil ?_
                                                refine hK33 _ ?_; clear hK33 K33
                                                refine codeT.imp (σ' := [(2, .val (.bool _)), (3, .own 55 3 1 _ _), (4, .val (.int .i64 _)), (5, .val (.bool _)), (8, .own 68 56 2 _ _), (12, .val (.int .i64 _)), (13, .val (.bool _)), (16, .val (.int .i64 _)), (20, .own 99 3 1 _ _), (21, .val (.int .i64 _)), (22, .own 105 3 1 _ _), (23, .val (.bool _)), (26, .own 117 3 1 _ _), (29, .val (.bool _)), (32, .own 133 3 1 _ _), (33, .own 136 3 1 _ _), (34, .val (.bool _)), (37, .val (.int .i64 _)), (38, .val (.int .i64 _)), (39, .val (.bool _)), (314, .val (.bool _))]) ?_ (imp_covers ⟨rfl, rfl, rfl, rfl, rfl, rfl, rfl, rfl, rfl, rfl, rfl, rfl, rfl, rfl, rfl, rfl, rfl, rfl, rfl, rfl, rfl, trivial⟩)
                                                refine code_cond_d rfl (fun h29 => ?_) (fun h29 => ?_)
                                                · skip
                                                  (try simp only [Decidable.not_not] at h29); (try have hgp1 := gapI_pos h29)
                                                  exfalso
                                                  have hC : CodeP l := by assumption
                                                  have hp := hpm (by omega)
                                                  have hcc : (0 ≤ l.getD ((if CodeP l then prL l (gpL l l.length) l.length else []).getD i.toNat (0, 0)).1.toNat 0 ∧ l.getD ((if CodeP l then prL l (gpL l l.length) l.length else []).getD i.toNat (0, 0)).1.toNat 0 ≤ 127) ∧ (0 ≤ l.getD ((if CodeP l then prL l (gpL l l.length) l.length else []).getD i.toNat (0, 0)).2.toNat 0 ∧ l.getD ((if CodeP l then prL l (gpL l l.length) l.length else []).getD i.toNat (0, 0)).2.toNat 0 ≤ 127) := ⟨hC.cell _ (by omega), hC.cell _ (by omega)⟩
                                                  omega
                                                (try simp only [Decidable.not_not] at h29); (try have hgp1 := gapI_pos h29)
                                                refine code_skip ?_
                                                refine blk_n ?_
                                                refine hK31 _ ?_; clear hK31 K31
                                                refine code_region ?_
                                                refine list_cons rfl (op_q (q_move rfl (by decide)) ?_)
                                                refine list_cons rfl (op_q (by first | exact q_addI rfl rfl (by decide) (by omega) (by omega) | exact q_ib rfl rfl rfl (by decide)) ?_)
                                                refine list_cons rfl (op_q (q_assign rfl (by decide)) ?_)
                                                refine list_nil ?_
                                                refine then_n ⟨(_), imp_covers ⟨rfl, rfl, rfl, rfl, rfl, rfl, rfl, rfl, rfl, rfl, rfl, rfl, rfl, rfl, rfl, rfl, rfl, rfl, trivial⟩, ?_, ?_⟩
                                                · (try dsimp only)
                                                  exact ⟨by omega, by omega⟩
                                                · (try dsimp only); omega
                                              simp only [Bool.false_eq_true, if_true, if_false, Decidable.not_not] at h28
                                              (try simp only [Decidable.not_not] at h28); (try have hgp1 := gapI_pos h28)
                                              exfalso
                                              have hC : CodeP l := by assumption
                                              have hp := hpm (by omega)
                                              have hcc : (0 ≤ l.getD ((if CodeP l then prL l (gpL l l.length) l.length else []).getD i.toNat (0, 0)).1.toNat 0 ∧ l.getD ((if CodeP l then prL l (gpL l l.length) l.length else []).getD i.toNat (0, 0)).1.toNat 0 ≤ 127) ∧ (0 ≤ l.getD ((if CodeP l then prL l (gpL l l.length) l.length else []).getD i.toNat (0, 0)).2.toNat 0 ∧ l.getD ((if CodeP l then prL l (gpL l l.length) l.length else []).getD i.toNat (0, 0)).2.toNat 0 ≤ 127) := ⟨hC.cell _ (by omega), hC.cell _ (by omega)⟩
                                              rw [if_pos hcc] at h28; exact h28 hp.2
                                            simp only [Bool.false_eq_true, if_true, if_false, Decidable.not_not] at h27
                                            (try simp only [Decidable.not_not] at h27); (try have hgp1 := gapI_pos h27)
                                            exfalso
                                            have hC : CodeP l := by assumption
                                            have hp := hpm (by omega)
                                            have hcc : (0 ≤ l.getD ((if CodeP l then prL l (gpL l l.length) l.length else []).getD i.toNat (0, 0)).1.toNat 0 ∧ l.getD ((if CodeP l then prL l (gpL l l.length) l.length else []).getD i.toNat (0, 0)).1.toNat 0 ≤ 127) ∧ (0 ≤ l.getD ((if CodeP l then prL l (gpL l l.length) l.length else []).getD i.toNat (0, 0)).2.toNat 0 ∧ l.getD ((if CodeP l then prL l (gpL l l.length) l.length else []).getD i.toNat (0, 0)).2.toNat 0 ≤ 127) := ⟨hC.cell _ (by omega), hC.cell _ (by omega)⟩
                                            exact h27 hcc
                                          (try simp only [Decidable.not_not] at h26); (try have hgp1 := gapI_pos h26)
                                          refine code_exit ?_
                                          refine then_x ?_; clear hK29 K29
                                          refine then_x ?_
                                          refine blk_hit ?_
                                          refine hK27 _ ?_; clear hK27 K27
                                          refine code_seq (fun K34 hK34 => ?_)
                                          refine code_region ?_
                                          refine list_cons rfl (op_q (q_move rfl (by decide)) ?_)
                                          refine list_nil ?_
                                          refine hK34 _ ?_; clear hK34 K34
                                          refine code_cond_d rfl (fun h30 => ?_) (fun h30 => ?_)
                                          · skip
                                            (try simp only [Decidable.not_not] at h30); (try have hgp1 := gapI_pos h30)
                                            refine code_seq (fun K35 hK35 => ?_)
                                            refine code_region ?_
                                            refine list_cons rfl (op_q (q_move rfl (by decide)) ?_)
                                            refine list_cons rfl (op_q (q_move rfl (by decide)) ?_)
                                            refine list_cons rfl (op_call _ (impl_CountFar _ _ (by omega)) rfl rfl (by decide) (by decide) (by decide) rfl ?_)
                                            rintro _ rfl
                                            refine list_cons rfl (op_q (q_move rfl (by decide)) ?_)
                                            refine list_cons rfl (op_q (q_extract rfl rfl (by decide)) ?_)
                                            refine list_cons rfl (op_q (q_extract rfl rfl (by decide)) ?_)
                                            refine list_cons rfl (op_q (q_assign rfl (by decide)) ?_)
                                            refine list_cons rfl (op_q (q_assign rfl (by decide)) ?_)
                                            refine list_nil ?_
                                            refine hK35 _ ?_; clear hK35 K35
                                            refine codeT.imp (σ' := [(2, .val (.bool _)), (3, .own 55 3 1 _ _), (4, .val (.int .i64 _)), (5, .val (.bool _)), (8, .own 68 56 2 _ _), (12, .val (.int .i64 _)), (13, .val (.bool _)), (16, .val (.int .i64 _)), (20, .own 99 3 1 _ _), (21, .val (.int .i64 _)), (22, .own 105 3 1 _ _), (23, .val (.bool _)), (26, .own 117 3 1 _ _), (29, .val (.bool _)), (32, .own 133 3 1 _ _), (33, .own 136 3 1 _ _), (34, .val (.bool _)), (37, .val (.int .i64 _)), (40, .val (.int .i64 _)), (41, .val (.bool _))]) ?_ (imp_covers ⟨rfl, rfl, rfl, rfl, rfl, rfl, rfl, rfl, rfl, rfl, rfl, rfl, rfl, rfl, rfl, rfl, rfl, rfl, rfl, rfl, trivial⟩)
                                            refine code_seq (fun K36 hK36 => ?_)
                                            refine code_region ?_
                                            refine list_cons rfl (op_q (q_move rfl (by decide)) ?_)
                                            refine list_cons rfl (op_q (by first | exact q_notd rfl (by decide) | exact q_not rfl (by decide)) ?_)
                                            refine list_cons rfl (op_q (q_move rfl (by decide)) ?_)
                                            refine list_guard_d rfl rfl rfl rfl (by decide) rfl (by decide) (fun h31 => ?_) (fun h31 => ?_)
                                            · simp only [Bool.false_eq_true, if_true, if_false, Decidable.not_not] at h31
                                              (try simp only [Decidable.not_not] at h31); (try have hgp1 := gapI_pos h31)
                                              refine id (op_q (q_move rfl (by decide)) ?_)
                                              refine list_guard_y rfl rfl rfl rfl (by decide) rfl ?_
                                              refine id (op_q (q_move rfl (by decide)) ?_)
                                              refine list_guard_y rfl rfl rfl rfl (by decide) rfl ?_
                                              refine id (op_q (q_len_sl Tryd.underlying45 rfl rfl (by decide)) ?_)
                                              refine list_guard_y rfl rfl rfl rfl (by decide) rfl ?_
                                              refine id (op_q (q_ne rfl rfl (by decide)) ?_)
                                              refine list_cons rfl (op_q (q_pick rfl rfl (by decide)) ?_)
                                              refine list_nil ?_
                                              refine hK36 _ ?_; clear hK36 K36
                                              refine codeT.imp (σ' := [(2, .val (.bool _)), (3, .own 55 3 1 _ _), (4, .val (.int .i64 _)), (5, .val (.bool _)), (8, .own 68 56 2 _ _), (12, .val (.int .i64 _)), (13, .val (.bool _)), (16, .val (.int .i64 _)), (20, .own 99 3 1 _ _), (21, .val (.int .i64 _)), (22, .own 105 3 1 _ _), (23, .val (.bool _)), (26, .own 117 3 1 _ _), (29, .val (.bool _)), (32, .own 133 3 1 _ _), (33, .own 136 3 1 _ _), (34, .val (.bool _)), (37, .val (.int .i64 _)), (40, .val (.int .i64 _)), (41, .val (.bool _)), (329, .val (.bool _))]) ?_ (imp_covers ⟨rfl, rfl, rfl, rfl, rfl, rfl, rfl, rfl, rfl, rfl, rfl, rfl, rfl, rfl, rfl, rfl, rfl, rfl, rfl, rfl, rfl, trivial⟩)
                                              refine code_cond_d rfl (fun h32 => ?_) (fun h32 => ?_)
                                              · skip
                                                (try simp only [Decidable.not_not] at h32); (try have hgp1 := gapI_pos h32)
                                                exfalso
                                                have hC : CodeP l := by assumption
                                                rw [if_pos ⟨hC, by omega, by omega⟩, if_pos hC, if_pos hC, prL_count] at h32; exact h32 rfl
                                              (try simp only [Decidable.not_not] at h32); (try have hgp1 := gapI_pos h32)
                                              refine code_skip ?_
                                              exact then_n (imp_covers ⟨rfl, rfl, rfl, rfl, rfl, rfl, rfl, rfl, rfl, rfl, rfl, rfl, rfl, rfl, rfl, rfl, rfl, trivial⟩)
                                            simp only [Bool.false_eq_true, if_true, if_false, Decidable.not_not] at h31
                                            (try simp only [Decidable.not_not] at h31); (try have hgp1 := gapI_pos h31)
                                            exfalso
                                            have hC : CodeP l := by assumption
                                            exact h31 ⟨hC, by omega, by omega⟩
                                          (try simp only [Decidable.not_not] at h30); (try have hgp1 := gapI_pos h30)
                                          refine code_skip ?_
                                          exact then_n (imp_covers ⟨rfl, rfl, rfl, rfl, rfl, rfl, rfl, rfl, rfl, rfl, rfl, rfl, rfl, rfl, rfl, rfl, rfl, trivial⟩)
                                      (try simp only [Decidable.not_not] at h20); (try have hgp1 := gapI_pos h20)
                                      refine code_skip ?_
                                      exact then_n (imp_covers ⟨rfl, rfl, rfl, rfl, rfl, rfl, rfl, rfl, rfl, rfl, rfl, rfl, rfl, rfl, rfl, rfl, rfl, trivial⟩)
                                    refine codeT.imp (σ' := [(2, .val (.bool _)), (20, .own 99 3 1 _ _), (21, .val (.int .i64 _)), (22, .own 105 3 1 _ _), (23, .val (.bool _)), (26, .own 117 3 1 _ _), (29, .val (.bool _)), (32, .own 133 3 1 _ _), (33, .own 136 3 1 _ _), (34, .val (.bool _))]) ?_ (imp_covers ⟨rfl, rfl, rfl, rfl, rfl, rfl, rfl, rfl, rfl, rfl, trivial⟩)
                                    refine code_seq_same ?_ ?_
                                    · skip
                                      refine code_seq (fun K37 hK37 => ?_)
                                      refine code_region ?_
                                      refine list_cons rfl (op_q (q_move rfl (by decide)) ?_)
                                      refine list_nil ?_
                                      refine hK37 _ ?_; clear hK37 K37
                                      refine code_cond_d rfl (fun h33 => ?_) (fun h33 => ?_)
                                      · skip
                                        (try simp only [Decidable.not_not] at h33); (try have hgp1 := gapI_pos h33)
                                        refine code_seq (fun K38 hK38 => ?_)
                                        refine code_region ?_
                                        refine list_cons rfl (op_q (q_move rfl (by decide)) ?_)
                                        refine list_cons rfl (op_call _ (impl_GapOf _ (by omega)) rfl rfl (by decide) (by decide) (by decide) rfl ?_)
                                        rintro _ rfl
                                        refine list_cons rfl (op_q (q_move rfl (by decide)) ?_)
                                        refine list_cons rfl (op_q (q_extract rfl rfl (by decide)) ?_)
                                        refine list_cons rfl (op_q (q_extract rfl rfl (by decide)) ?_)
                                        refine list_cons rfl (op_q (q_assign rfl (by decide)) ?_)
                                        refine list_cons rfl (op_q (q_assign rfl (by decide)) ?_)
                                        refine list_nil ?_
                                        refine hK38 _ ?_; clear hK38 K38
                                        refine codeT.imp (σ' := [(2, .val (.bool _)), (20, .own 99 3 1 _ _), (21, .val (.int .i64 _)), (22, .own 105 3 1 _ _), (23, .val (.bool _)), (26, .own 117 3 1 _ _), (29, .val (.bool _)), (32, .own 133 3 1 _ _), (33, .own 136 3 1 _ _), (34, .val (.bool _)), (42, .val (.int .i64 _)), (43, .val (.bool _))]) ?_ (imp_covers ⟨rfl, rfl, rfl, rfl, rfl, rfl, rfl, rfl, rfl, rfl, rfl, rfl, trivial⟩)
                                        refine code_seq (fun K39 hK39 => ?_)
                                        refine code_region ?_
                                        refine list_cons rfl (op_q (q_move rfl (by decide)) ?_)
                                        refine list_cons rfl (op_call _ (impl_GapOf _ (by omega)) rfl rfl (by decide) (by decide) (by decide) rfl ?_)
                                        rintro _ rfl
                                        refine list_cons rfl (op_q (q_move rfl (by decide)) ?_)
                                        refine list_cons rfl (op_q (q_extract rfl rfl (by decide)) ?_)
                                        refine list_cons rfl (op_q (q_extract rfl rfl (by decide)) ?_)
                                        refine list_cons rfl (op_q (q_assign rfl (by decide)) ?_)
                                        refine list_cons rfl (op_q (q_assign rfl (by decide)) ?_)
                                        refine list_nil ?_
                                        refine hK39 _ ?_; clear hK39 K39
                                        refine codeT.imp (σ' := [(2, .val (.bool _)), (20, .own 99 3 1 _ _), (21, .val (.int .i64 _)), (22, .own 105 3 1 _ _), (23, .val (.bool _)), (26, .own 117 3 1 _ _), (29, .val (.bool _)), (32, .own 133 3 1 _ _), (33, .own 136 3 1 _ _), (34, .val (.bool _)), (42, .val (.int .i64 _)), (43, .val (.bool _)), (44, .val (.int .i64 _)), (45, .val (.bool _))]) ?_ (imp_covers ⟨rfl, rfl, rfl, rfl, rfl, rfl, rfl, rfl, rfl, rfl, rfl, rfl, rfl, rfl, trivial⟩)
                                        refine code_seq (fun K40 hK40 => ?_)
                                        refine code_region ?_
                                        refine list_cons rfl (op_q (q_move rfl (by decide)) ?_)
                                        refine list_cons rfl (op_q (q_move rfl (by decide)) ?_)
                                        refine list_cons rfl (op_call _ (impl_FlipCode _ _ (by omega)) rfl rfl (by decide) (by decide) (by decide) rfl ?_)
                                        rintro _ rfl; have hfu2 := flpI_len (if CodeP u ∧ 0 ≤ bars ∧ bars ≤ 127 then flp u bars else []) bars
                                        refine list_cons rfl (op_q (q_move rfl (by decide)) ?_)
                                        refine list_cons rfl (op_q (q_extract rfl rfl (by decide)) ?_)
                                        refine list_cons rfl (op_q (q_extract rfl rfl (by decide)) ?_)
                                        refine list_cons rfl (op_q (q_assign rfl (by decide)) ?_)
                                        refine list_cons rfl (op_q (q_assign rfl (by decide)) ?_)
                                        refine list_nil ?_
                                        refine hK40 _ ?_; clear hK40 K40
                                        refine codeT.imp (σ' := [(2, .val (.bool _)), (20, .own 99 3 1 _ _), (21, .val (.int .i64 _)), (22, .own 105 3 1 _ _), (23, .val (.bool _)), (26, .own 117 3 1 _ _), (29, .val (.bool _)), (32, .own 133 3 1 _ _), (33, .own 136 3 1 _ _), (34, .val (.bool _)), (42, .val (.int .i64 _)), (43, .val (.bool _)), (44, .val (.int .i64 _)), (45, .val (.bool _)), (46, .own 344 3 1 _ _), (47, .val (.bool _))]) ?_ (imp_covers ⟨rfl, rfl, rfl, rfl, rfl, rfl, rfl, rfl, rfl, rfl, rfl, rfl, rfl, rfl, rfl, rfl, trivial⟩)
                                        refine code_seq (fun K41 hK41 => ?_)
                                        refine code_region ?_
                                        refine list_cons rfl (op_q (q_move rfl (by decide)) ?_)
                                        refine list_cons rfl (op_q (by first | exact q_notd rfl (by decide) | exact q_not rfl (by decide)) ?_)
                                        refine list_cons rfl (op_q (q_move rfl (by decide)) ?_)
                                        refine list_guard_d rfl rfl rfl rfl (by decide) rfl (by decide) (fun h34 => ?_) (fun h34 => ?_)
                                        · simp only [Bool.false_eq_true, if_true, if_false, Decidable.not_not] at h34
                                          (try simp only [Decidable.not_not] at h34); (try have hgp1 := gapI_pos h34)
                                          refine id (op_q (q_move rfl (by decide)) ?_)
                                          refine list_guard_y rfl rfl rfl rfl (by decide) rfl ?_
                                          refine id (op_q (by first | exact q_notd rfl (by decide) | exact q_not rfl (by decide)) ?_)
                                          refine list_cons rfl (op_q (q_pick rfl rfl (by decide)) ?_)
                                          refine list_cons rfl (op_q (q_move rfl (by decide)) ?_)
                                          refine list_guard_d rfl rfl rfl rfl (by decide) rfl (by decide) (fun h35 => ?_) (fun h35 => ?_)
                                          · simp only [Bool.false_eq_true, if_true, if_false, Decidable.not_not] at h35
                                            (try simp only [Decidable.not_not] at h35); (try have hgp1 := gapI_pos h35)
                                            refine id (op_q (q_move rfl (by decide)) ?_)
                                            refine list_guard_y rfl rfl rfl rfl (by decide) rfl ?_
                                            refine id (op_q (by first | exact q_notd rfl (by decide) | exact q_not rfl (by decide)) ?_)
                                            refine list_cons rfl (op_q (q_pick rfl rfl (by decide)) ?_)
                                            refine list_cons rfl (op_q (q_move rfl (by decide)) ?_)
                                            refine list_guard_d rfl rfl rfl rfl (by decide) rfl (by decide) (fun h36 => ?_) (fun h36 => ?_)
                                            · simp only [Bool.false_eq_true, if_true, if_false, Decidable.not_not] at h36
                                              (try simp only [Decidable.not_not] at h36); (try have hgp1 := gapI_pos h36)
                                              refine id (op_q (q_move rfl (by decide)) ?_)
                                              refine list_guard_y rfl rfl rfl rfl (by decide) rfl ?_
                                              refine id (op_q (q_move rfl (by decide)) ?_)
                                              refine list_guard_y rfl rfl rfl rfl (by decide) rfl ?_
                                              refine id (op_q (q_ne rfl rfl (by decide)) ?_)
                                              refine list_cons rfl (op_q (q_pick rfl rfl (by decide)) ?_)
                                              refine list_cons rfl (op_q (q_move rfl (by decide)) ?_)
                                              refine list_guard_d rfl rfl rfl rfl (by decide) rfl (by decide) (fun h37 => ?_) (fun h37 => ?_)
                                              · simp only [Bool.false_eq_true, if_true, if_false, Decidable.not_not] at h37
                                                (try simp only [Decidable.not_not] at h37); (try have hgp1 := gapI_pos h37)
                                                refine id (op_q (q_move rfl (by decide)) ?_)
                                                refine list_guard_y rfl rfl rfl rfl (by decide) rfl ?_
                                                refine id (op_q (q_move rfl (by decide)) ?_)
                                                refine list_guard_y rfl rfl rfl rfl (by decide) rfl ?_
                                                refine id (op_call _ (vInts_c _ _ (by first | omega | (simp; omega))) rfl rfl (by decide) (by decide) (by decide) rfl ?_)
                                                rintro _ rfl
                                                refine list_guard_y rfl rfl rfl rfl (by decide) rfl ?_
                                                refine id (op_q (by first | exact q_notd rfl (by decide) | exact q_not rfl (by decide)) ?_)
                                                refine list_cons rfl (op_q (q_pick rfl rfl (by decide)) ?_)
                                                refine list_nil ?_
                                                refine hK41 _ ?_; clear hK41 K41
                                                refine codeT.imp (σ' := [(2, .val (.bool _)), (20, .own 99 3 1 _ _), (21, .val (.int .i64 _)), (22, .own 105 3 1 _ _), (23, .val (.bool _)), (26, .own 117 3 1 _ _), (29, .val (.bool _)), (32, .own 133 3 1 _ _), (33, .own 136 3 1 _ _), (34, .val (.bool _)), (42, .val (.int .i64 _)), (43, .val (.bool _)), (44, .val (.int .i64 _)), (45, .val (.bool _)), (46, .own 344 3 1 _ _), (47, .val (.bool _)), (367, .val (.bool _))]) ?_ (imp_covers ⟨rfl, rfl, rfl, rfl, rfl, rfl, rfl, rfl, rfl, rfl, rfl, rfl, rfl, rfl, rfl, rfl, rfl, trivial⟩)
                                                refine code_cond_d rfl (fun h38 => ?_) (fun h38 => ?_)
                                                · skip
                                                  (try simp only [Decidable.not_not] at h38); (try have hgp1 := gapI_pos h38)
                                                  exfalso
                                                  have hT : CodeP u ∧ 0 ≤ bars ∧ bars ≤ 127 := by assumption
                                                  exact h38 (flip3 hT)
                                                (try simp only [Decidable.not_not] at h38); (try have hgp1 := gapI_pos h38)
                                                refine code_skip ?_
                                                exact then_n (imp_covers ⟨rfl, rfl, rfl, rfl, rfl, rfl, rfl, rfl, rfl, rfl, trivial⟩)
                                              simp only [Bool.false_eq_true, if_true, if_false, Decidable.not_not] at h37
                                              (try simp only [Decidable.not_not] at h37); (try have hgp1 := gapI_pos h37)
                                              exfalso
                                              have hT : CodeP u ∧ 0 ≤ bars ∧ bars ≤ 127 := by assumption
                                              exact h37 (flip2 hT)
                                            simp only [Bool.false_eq_true, if_true, if_false, Decidable.not_not] at h36
                                            (try simp only [Decidable.not_not] at h36); (try have hgp1 := gapI_pos h36)
                                            exfalso
                                            have hT : CodeP u ∧ 0 ≤ bars ∧ bars ≤ 127 := by assumption
                                            exact h36 ⟨flip1 hT, hT.2⟩
                                          simp only [Bool.false_eq_true, if_true, if_false, Decidable.not_not] at h35
                                          (try simp only [Decidable.not_not] at h35); (try have hgp1 := gapI_pos h35)
                                          exfalso
                                          have hT : CodeP u ∧ 0 ≤ bars ∧ bars ≤ 127 := by assumption
                                          exact h35 (flip1 hT)
                                        simp only [Bool.false_eq_true, if_true, if_false, Decidable.not_not] at h34
                                        (try simp only [Decidable.not_not] at h34); (try have hgp1 := gapI_pos h34)
                                        exfalso
                                        have hT : CodeP u ∧ 0 ≤ bars ∧ bars ≤ 127 := by assumption
                                        exact h34 hT.1
                                      (try simp only [Decidable.not_not] at h33); (try have hgp1 := gapI_pos h33)
                                      refine code_skip ?_
                                      exact then_n (imp_covers ⟨rfl, rfl, rfl, rfl, rfl, rfl, rfl, rfl, rfl, rfl, trivial⟩)
                                    refine codeT.imp (σ' := [(2, .val (.bool _)), (26, .own 117 3 1 _ _), (29, .val (.bool _)), (32, .own 133 3 1 _ _), (33, .own 136 3 1 _ _), (34, .val (.bool _))]) ?_ (imp_covers ⟨rfl, rfl, rfl, rfl, rfl, rfl, trivial⟩)
                                    refine code_seq_same ?_ ?_
                                    · skip
                                      refine code_seq (fun K42 hK42 => ?_)
                                      refine code_region ?_
                                      refine list_cons rfl (op_q (q_move rfl (by decide)) ?_)
                                      refine list_nil ?_
                                      refine hK42 _ ?_; clear hK42 K42
                                      refine code_cond_d rfl (fun h39 => ?_) (fun h39 => ?_)
                                      · skip
                                        (try simp only [Decidable.not_not] at h39); (try have hgp1 := gapI_pos h39)
                                        refine code_seq (fun K43 hK43 => ?_)
                                        refine code_region ?_
                                        refine list_cons rfl (op_q (q_assign rfl (by decide)) ?_)
                                        refine list_nil ?_
                                        refine hK43 _ ?_; clear hK43 K43
                                        refine code_seq (fun K44 hK44 => ?_)
                                        refine code_seq (fun K45 hK45 => ?_)
                                        refine code_region ?_
                                        refine list_cons rfl (op_q (q_assign rfl (by decide)) ?_)
                                        refine list_nil ?_
                                        refine hK45 _ ?_; clear hK45 K45
                                        refine code_block ?_
                                        refine code_loop (X := Int × Int) (fun x => [(2, .val (.bool false)), (26, .own 117 3 1 (v).length ((v).map (.int .i64))), (29, .val (.bool (decide (CodeP v ∧ 1 ≤ d ∧ d ≤ 7)))), (32, .own 133 3 1 (g).length ((g).map (.int .i64))), (33, .own 136 3 1 (if DigP g then dcd g else []).length ((if DigP g then dcd g else []).map (.int .i64))), (34, .val (.bool (decide (DigP g)))), (48, .val (.int .i64 x.1)), (49, .val (.int .i64 x.2))]) (fun x => 1 ≤ x.2 ∧ x.2 ≤ 8 ∧ x.1 = ((sumD (fun d => cfL v ((d + 1 : Nat) : Int) v.length) (x.2.toNat - 1) : Nat) : Int)) (fun x => (8 - x.2).toNat) (_, _) (imp_covers ⟨rfl, rfl, rfl, rfl, rfl, rfl, rfl, rfl, trivial⟩) ?_ ?_
                                        · (try dsimp only)
                                          exact ⟨by omega, by omega, rfl⟩
                                        · intro x hI
                                          obtain ⟨sum, k⟩ := x
                                          replace hI : 1 ≤ k ∧ k ≤ 8 ∧ sum = ((sumD (fun d => cfL v ((d + 1 : Nat) : Int) v.length) (k.toNat - 1) : Nat) : Int) := hI
                                          show codeT _ _ _ [(2, .val (.bool false)), (26, .own 117 3 1 (v).length ((v).map (.int .i64))), (29, .val (.bool (decide (CodeP v ∧ 1 ≤ d ∧ d ≤ 7)))), (32, .own 133 3 1 (g).length ((g).map (.int .i64))), (33, .own 136 3 1 (if DigP g then dcd g else []).length ((if DigP g then dcd g else []).map (.int .i64))), (34, .val (.bool (decide (DigP g)))), (48, .val (.int .i64 sum)), (49, .val (.int .i64 k))] _
                                          obtain ⟨i1, i2, rfl⟩ := hI
                                          have hV : CodeP v ∧ 1 ≤ d ∧ d ≤ 7 := by assumption
                                          have hv12 := hV.1.1
                                          have hsb := sumD_bd (v := v) (by omega) (m := k.toNat - 1) (by omega)
                                          have hmul := mul_bd (v := v) (by omega) (by omega)
                                          refine code_seq (fun K46 hK46 => ?_)
                                          refine code_seq (fun K47 hK47 => ?_)
                                          refine code_region ?_
                                          refine list_cons rfl (op_q (q_move rfl (by decide)) ?_)
                                          refine list_cons rfl (op_q (q_le rfl rfl (by decide)) ?_)
                                          refine list_nil ?_
                                          refine hK47 _ ?_; clear hK47 K47
                                          refine code_cond_d rfl (fun h40 => ?_) (fun h40 => ?_)
                                          · skip
                                            (try simp only [Decidable.not_not] at h40); (try have hgp1 := gapI_pos h40)
                                            refine code_skip ?_
                                            refine hK46 _ ?_; clear hK46 K46
                                            refine code_seq (fun K48 hK48 => ?_)
                                            refine code_block ?_
                                            refine code_seq (fun K49 hK49 => ?_)
                                            refine code_region ?_
                                            refine list_cons rfl (op_q (q_move rfl (by decide)) ?_)
                                            refine list_cons rfl (op_q (q_move rfl (by decide)) ?_)
                                            refine list_cons rfl (op_call _ (impl_CountFar _ _ (by omega)) rfl rfl (by decide) (by decide) (by decide) rfl ?_)
                                            rintro _ rfl; have hcf := cfI_bd v k
                                            refine list_cons rfl (op_q (q_move rfl (by decide)) ?_)
                                            refine list_cons rfl (op_q (q_extract rfl rfl (by decide)) ?_)
                                            refine list_cons rfl (op_q (q_extract rfl rfl (by decide)) ?_)
                                            refine list_cons rfl (op_q (q_assign rfl (by decide)) ?_)
                                            refine list_cons rfl (op_q (q_assign rfl (by decide)) ?_)
                                            refine list_nil ?_
                                            refine hK49 _ ?_; clear hK49 K49
                                            refine codeT.imp (σ' := [(2, .val (.bool _)), (26, .own 117 3 1 _ _), (29, .val (.bool _)), (32, .own 133 3 1 _ _), (33, .own 136 3 1 _ _), (34, .val (.bool _)), (48, .val (.int .i64 _)), (49, .val (.int .i64 _)), (50, .val (.int .i64 _)), (51, .val (.bool _))]) ?_ (imp_covers ⟨rfl, rfl, rfl, rfl, rfl, rfl, rfl, rfl, rfl, rfl, trivial⟩)
                                            refine code_seq (fun K50 hK50 => ?_)
                                            refine code_seq (fun K51 hK51 => ?_)
                                            refine code_region ?_
                                            refine list_cons rfl (op_q (q_move rfl (by decide)) ?_)
                                            refine list_cons rfl (op_q (by first | exact q_notd rfl (by decide) | exact q_not rfl (by decide)) ?_)
                                            refine list_nil ?_
                                            refine hK51 _ ?_; clear hK51 K51
                                            refine code_cond_d rfl (fun h41 => ?_) (fun h41 => ?_)
                                            · skip
                                              (try simp only [Decidable.not_not] at h41); (try have hgp1 := gapI_pos h41)
                                              exfalso
                                              have hV : CodeP v ∧ 1 ≤ d ∧ d ≤ 7 := by assumption
                                              exact h41 ⟨hV.1, by omega, by omega⟩
                                            (try simp only [Decidable.not_not] at h41); (try have hgp1 := gapI_pos h41)
                                            refine code_skip ?_
                                            refine hK50 _ ?_; clear hK50 K50
                                            refine code_region ?_
                                            refine list_cons rfl (op_q (q_move rfl (by decide)) ?_)
                                            refine list_cons rfl (op_q (q_move rfl (by decide)) ?_)
                                            refine list_cons rfl (op_q (by first | exact q_addI rfl rfl (by decide) (by omega) (by omega) | exact q_ib rfl rfl rfl (by decide)) ?_)
                                            refine list_cons rfl (op_q (q_assign rfl (by decide)) ?_)
                                            refine list_nil ?_
                                            refine blk_n ?_
                                            refine hK48 _ ?_; clear hK48 K48
                                            refine code_region ?_
                                            refine list_cons rfl (op_q (q_move rfl (by decide)) ?_)
                                            refine list_cons rfl (op_q (by first | exact q_addI rfl rfl (by decide) (by omega) (by omega) | exact q_ib rfl rfl rfl (by decide)) ?_)
                                            refine list_cons rfl (op_q (q_assign rfl (by decide)) ?_)
                                            refine list_nil ?_
                                            refine then_n ⟨(_, _), imp_covers ⟨rfl, rfl, rfl, rfl, rfl, rfl, rfl, rfl, trivial⟩, ?_, ?_⟩
                                            · (try dsimp only)
                                              refine ⟨by omega, by omega, ?_⟩
                                              rw [if_pos ⟨hV.1, by omega, by omega⟩, show (k + 1).toNat - 1 = (k.toNat - 1) + 1 by omega, sumD]
                                              have e : ((k.toNat - 1 + 1 : Nat) : Int) = k := by omega
                                              rw [e]; omega
                                            · (try dsimp only); omega
                                          (try simp only [Decidable.not_not] at h40); (try have hgp1 := gapI_pos h40)
                                          refine code_exit ?_
                                          refine then_x ?_; clear hK46 K46
                                          refine then_x ?_
                                          refine blk_hit ?_
                                          refine hK44 _ ?_; clear hK44 K44
                                          refine code_seq (fun K52 hK52 => ?_)
                                          refine code_region ?_
                                          refine list_cons rfl (op_q (q_move rfl (by decide)) ?_)
                                          refine list_cons rfl (op_q (q_move rfl (by decide)) ?_)
                                          refine list_cons rfl (op_q (q_len_sl Tryd.underlying24 rfl rfl (by decide)) ?_)
                                          refine list_cons rfl (op_q (q_move rfl (by decide)) ?_)
                                          refine list_cons rfl (op_q (q_len_sl Tryd.underlying24 rfl rfl (by decide)) ?_)
                                          refine list_cons rfl (op_q (by first | exact q_subI rfl rfl (by decide) (by omega) (by omega) | exact q_ib rfl rfl rfl (by decide)) ?_)
                                          refine list_cons rfl (op_q (by first | exact q_mulI rfl rfl (by decide) (by omega) (by omega) | exact q_ib rfl rfl rfl (by decide)) ?_)
                                          refine list_cons rfl (op_q (by first | exact q_quoI rfl rfl (by decide) (by omega) (by omega) (by omega) | exact q_quoT rfl rfl (by omega) (by decide) (by omega) (by omega) | exact q_quo rfl rfl (by omega) (by decide)) ?_)
                                          refine list_cons rfl (op_q (q_ne rfl rfl (by decide)) ?_)
                                          refine list_nil ?_
                                          refine hK52 _ ?_; clear hK52 K52
                                          refine codeT.imp (σ' := [(2, .val (.bool _)), (26, .own 117 3 1 _ _), (29, .val (.bool _)), (32, .own 133 3 1 _ _), (33, .own 136 3 1 _ _), (34, .val (.bool _)), (48, .val (.int .i64 _)), (49, .val (.int .i64 _)), (392, .val (.bool _))]) ?_ (imp_covers ⟨rfl, rfl, rfl, rfl, rfl, rfl, rfl, rfl, rfl, trivial⟩)
                                          refine code_cond_d rfl (fun h42 => ?_) (fun h42 => ?_)
                                          · skip
                                            (try simp only [Decidable.not_not] at h42); (try have hgp1 := gapI_pos h42)
                                            exfalso
                                            have hV : CodeP v ∧ 1 ≤ d ∧ d ≤ 7 := by assumption
                                            have hsa := sum_all hV.1
                                            rw [show k.toNat - 1 = 7 by omega] at h42; exact h42 hsa
                                          (try simp only [Decidable.not_not] at h42); (try have hgp1 := gapI_pos h42)
                                          refine code_skip ?_
                                          exact then_n (imp_covers ⟨rfl, rfl, rfl, rfl, rfl, rfl, trivial⟩)
                                      (try simp only [Decidable.not_not] at h39); (try have hgp1 := gapI_pos h39)
                                      refine code_skip ?_
                                      exact then_n (imp_covers ⟨rfl, rfl, rfl, rfl, rfl, rfl, trivial⟩)
                                    refine code_seq (fun K53 hK53 => ?_)
                                    refine code_region ?_
                                    refine list_cons rfl (op_q (q_move rfl (by decide)) ?_)
                                    refine list_cons rfl (op_q (by first | exact q_notd rfl (by decide) | exact q_not rfl (by decide)) ?_)
                                    refine list_cons rfl (op_q (q_move rfl (by decide)) ?_)
                                    refine list_guard_d rfl rfl rfl rfl (by decide) rfl (by decide) (fun h43 => ?_) (fun h43 => ?_)
                                    · simp only [Bool.false_eq_true, if_true, if_false, Decidable.not_not] at h43
                                      (try simp only [Decidable.not_not] at h43); (try have hgp1 := gapI_pos h43)
                                      refine id (op_q (q_move rfl (by decide)) ?_)
                                      refine list_guard_y rfl rfl rfl rfl (by decide) rfl ?_
                                      refine id (op_call _ (impl_IsCode _ (by omega)) rfl rfl (by decide) (by decide) (by decide) rfl ?_)
                                      rintro _ rfl
                                      refine list_guard_y rfl rfl rfl rfl (by decide) rfl ?_
                                      refine id (op_q (q_move rfl (by decide)) ?_)
                                      refine list_guard_d rfl rfl rfl rfl (by decide) rfl (by decide) (fun h44 => ?_) (fun h44 => ?_)
                                      · simp only [Bool.false_eq_true, if_true, if_false, Decidable.not_not] at h44
                                        (try simp only [Decidable.not_not] at h44); (try have hgp1 := gapI_pos h44)
                                        refine id (op_q (q_move rfl (by decide)) ?_)
                                        refine list_guard_y rfl rfl rfl rfl (by decide) rfl ?_
                                        refine id (op_q (q_len_sl Tryd.underlying24 rfl rfl (by decide)) ?_)
                                        refine list_guard_y rfl rfl rfl rfl (by decide) rfl ?_
                                        refine id (op_q (q_move rfl (by decide)) ?_)
                                        refine list_guard_y rfl rfl rfl rfl (by decide) rfl ?_
                                        refine id (op_q (q_len_sl Tryd.underlying24 rfl rfl (by decide)) ?_)
                                        refine list_guard_y rfl rfl rfl rfl (by decide) rfl ?_
                                        refine id (op_q (q_eq rfl rfl (by decide)) ?_)
                                        refine list_guard_y rfl rfl rfl rfl (by decide) rfl ?_
                                        refine id (op_q (q_pick rfl rfl (by decide)) ?_)
                                        refine list_cons rfl (op_q (q_pick rfl rfl (by decide)) ?_)
                                        refine list_cons rfl (op_q (q_assign rfl (by decide)) ?_)
                                        refine list_nil ?_
                                        refine hK53 _ ?_; clear hK53 K53
                                        refine codeT.imp (σ' := [(2, .val (.bool _)), (26, .own 117 3 1 _ _), (29, .val (.bool _)), (32, .own 133 3 1 _ _), (33, .own 136 3 1 _ _), (34, .val (.bool _))]) ?_ (imp_covers ⟨rfl, rfl, rfl, rfl, rfl, rfl, trivial⟩)
                                        refine code_ret ?_
                                        refine ends_ret (cs := []) rfl rfl rfl rfl trivial ?_
                                        first | rfl | (rw [decide_eq_true (show (((if DigP g then dcd g else []).length : Nat) : Int) = (g.length : Int) by rw [if_pos (by assumption), dcd_len])]) | exact absurd (by rw [if_pos (show DigP g by assumption)]; exact dcd_code (by assumption)) h44
                                      simp only [Bool.false_eq_true, if_true, if_false, Decidable.not_not] at h44
                                      (try simp only [Decidable.not_not] at h44); (try have hgp1 := gapI_pos h44)
                                      refine list_guard_nT rfl rfl rfl rfl (by decide) (by decide) ?_
                                      refine list_guard_nT rfl rfl rfl rfl (by decide) (by decide) ?_
                                      refine list_guard_nT rfl rfl rfl rfl (by decide) (by decide) ?_
                                      refine list_guard_nT rfl rfl rfl rfl (by decide) (by decide) ?_
                                      refine list_guard_y rfl rfl rfl rfl (by decide) rfl ?_
                                      refine id (op_q (q_pick rfl rfl (by decide)) ?_)
                                      refine list_cons rfl (op_q (q_pick rfl rfl (by decide)) ?_)
                                      refine list_cons rfl (op_q (q_assign rfl (by decide)) ?_)
                                      refine list_nil ?_
                                      refine hK53 _ ?_; clear hK53 K53
                                      refine codeT.imp (σ' := [(2, .val (.bool _)), (26, .own 117 3 1 _ _), (29, .val (.bool _)), (32, .own 133 3 1 _ _), (33, .own 136 3 1 _ _), (34, .val (.bool _))]) ?_ (imp_covers ⟨rfl, rfl, rfl, rfl, rfl, rfl, trivial⟩)
                                      refine code_ret ?_
                                      refine ends_ret (cs := []) rfl rfl rfl rfl trivial ?_
                                      first | rfl | (rw [decide_eq_true (show (((if DigP g then dcd g else []).length : Nat) : Int) = (g.length : Int) by rw [if_pos (by assumption), dcd_len])]) | exact absurd (by rw [if_pos (show DigP g by assumption)]; exact dcd_code (by assumption)) h44
                                    simp only [Bool.false_eq_true, if_true, if_false, Decidable.not_not] at h43
                                    (try simp only [Decidable.not_not] at h43); (try have hgp1 := gapI_pos h43)
                                    refine list_guard_nT rfl rfl rfl rfl (by decide) (by decide) ?_
                                    refine list_guard_nT rfl rfl rfl rfl (by decide) (by decide) ?_
                                    refine list_guard_u rfl rfl rfl rfl (by decide) (by decide) ?_
                                    refine list_guard_u rfl rfl rfl rfl (by decide) (by decide) ?_
                                    refine list_guard_u rfl rfl rfl rfl (by decide) (by decide) ?_
                                    refine list_guard_u rfl rfl rfl rfl (by decide) (by decide) ?_
                                    refine list_guard_u rfl rfl rfl rfl (by decide) (by decide) ?_
                                    refine list_guard_nT rfl rfl rfl rfl (by decide) (by decide) ?_
                                    refine list_cons rfl (op_q (q_pick rfl rfl (by decide)) ?_)
                                    refine list_cons rfl (op_q (q_assign rfl (by decide)) ?_)
                                    refine list_nil ?_
                                    refine hK53 _ ?_; clear hK53 K53
                                    refine codeT.imp (σ' := [(2, .val (.bool _)), (26, .own 117 3 1 _ _), (29, .val (.bool _)), (32, .own 133 3 1 _ _), (33, .own 136 3 1 _ _), (34, .val (.bool _))]) ?_ (imp_covers ⟨rfl, rfl, rfl, rfl, rfl, rfl, trivial⟩)
                                    refine code_ret ?_
                                    refine ends_ret (cs := []) rfl rfl rfl rfl trivial ?_
                                    first | rfl | (rw [decide_eq_true (show (((if DigP g then dcd g else []).length : Nat) : Int) = (g.length : Int) by rw [if_pos (by assumption), dcd_len])]) | exact absurd (by rw [if_pos (show DigP g by assumption)]; exact dcd_code (by assumption)) h43
                                  simp only [Bool.false_eq_true, if_true, if_false, Decidable.not_not] at h18
                                  (try simp only [Decidable.not_not] at h18); (try have hgp1 := gapI_pos h18)
                                  exfalso
                                  first | exact absurd rfl h18 | exact h18 trivial | (simp at h18; done)
                                simp only [Bool.false_eq_true, if_true, if_false, Decidable.not_not] at h17
                                (try simp only [Decidable.not_not] at h17); (try have hgp1 := gapI_pos h17)
                                exfalso
                                first | exact absurd rfl h17 | exact h17 trivial | (simp at h17; done)
                              simp only [Bool.false_eq_true, if_true, if_false, Decidable.not_not] at h16
                              (try simp only [Decidable.not_not] at h16); (try have hgp1 := gapI_pos h16)
                              exfalso
                              first | exact absurd rfl h16 | exact h16 trivial | (simp at h16; done)
                            simp only [Bool.false_eq_true, if_true, if_false, Decidable.not_not] at h15
                            (try simp only [Decidable.not_not] at h15); (try have hgp1 := gapI_pos h15)
                            exfalso
                            first | exact absurd rfl h15 | exact h15 trivial | (simp at h15; done)
                          simp only [Bool.false_eq_true, if_true, if_false, Decidable.not_not] at h14
                          (try simp only [Decidable.not_not] at h14); (try have hgp1 := gapI_pos h14)
                          exfalso
                          first | exact absurd rfl h14 | exact h14 trivial | (simp at h14; done)
                        simp only [Bool.false_eq_true, if_true, if_false, Decidable.not_not] at h13
                        (try simp only [Decidable.not_not] at h13); (try have hgp1 := gapI_pos h13)
                        exfalso
                        first | exact absurd rfl h13 | exact h13 trivial | (simp at h13; done)
                      simp only [Bool.false_eq_true, if_true, if_false, Decidable.not_not] at h12
                      (try simp only [Decidable.not_not] at h12); (try have hgp1 := gapI_pos h12)
                      exfalso
                      first | exact absurd rfl h12 | exact h12 trivial | (simp at h12; done)
                    simp only [Bool.false_eq_true, if_true, if_false, Decidable.not_not] at h11
                    (try simp only [Decidable.not_not] at h11); (try have hgp1 := gapI_pos h11)
                    exfalso
                    first | exact absurd rfl h11 | exact h11 trivial | (simp at h11; done)
                  simp only [Bool.false_eq_true, if_true, if_false, Decidable.not_not] at h10
                  (try simp only [Decidable.not_not] at h10); (try have hgp1 := gapI_pos h10)
                  exfalso
                  first | exact absurd rfl h10 | exact h10 trivial | (simp at h10; done)
                simp only [Bool.false_eq_true, if_true, if_false, Decidable.not_not] at h9
                (try simp only [Decidable.not_not] at h9); (try have hgp1 := gapI_pos h9)
                exfalso
                first | exact absurd rfl h9 | exact h9 trivial | (simp at h9; done)
              simp only [Bool.false_eq_true, if_true, if_false, Decidable.not_not] at h8
              (try simp only [Decidable.not_not] at h8); (try have hgp1 := gapI_pos h8)
              exfalso
              first | exact absurd rfl h8 | exact h8 trivial | (simp at h8; done)
            simp only [Bool.false_eq_true, if_true, if_false, Decidable.not_not] at h7
            (try simp only [Decidable.not_not] at h7); (try have hgp1 := gapI_pos h7)
            exfalso
            first | exact absurd rfl h7 | exact h7 trivial | (simp at h7; done)
          simp only [Bool.false_eq_true, if_true, if_false, Decidable.not_not] at h6
          (try simp only [Decidable.not_not] at h6); (try have hgp1 := gapI_pos h6)
          exfalso
          first | exact absurd rfl h6 | exact h6 trivial | (simp at h6; done)
        simp only [Bool.false_eq_true, if_true, if_false, Decidable.not_not] at h5
        (try simp only [Decidable.not_not] at h5); (try have hgp1 := gapI_pos h5)
        exfalso
        first | exact absurd rfl h5 | exact h5 trivial | (simp at h5; done)
      simp only [Bool.false_eq_true, if_true, if_false, Decidable.not_not] at h4
      (try simp only [Decidable.not_not] at h4); (try have hgp1 := gapI_pos h4)
      exfalso
      first | exact absurd rfl h4 | exact h4 trivial | (simp at h4; done)
    simp only [Bool.false_eq_true, if_true, if_false, Decidable.not_not] at h3
    (try simp only [Decidable.not_not] at h3); (try have hgp1 := gapI_pos h3)
    exfalso
    first | exact absurd rfl h3 | exact h3 trivial | (simp at h3; done)
  simp only [Bool.false_eq_true, if_true, if_false, Decidable.not_not] at h2
  (try simp only [Decidable.not_not] at h2); (try have hgp1 := gapI_pos h2)
  exfalso
  first | exact absurd rfl h2 | exact h2 trivial | (simp at h2; done)

end Go.Proofs.YtjbbijlbenkgcaaDoor
