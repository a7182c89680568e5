/- Contracts of functions, walked over the pure layer; each says for which arguments. -/
import Derived.Test.YtfagllolcalfiabDoorn5Ty
import Derived.Test.YtfagllolcalfiabDoorTf
import Derived.Test.YtfagllolcalfiabDoorn1
import Derived.Test.YtfagllolcalfiabDoorShelf
import Derived.Test.YtfagllolcalfiabDoorn2
import Derived.Test.YtfagllolcalfiabDoorn3
import Derived.Test.YtfagllolcalfiabDoorPwMp
import Derived.Test.YtfagllolcalfiabDoorn4
namespace Go.Proofs.YtfagllolcalfiabDoor
open Go.RowKit n5Ty
set_option linter.unusedVariables false
set_option linter.unusedSimpArgs false

set_option maxRecDepth 8000 in
set_option maxHeartbeats 2000000 in
theorem FnExactLastCells_law (c : Int) (p0 : -9223372036854775808 ≤ c ∧ c ≤ 9223372036854775807) (l : List Int) (p1 : (∀ n ∈ l, -9223372036854775808 ≤ n ∧ n ≤ 9223372036854775807) ∧ l.length ≤ 9223372036854775807) : PCalls Tryd.prog 3 [.int .i64 c, .sl l.length (l.map (.int .i64))] (· = [.val (.bool true)]) := by
  refine pcalls_of_code (n := 98) az Tryd.func3 (by kernel_rfl) rfl rfl (Nat.le_of_ble_eq_true rfl) (by intro t u h; simp [Tryd.f3] at h) ?_
  obtain ⟨p0l, p0u⟩ := p0
  obtain ⟨p1e, p1l⟩ := p1
  have nl : (if WayP c l then laL (dcd l) c.toNat 128 else []).length ≤ 128 := by
    split
    · exact laL_len _ _ _
    · simp
  refine code_seq (fun K1 hK1 => ?_)
  refine code_region ?_
  refine list_cons rfl (op_q (q_assign rfl (by decide)) ?_)
  refine list_nil ?_
  refine hK1 _ ?_; clear hK1 K1
  refine code_seq (fun K2 hK2 => ?_)
  refine code_seq (fun K3 hK3 => ?_)
  refine code_region ?_
  refine list_cons rfl (op_q (q_move rfl (by decide)) ?_)
  refine list_cons rfl (op_q (q_len_sl Tryd.underlying22 rfl rfl (by decide)) ?_)
  refine list_cons rfl (op_q (q_gt rfl rfl (by decide)) ?_)
  refine list_nil ?_
  refine hK3 _ ?_; clear hK3 K3
  refine code_cond_d rfl (fun h1 => ?_) (fun h1 => ?_)
  · skip
    (try simp only [Decidable.not_not] at h1)
    refine code_seq (fun K4 hK4 => ?_)
    refine code_region ?_
    refine list_cons rfl (op_q (q_assign rfl (by decide)) ?_)
    refine list_nil ?_
    refine hK4 _ ?_; clear hK4 K4
    refine code_ret ?_
    refine then_r ?_; clear hK2 K2
    refine ends_ret (cs := []) rfl rfl rfl rfl trivial ?_
    first | rfl | omega | exact absurd rfl h1 | (exact absurd (by omega) h1) | (simp at h1) | (simp_all) | (exfalso; simp_all; omega)
  (try simp only [Decidable.not_not] at h1)
  refine code_skip ?_
  refine hK2 _ ?_; clear hK2 K2
  refine code_seq (fun K5 hK5 => ?_)
  refine code_region ?_
  refine list_cons rfl (op_q (q_move rfl (by decide)) ?_)
  refine list_cons rfl (op_q (q_move rfl (by decide)) ?_)
  refine list_cons rfl (op_call _ (toIntS_c _ (by first | omega | (simp; omega))) rfl rfl (by decide) (by decide) (by decide) rfl ?_)
  rintro _ rfl
  refine list_cons rfl (op_call _ (spec_LastCells _ _ (by omega)) rfl rfl (by decide) (by decide) (by decide) rfl ?_)
  rintro _ rfl
  refine list_cons rfl (op_q (q_move rfl (by decide)) ?_)
  refine list_cons rfl (op_q (q_extract rfl rfl (by decide)) ?_)
  refine list_cons rfl (op_q (q_extract rfl rfl (by decide)) ?_)
  refine list_cons rfl (op_q (q_assign rfl (by decide)) ?_)
  refine list_cons rfl (op_q (q_assign rfl (by decide)) ?_)
  refine list_nil ?_
  refine hK5 _ ?_; clear hK5 K5
  refine codeT.imp (σ' := [(0, _), (1, _), (4, _), (5, _), (6, _)]) ?_ (imp_covers ⟨rfl, rfl, rfl, rfl, rfl, trivial⟩)
  refine code_seq (fun K6 hK6 => ?_)
  refine code_region ?_
  refine list_cons rfl (op_q (q_move rfl (by decide)) ?_)
  refine list_cons rfl (op_call _ (toIntS_c _ (by first | omega | (simp; omega))) rfl rfl (by decide) (by decide) (by decide) rfl ?_)
  rintro _ rfl
  refine list_cons rfl (op_q (q_assign rfl (by decide)) ?_)
  refine list_nil ?_
  refine hK6 _ ?_; clear hK6 K6
  refine codeT.imp (σ' := [(0, _), (1, _), (4, _), (5, _), (6, _), (7, _)]) ?_ (imp_covers ⟨rfl, rfl, rfl, rfl, rfl, rfl, trivial⟩)
  refine code_seq (fun K7 hK7 => ?_)
  refine code_region ?_
  refine list_cons rfl (op_q (q_move rfl (by decide)) ?_)
  refine list_cons rfl (op_q (q_move rfl (by decide)) ?_)
  refine list_cons rfl (op_call _ (impl_LastCells _ _ (by omega) (by omega) (by omega)) rfl rfl (by decide) (by decide) (by decide) rfl ?_)
  rintro _ rfl
  refine list_cons rfl (op_q (q_move rfl (by decide)) ?_)
  refine list_cons rfl (op_q (q_extract rfl rfl (by decide)) ?_)
  refine list_cons rfl (op_q (q_extract rfl rfl (by decide)) ?_)
  refine list_cons rfl (op_q (q_assign rfl (by decide)) ?_)
  refine list_cons rfl (op_q (q_assign rfl (by decide)) ?_)
  refine list_nil ?_
  refine hK7 _ ?_; clear hK7 K7
  refine codeT.imp (σ' := [(0, _), (1, _), (4, _), (5, _), (6, _), (7, _), (8, _), (9, _)]) ?_ (imp_covers ⟨rfl, rfl, rfl, rfl, rfl, rfl, rfl, rfl, trivial⟩)
  refine code_seq (fun K8 hK8 => ?_)
  refine code_seq (fun K9 hK9 => ?_)
  refine code_region ?_
  refine list_cons rfl (op_q (q_move rfl (by decide)) ?_)
  refine list_cons rfl (op_q (q_move rfl (by decide)) ?_)
  refine list_cons rfl (op_call _ (eqIntS_c _ _ (by first | omega | (simp; omega))) rfl rfl (by decide) (by decide) (by decide) rfl ?_)
  rintro _ rfl
  refine list_cons rfl (op_q (by first | exact q_notd rfl (by decide) | exact q_not rfl (by decide)) ?_)
  refine list_cons rfl (op_q (q_move rfl (by decide)) ?_)
  refine list_guard_d rfl rfl rfl rfl (by decide) rfl (by decide) (fun h2 => ?_) (fun h2 => ?_)
  · simp only [Bool.false_eq_true, if_true, if_false, Decidable.not_not] at h2
    refine id (op_q (q_move rfl (by decide)) ?_)
    refine list_guard_y rfl rfl rfl rfl (by decide) rfl ?_
    refine id (op_q (q_move rfl (by decide)) ?_)
    refine list_guard_y rfl rfl rfl rfl (by decide) rfl ?_
    refine id (op_q (q_bne Tryd.underlying4 rfl rfl (by decide)) ?_)
    refine list_cons rfl (op_q (q_pick rfl rfl (by decide)) ?_)
    refine list_nil ?_
    refine hK9 _ ?_; clear hK9 K9
    refine codeT.imp (σ' := [(0, _), (1, _), (4, _), (5, _), (6, _), (7, _), (8, _), (9, _), (41, _)]) ?_ (imp_covers ⟨rfl, rfl, rfl, rfl, rfl, rfl, rfl, rfl, rfl, trivial⟩)
    refine code_cond_d rfl (fun h3 => ?_) (fun h3 => ?_)
    · skip
      (try simp only [Decidable.not_not] at h3)
      refine code_seq (fun K10 hK10 => ?_)
      refine code_region ?_
      refine list_cons rfl (op_q (q_assign rfl (by decide)) ?_)
      refine list_nil ?_
      refine hK10 _ ?_; clear hK10 K10
      refine code_ret ?_
      refine then_r ?_; clear hK8 K8
      refine ends_ret (cs := []) rfl rfl rfl rfl trivial ?_
      first | rfl | omega | exact absurd rfl h3 | (exact absurd (by omega) h3) | (simp at h3) | (simp_all) | (exfalso; simp_all; omega)
    (try simp only [Decidable.not_not] at h3)
    refine code_skip ?_
    refine hK8 _ ?_; clear hK8 K8
    refine code_seq (fun K11 hK11 => ?_)
    refine code_seq (fun K12 hK12 => ?_)
    refine code_region ?_
    refine list_cons rfl (op_q (q_move rfl (by decide)) ?_)
    refine list_cons rfl (op_q (q_move rfl (by decide)) ?_)
    refine list_cons rfl (op_call _ (toIntS_c _ (by first | omega | (simp; omega))) rfl rfl (by decide) (by decide) (by decide) rfl ?_)
    rintro _ rfl
    refine list_cons rfl (op_call _ (eqIntS_c _ _ (by first | omega | (simp; omega))) rfl rfl (by decide) (by decide) (by decide) rfl ?_)
    rintro _ rfl
    refine list_cons rfl (op_q (by first | exact q_notd rfl (by decide) | exact q_not rfl (by decide)) ?_)
    refine list_nil ?_
    refine hK12 _ ?_; clear hK12 K12
    refine codeT.imp (σ' := [(0, _), (1, _), (4, _), (5, _), (6, _), (7, _), (8, _), (9, _), (46, _)]) ?_ (imp_covers ⟨rfl, rfl, rfl, rfl, rfl, rfl, rfl, rfl, rfl, trivial⟩)
    refine code_cond_d rfl (fun h4 => ?_) (fun h4 => ?_)
    · skip
      (try simp only [Decidable.not_not] at h4)
      refine code_seq (fun K13 hK13 => ?_)
      refine code_region ?_
      refine list_cons rfl (op_q (q_assign rfl (by decide)) ?_)
      refine list_nil ?_
      refine hK13 _ ?_; clear hK13 K13
      refine code_ret ?_
      refine then_r ?_; clear hK11 K11
      refine ends_ret (cs := []) rfl rfl rfl rfl trivial ?_
      first | rfl | omega | exact absurd rfl h4 | (exact absurd (by omega) h4) | (simp at h4) | (simp_all) | (exfalso; simp_all; omega)
    (try simp only [Decidable.not_not] at h4)
    refine code_skip ?_
    refine hK11 _ ?_; clear hK11 K11
    refine code_seq (fun K14 hK14 => ?_)
    refine code_region ?_
    refine list_cons rfl (op_q (q_assign rfl (by decide)) ?_)
    refine list_nil ?_
    refine hK14 _ ?_; clear hK14 K14
    refine code_seq (fun K15 hK15 => ?_)
    refine code_region ?_
    refine list_cons rfl (op_q (q_move rfl (by decide)) ?_)
    refine list_cons rfl (op_q (q_move rfl (by decide)) ?_)
    refine list_cons rfl (op_callM (markIntS_c _ _ ?_ ?_ ?_) (.tmp 47) 26 [7, 47] [.tmp 48] _ rfl rfl (by intro y hy; cases hy; exact ⟨rfl, (by intro t ht; simp only [List.mem_cons, List.not_mem_nil, or_false] at ht; rcases ht with rfl | rfl <;> rfl), (by intro s hs; simp only [List.mem_cons, List.not_mem_nil, or_false] at hs; subst hs; first | (simp [SV.labels]; done) | (simp [SV.labels, packS, SV.back]; done) | exact List.not_mem_nil)⟩) (by decide) (by decide) (by decide) rfl (fun _ => rfl) ?_)
    · first | omega | (simp; omega)
    · omega
    · omega
    rintro _ _ ⟨rfl, rfl⟩
    refine list_cons rfl (op_q (q_assign rfl (by decide)) ?_)
    refine list_nil ?_
    refine hK15 _ ?_; clear hK15 K15
    refine codeT.imp (σ' := [(0, _), (1, _), (4, _), (5, _), (6, _), (7, _), (8, _), (9, _), (10, _)]) ?_ (imp_covers ⟨rfl, rfl, rfl, rfl, rfl, rfl, rfl, rfl, rfl, trivial⟩)
    refine code_seq (fun K16 hK16 => ?_)
    refine code_seq (fun K17 hK17 => ?_)
    refine code_region ?_
    refine list_cons rfl (op_q (q_move rfl (by decide)) ?_)
    refine list_cons rfl (op_q (q_lt rfl rfl (by decide)) ?_)
    refine list_cons rfl (op_q (q_move rfl (by decide)) ?_)
    refine list_guard_d rfl rfl rfl rfl (by decide) rfl (by decide) (fun h5 => ?_) (fun h5 => ?_)
    · simp only [Bool.false_eq_true, if_true, if_false, Decidable.not_not] at h5
      refine id (op_q (q_move rfl (by decide)) ?_)
      refine list_guard_y rfl rfl rfl rfl (by decide) rfl ?_
      refine id (op_q (q_move rfl (by decide)) ?_)
      refine list_guard_y rfl rfl rfl rfl (by decide) rfl ?_
      refine id (op_call _ (eqIntS_c _ _ (by first | omega | (simp; omega))) rfl rfl (by decide) (by decide) (by decide) rfl ?_)
      rintro _ rfl
      refine list_guard_y rfl rfl rfl rfl (by decide) rfl ?_
      refine id (op_q (by first | exact q_notd rfl (by decide) | exact q_not rfl (by decide)) ?_)
      refine list_cons rfl (op_q (q_pick rfl rfl (by decide)) ?_)
      refine list_cons rfl (op_q (q_move rfl (by decide)) ?_)
      refine list_guard_d rfl rfl rfl rfl (by decide) rfl (by decide) (fun h6 => ?_) (fun h6 => ?_)
      · simp only [Bool.false_eq_true, if_true, if_false, Decidable.not_not] at h6
        refine id (op_q (q_move rfl (by decide)) ?_)
        refine list_guard_y rfl rfl rfl rfl (by decide) rfl ?_
        refine id (op_q (q_move rfl (by decide)) ?_)
        refine list_guard_y rfl rfl rfl rfl (by decide) rfl ?_
        refine id (op_q (q_bne Tryd.underlying4 rfl rfl (by decide)) ?_)
        refine list_cons rfl (op_q (q_pick rfl rfl (by decide)) ?_)
        refine list_nil ?_
        refine hK17 _ ?_; clear hK17 K17
        refine codeT.imp (σ' := [(0, _), (1, _), (4, _), (5, _), (6, _), (7, _), (8, _), (9, _), (10, _), (62, _)]) ?_ (imp_covers ⟨rfl, rfl, rfl, rfl, rfl, rfl, rfl, rfl, rfl, rfl, trivial⟩)
        refine code_cond_d rfl (fun h7 => ?_) (fun h7 => ?_)
        · skip
          (try simp only [Decidable.not_not] at h7)
          refine code_seq (fun K18 hK18 => ?_)
          refine code_region ?_
          refine list_cons rfl (op_q (q_assign rfl (by decide)) ?_)
          refine list_nil ?_
          refine hK18 _ ?_; clear hK18 K18
          refine code_ret ?_
          refine then_r ?_; clear hK16 K16
          refine ends_ret (cs := []) rfl rfl rfl rfl trivial ?_
          first | rfl | omega | exact absurd rfl h7 | (exact absurd (by omega) h7) | (simp at h7) | (simp_all) | (exfalso; simp_all; omega)
        (try simp only [Decidable.not_not] at h7)
        refine code_skip ?_
        refine hK16 _ ?_; clear hK16 K16
        refine code_seq (fun K19 hK19 => ?_)
        refine code_region ?_
        refine list_cons rfl (op_q (q_assign rfl (by decide)) ?_)
        refine list_nil ?_
        refine hK19 _ ?_; clear hK19 K19
        refine code_seq (fun K20 hK20 => ?_)
        refine code_region ?_
        refine list_cons rfl (op_q (q_move rfl (by decide)) ?_)
        refine list_cons rfl (op_q (q_move rfl (by decide)) ?_)
        refine list_cons rfl (op_callM (markIntS_c _ _ ?_ ?_ ?_) (.tmp 63) 30 [8, 63] [.tmp 64] _ rfl rfl (by intro y hy; cases hy; exact ⟨rfl, (by intro t ht; simp only [List.mem_cons, List.not_mem_nil, or_false] at ht; rcases ht with rfl | rfl <;> rfl), (by intro s hs; simp only [List.mem_cons, List.not_mem_nil, or_false] at hs; subst hs; first | (simp [SV.labels]; done) | (simp [SV.labels, packS, SV.back]; done) | exact List.not_mem_nil)⟩) (by decide) (by decide) (by decide) rfl (fun _ => rfl) ?_)
        · first | omega | (simp; omega)
        · omega
        · omega
        rintro _ _ ⟨rfl, rfl⟩
        refine list_cons rfl (op_q (q_assign rfl (by decide)) ?_)
        refine list_nil ?_
        refine hK20 _ ?_; clear hK20 K20
        refine codeT.imp (σ' := [(0, _), (1, _), (4, _), (5, _), (6, _), (7, _), (8, _), (9, _), (10, _), (11, _)]) ?_ (imp_covers ⟨rfl, rfl, rfl, rfl, rfl, rfl, rfl, rfl, rfl, rfl, trivial⟩)
        refine code_seq (fun K21 hK21 => ?_)
        refine code_region ?_
        refine list_cons rfl (op_q (q_assign rfl (by decide)) ?_)
        refine list_nil ?_
        refine hK21 _ ?_; clear hK21 K21
        refine code_seq (fun K22 hK22 => ?_)
        refine code_region ?_
        refine list_cons rfl (op_q (q_move rfl (by decide)) ?_)
        refine list_cons rfl (op_q (q_move rfl (by decide)) ?_)
        refine list_cons rfl (op_call _ (heldIntS_c _ _ (by first | omega | (simp; omega)) (by omega) (by omega)) rfl rfl (by decide) (by decide) (by decide) rfl ?_)
        rintro _ rfl
        refine list_cons rfl (op_q (q_assign rfl (by decide)) ?_)
        refine list_nil ?_
        refine hK22 _ ?_; clear hK22 K22
        refine codeT.imp (σ' := [(0, _), (1, _), (4, _), (5, _), (6, _), (7, _), (8, _), (9, _), (10, _), (11, _), (12, _)]) ?_ (imp_covers ⟨rfl, rfl, rfl, rfl, rfl, rfl, rfl, rfl, rfl, rfl, rfl, trivial⟩)
        refine code_seq (fun K23 hK23 => ?_)
        refine code_seq (fun K24 hK24 => ?_)
        refine code_region ?_
        refine list_cons rfl (op_q (q_move rfl (by decide)) ?_)
        refine list_cons rfl (op_q (q_lt rfl rfl (by decide)) ?_)
        refine list_nil ?_
        refine hK24 _ ?_; clear hK24 K24
        refine code_cond_d rfl (fun h8 => ?_) (fun h8 => ?_)
        · skip
          (try simp only [Decidable.not_not] at h8)
          refine code_seq (fun K25 hK25 => ?_)
          refine code_region ?_
          refine list_cons rfl (op_q (q_assign rfl (by decide)) ?_)
          refine list_nil ?_
          refine hK25 _ ?_; clear hK25 K25
          refine code_ret ?_
          refine then_r ?_; clear hK23 K23
          refine ends_ret (cs := []) rfl rfl rfl rfl trivial ?_
          first | rfl | omega | exact absurd rfl h8 | (exact absurd (by omega) h8) | (simp at h8) | (simp_all) | (exfalso; simp_all; omega)
        (try simp only [Decidable.not_not] at h8)
        refine code_skip ?_
        refine hK23 _ ?_; clear hK23 K23
        refine code_seq (fun K26 hK26 => ?_)
        refine code_seq (fun K27 hK27 => ?_)
        refine code_region ?_
        refine list_cons rfl (op_q (q_move rfl (by decide)) ?_)
        refine list_cons rfl (op_q (q_move rfl (by decide)) ?_)
        refine list_cons rfl (op_q (q_ne rfl rfl (by decide)) ?_)
        refine list_nil ?_
        refine hK27 _ ?_; clear hK27 K27
        refine code_cond_d rfl (fun h9 => ?_) (fun h9 => ?_)
        · skip
          (try simp only [Decidable.not_not] at h9)
          refine code_seq (fun K28 hK28 => ?_)
          refine code_region ?_
          refine list_cons rfl (op_q (q_assign rfl (by decide)) ?_)
          refine list_nil ?_
          refine hK28 _ ?_; clear hK28 K28
          refine code_ret ?_
          refine then_r ?_; clear hK26 K26
          refine ends_ret (cs := []) rfl rfl rfl rfl trivial ?_
          first | rfl | omega | exact absurd rfl h9 | (exact absurd (by omega) h9) | (simp at h9) | (simp_all) | (exfalso; simp_all; omega)
        (try simp only [Decidable.not_not] at h9)
        refine code_skip ?_
        refine hK26 _ ?_; clear hK26 K26
        refine code_seq (fun K29 hK29 => ?_)
        refine code_region ?_
        refine list_cons rfl (op_q (q_move rfl (by decide)) ?_)
        refine list_cons rfl (op_q (q_move rfl (by decide)) ?_)
        refine list_cons rfl (op_call _ (toIntS_c _ (by first | omega | (simp; omega))) rfl rfl (by decide) (by decide) (by decide) rfl ?_)
        rintro _ rfl
        refine list_cons rfl (op_call _ (impl_LastCells _ _ (by omega) (by omega) (by omega)) rfl rfl (by decide) (by decide) (by decide) rfl ?_)
        rintro _ rfl
        refine list_cons rfl (op_q (q_move rfl (by decide)) ?_)
        refine list_cons rfl (op_q (q_extract rfl rfl (by decide)) ?_)
        refine list_cons rfl (op_q (q_extract rfl rfl (by decide)) ?_)
        refine list_cons rfl (op_q (q_assign rfl (by decide)) ?_)
        refine list_cons rfl (op_q (q_assign rfl (by decide)) ?_)
        refine list_nil ?_
        refine hK29 _ ?_; clear hK29 K29
        refine codeT.imp (σ' := [(0, _), (1, _), (4, _), (5, _), (6, _), (7, _), (8, _), (9, _), (10, _), (11, _), (12, _), (13, _), (14, _)]) ?_ (imp_covers ⟨rfl, rfl, rfl, rfl, rfl, rfl, rfl, rfl, rfl, rfl, rfl, rfl, rfl, trivial⟩)
        refine code_seq (fun K30 hK30 => ?_)
        refine code_seq (fun K31 hK31 => ?_)
        refine code_region ?_
        refine list_cons rfl (op_q (q_move rfl (by decide)) ?_)
        refine list_cons rfl (op_q (q_move rfl (by decide)) ?_)
        refine list_cons rfl (op_call _ (eqIntS_c _ _ (by first | omega | (simp; omega))) rfl rfl (by decide) (by decide) (by decide) rfl ?_)
        rintro _ rfl
        refine list_cons rfl (op_q (by first | exact q_notd rfl (by decide) | exact q_not rfl (by decide)) ?_)
        refine list_cons rfl (op_q (q_move rfl (by decide)) ?_)
        refine list_guard_d rfl rfl rfl rfl (by decide) rfl (by decide) (fun h10 => ?_) (fun h10 => ?_)
        · simp only [Bool.false_eq_true, if_true, if_false, Decidable.not_not] at h10
          refine id (op_q (q_move rfl (by decide)) ?_)
          refine list_guard_y rfl rfl rfl rfl (by decide) rfl ?_
          refine id (op_q (q_move rfl (by decide)) ?_)
          refine list_guard_y rfl rfl rfl rfl (by decide) rfl ?_
          refine id (op_q (q_bne Tryd.underlying4 rfl rfl (by decide)) ?_)
          refine list_cons rfl (op_q (q_pick rfl rfl (by decide)) ?_)
          refine list_nil ?_
          refine hK31 _ ?_; clear hK31 K31
          refine codeT.imp (σ' := [(0, _), (1, _), (4, _), (5, _), (6, _), (7, _), (8, _), (9, _), (10, _), (11, _), (12, _), (13, _), (14, _), (89, _)]) ?_ (imp_covers ⟨rfl, rfl, rfl, rfl, rfl, rfl, rfl, rfl, rfl, rfl, rfl, rfl, rfl, rfl, trivial⟩)
          refine code_cond_d rfl (fun h11 => ?_) (fun h11 => ?_)
          · skip
            (try simp only [Decidable.not_not] at h11)
            refine code_seq (fun K32 hK32 => ?_)
            refine code_region ?_
            refine list_cons rfl (op_q (q_assign rfl (by decide)) ?_)
            refine list_nil ?_
            refine hK32 _ ?_; clear hK32 K32
            refine code_ret ?_
            refine then_r ?_; clear hK30 K30
            refine ends_ret (cs := []) rfl rfl rfl rfl trivial ?_
            first | rfl | omega | exact absurd rfl h11 | (exact absurd (by omega) h11) | (simp at h11) | (simp_all) | (exfalso; simp_all; omega)
          (try simp only [Decidable.not_not] at h11)
          refine code_skip ?_
          refine hK30 _ ?_; clear hK30 K30
          refine code_seq (fun K33 hK33 => ?_)
          refine code_region ?_
          refine list_cons rfl (op_q (q_assign rfl (by decide)) ?_)
          refine list_nil ?_
          refine hK33 _ ?_; clear hK33 K33
          refine code_seq (fun K34 hK34 => ?_)
          refine code_region ?_
          refine list_cons rfl (op_q (q_move rfl (by decide)) ?_)
          refine list_cons rfl (op_q (q_move rfl (by decide)) ?_)
          refine list_cons rfl (op_call _ (heldIntS_c _ _ (by first | omega | (simp; omega)) (by omega) (by omega)) rfl rfl (by decide) (by decide) (by decide) rfl ?_)
          rintro _ rfl
          refine list_cons rfl (op_q (q_assign rfl (by decide)) ?_)
          refine list_nil ?_
          refine hK34 _ ?_; clear hK34 K34
          refine codeT.imp (σ' := [(0, _), (1, _), (4, _), (5, _), (6, _), (7, _), (8, _), (9, _), (10, _), (11, _), (12, _), (13, _), (14, _)]) ?_ (imp_covers ⟨rfl, rfl, rfl, rfl, rfl, rfl, rfl, rfl, rfl, rfl, rfl, rfl, rfl, trivial⟩)
          refine code_seq (fun K35 hK35 => ?_)
          refine code_seq (fun K36 hK36 => ?_)
          refine code_region ?_
          refine list_cons rfl (op_q (q_move rfl (by decide)) ?_)
          refine list_cons rfl (op_q (q_lt rfl rfl (by decide)) ?_)
          refine list_nil ?_
          refine hK36 _ ?_; clear hK36 K36
          refine code_cond_d rfl (fun h12 => ?_) (fun h12 => ?_)
          · skip
            (try simp only [Decidable.not_not] at h12)
            refine code_seq (fun K37 hK37 => ?_)
            refine code_region ?_
            refine list_cons rfl (op_q (q_assign rfl (by decide)) ?_)
            refine list_nil ?_
            refine hK37 _ ?_; clear hK37 K37
            refine code_ret ?_
            refine then_r ?_; clear hK35 K35
            refine ends_ret (cs := []) rfl rfl rfl rfl trivial ?_
            first | rfl | omega | exact absurd rfl h12 | (exact absurd (by omega) h12) | (simp at h12) | (simp_all) | (exfalso; simp_all; omega)
          (try simp only [Decidable.not_not] at h12)
          refine code_skip ?_
          refine hK35 _ ?_; clear hK35 K35
          refine code_seq (fun K38 hK38 => ?_)
          refine code_seq (fun K39 hK39 => ?_)
          refine code_region ?_
          refine list_cons rfl (op_q (q_move rfl (by decide)) ?_)
          refine list_cons rfl (op_q (q_move rfl (by decide)) ?_)
          refine list_cons rfl (op_q (q_ne rfl rfl (by decide)) ?_)
          refine list_nil ?_
          refine hK39 _ ?_; clear hK39 K39
          refine code_cond_d rfl (fun h13 => ?_) (fun h13 => ?_)
          · skip
            (try simp only [Decidable.not_not] at h13)
            refine code_seq (fun K40 hK40 => ?_)
            refine code_region ?_
            refine list_cons rfl (op_q (q_assign rfl (by decide)) ?_)
            refine list_nil ?_
            refine hK40 _ ?_; clear hK40 K40
            refine code_ret ?_
            refine then_r ?_; clear hK38 K38
            refine ends_ret (cs := []) rfl rfl rfl rfl trivial ?_
            first | rfl | omega | exact absurd rfl h13 | (exact absurd (by omega) h13) | (simp at h13) | (simp_all) | (exfalso; simp_all; omega)
          (try simp only [Decidable.not_not] at h13)
          refine code_skip ?_
          refine hK38 _ ?_; clear hK38 K38
          refine code_seq (fun K41 hK41 => ?_)
          refine code_region ?_
          refine list_cons rfl (op_q (q_assign rfl (by decide)) ?_)
          refine list_nil ?_
          refine hK41 _ ?_; clear hK41 K41
          refine code_ret ?_
          refine ends_ret (cs := []) rfl rfl rfl rfl trivial ?_
          first | rfl | omega | exact absurd rfl h13 | (exact absurd (by omega) h13) | (simp at h13) | (simp_all) | (exfalso; simp_all; omega)
        simp only [Bool.false_eq_true, if_true, if_false, Decidable.not_not] at h10
        refine list_guard_n rfl rfl rfl rfl (by decide) rfl ?_
        refine list_guard_n rfl rfl rfl rfl (by decide) rfl ?_
        refine list_cons rfl (op_q (q_pick rfl rfl (by decide)) ?_)
        refine list_nil ?_
        refine hK31 _ ?_; clear hK31 K31
        refine code_cond_t rfl ?_
        refine code_seq (fun K42 hK42 => ?_)
        refine code_region ?_
        refine list_cons rfl (op_q (q_assign rfl (by decide)) ?_)
        refine list_nil ?_
        refine hK42 _ ?_; clear hK42 K42
        refine code_ret ?_
        refine then_r ?_; clear hK30 K30
        refine ends_ret (cs := []) rfl rfl rfl rfl trivial ?_
        first | rfl | omega | exact absurd rfl h10 | (exact absurd (by omega) h10) | (simp at h10) | (simp_all) | (exfalso; simp_all; omega)
      simp only [Bool.false_eq_true, if_true, if_false, Decidable.not_not] at h6
      refine list_guard_n rfl rfl rfl rfl (by decide) rfl ?_
      refine list_guard_n rfl rfl rfl rfl (by decide) rfl ?_
      refine list_cons rfl (op_q (q_pick rfl rfl (by decide)) ?_)
      refine list_nil ?_
      refine hK17 _ ?_; clear hK17 K17
      refine codeT.imp (σ' := [(0, _), (1, _), (4, _), (5, _), (6, _), (7, _), (8, _), (9, _), (10, _), (62, _)]) ?_ (imp_covers ⟨rfl, rfl, rfl, rfl, rfl, rfl, rfl, rfl, rfl, rfl, trivial⟩)
      refine code_cond_t rfl ?_
      refine code_seq (fun K43 hK43 => ?_)
      refine code_region ?_
      refine list_cons rfl (op_q (q_assign rfl (by decide)) ?_)
      refine list_nil ?_
      refine hK43 _ ?_; clear hK43 K43
      refine code_ret ?_
      refine then_r ?_; clear hK16 K16
      refine ends_ret (cs := []) rfl rfl rfl rfl trivial ?_
      first | rfl | omega | exact absurd rfl h6 | (exact absurd (by omega) h6) | (simp at h6) | (simp_all) | (exfalso; simp_all; omega)
    simp only [Bool.false_eq_true, if_true, if_false, Decidable.not_not] at h5
    refine list_guard_n rfl rfl rfl rfl (by decide) rfl ?_
    refine list_guard_n rfl rfl rfl rfl (by decide) rfl ?_
    refine list_guard_n rfl rfl rfl rfl (by decide) rfl ?_
    refine list_cons rfl (op_q (q_pick rfl rfl (by decide)) ?_)
    refine list_cons rfl (op_q (q_move rfl (by decide)) ?_)
    refine list_guard_n rfl rfl rfl rfl (by decide) rfl ?_
    refine list_guard_n rfl rfl rfl rfl (by decide) rfl ?_
    refine list_guard_n rfl rfl rfl rfl (by decide) rfl ?_
    refine list_cons rfl (op_q (q_pick rfl rfl (by decide)) ?_)
    refine list_nil ?_
    refine hK17 _ ?_; clear hK17 K17
    refine code_cond_t rfl ?_
    refine code_seq (fun K44 hK44 => ?_)
    refine code_region ?_
    refine list_cons rfl (op_q (q_assign rfl (by decide)) ?_)
    refine list_nil ?_
    refine hK44 _ ?_; clear hK44 K44
    refine code_ret ?_
    refine then_r ?_; clear hK16 K16
    refine ends_ret (cs := []) rfl rfl rfl rfl trivial ?_
    first | rfl | omega | exact absurd rfl h5 | (exact absurd (by omega) h5) | (simp at h5) | (simp_all) | (exfalso; simp_all; omega)
  simp only [Bool.false_eq_true, if_true, if_false, Decidable.not_not] at h2
  refine list_guard_n rfl rfl rfl rfl (by decide) rfl ?_
  refine list_guard_n rfl rfl rfl rfl (by decide) rfl ?_
  refine list_cons rfl (op_q (q_pick rfl rfl (by decide)) ?_)
  refine list_nil ?_
  refine hK9 _ ?_; clear hK9 K9
  refine code_cond_t rfl ?_
  refine code_seq (fun K45 hK45 => ?_)
  refine code_region ?_
  refine list_cons rfl (op_q (q_assign rfl (by decide)) ?_)
  refine list_nil ?_
  refine hK45 _ ?_; clear hK45 K45
  refine code_ret ?_
  refine then_r ?_; clear hK8 K8
  refine ends_ret (cs := []) rfl rfl rfl rfl trivial ?_
  first | rfl | omega | exact absurd rfl h2 | (exact absurd (by omega) h2) | (simp at h2) | (simp_all) | (exfalso; simp_all; omega)

end Go.Proofs.YtfagllolcalfiabDoor
