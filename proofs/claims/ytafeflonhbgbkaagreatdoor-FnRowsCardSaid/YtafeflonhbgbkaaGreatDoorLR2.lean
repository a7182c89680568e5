/- Contracts of functions, walked over the pure layer; each says for which arguments. -/
import Derived.Test.YtafeflonhbgbkaaGreatDoorLR2Ty
import Derived.Shelf.Strings.BuilderRune
import Derived.Lib.AppendIntMem
import Derived.RangeFuncNested
import Derived.RangeFuncBound
import Derived.RangeFuncCalls
import Derived.RangeFuncLeaves
import Derived.RangeFuncBox
import Derived.Shelf.Abstract
import Derived.Shelf.RegionOpen
import Derived.WalkKit
import Derived.OwnWalkIn
import Derived.TacticsInMore
import Derived.LoopNIn
import Derived.LoopIn
import Derived.Maps.AppendAt
import Derived.Test.YtafeflonhbgbkaaGreatDoorTf
import Derived.Test.YtafeflonhbgbkaaGreatDoorSp
import Derived.Test.YtafeflonhbgbkaaGreatDoorShelf
import Derived.Test.YtafeflonhbgbkaaGreatDoorBl
import Derived.Test.YtafeflonhbgbkaaGreatDoorIm
import Derived.Test.YtafeflonhbgbkaaGreatDoorIt
import Derived.Test.YtafeflonhbgbkaaGreatDoorSpl
import Derived.Test.YtafeflonhbgbkaaGreatDoorMgR
import Derived.Test.YtafeflonhbgbkaaGreatDoorIm2
import Derived.Test.YtafeflonhbgbkaaGreatDoorIm3
namespace Go.Proofs.YtafeflonhbgbkaaGreatDoor
open Go.RowKit LR2Ty
set_option linter.unusedVariables false
set_option linter.unusedSimpArgs false

set_option maxRecDepth 4000 in
theorem rInts_c (a b : List Int) (ha : a.length ≤ 4611686018427387904) : PCalls Tryz.prog 8 [.sl a.length (a.map (.int .i64)), .sl b.length (b.map (.int .i64))] (· = [.val (.bool (decide (a = b)))]) := by
  refine pcalls_of_code (n := 26) az Tryz.func8 (by kernel_rfl) rfl rfl (Nat.le_of_ble_eq_true rfl) (by intro t u h; simp [Tryz.f8] at h) ?_
  refine code_seq (fun K1 hK1 => ?_)
  refine code_region ?_
  refine list_cons rfl (op_q (q_assign rfl (by decide)) ?_)
  refine list_nil ?_
  refine hK1 _ ?_; clear hK1 K1
  refine code_seq (fun K2 hK2 => ?_)
  refine code_seq (fun K3 hK3 => ?_)
  refine code_region ?_
  refine list_cons rfl (op_q (q_move rfl (by decide)) ?_)
  refine list_cons rfl (op_q (q_len_sl Tryz.underlying25 rfl rfl (by decide)) ?_)
  refine list_cons rfl (op_q (q_move rfl (by decide)) ?_)
  refine list_cons rfl (op_q (q_len_sl Tryz.underlying25 rfl rfl (by decide)) ?_)
  refine list_cons rfl (op_q (q_ne rfl rfl (by decide)) ?_)
  refine list_nil ?_
  refine hK3 _ ?_; clear hK3 K3
  refine code_cond_d rfl (fun h1 => ?_) (fun h1 => ?_)
  · skip
    (try simp only [Decidable.not_not] at h1)
    refine code_seq (fun K4 hK4 => ?_)
    refine code_region ?_
    refine list_cons rfl (op_q (q_assign rfl (by decide)) ?_)
    refine list_nil ?_
    refine hK4 _ ?_; clear hK4 K4
    refine code_ret ?_
    refine then_r ?_; clear hK2 K2
    refine ends_ret (cs := []) rfl rfl rfl rfl trivial ?_
    rw [decide_eq_false (fun e => h1 (by rw [e]))]
  (try simp only [Decidable.not_not] at h1)
  refine code_skip ?_
  refine hK2 _ ?_; clear hK2 K2
  refine code_seq (fun K5 hK5 => ?_)
  refine code_seq (fun K6 hK6 => ?_)
  refine code_region ?_
  refine list_cons rfl (op_q (q_assign rfl (by decide)) ?_)
  refine list_nil ?_
  refine hK6 _ ?_; clear hK6 K6
  refine code_block ?_
  refine code_loop (X := Bool × Int) (fun x => [(0, .par 0 (.sl a.length (a.map (.int .i64)))), (1, .par 1 (.sl b.length (b.map (.int .i64)))), (4, .val (.bool x.1)), (5, .val (.int .i64 x.2))]) (fun x => 0 ≤ x.2 ∧ x.2 ≤ a.length ∧ ∀ j, j < x.2.toNat → a.getD j 0 = b.getD j 0) (fun x => a.length - x.2.toNat) (_, _) (imp_covers ⟨rfl, rfl, rfl, rfl, trivial⟩) ?_ ?_
  · (try dsimp only)
    refine ⟨by omega, by omega, fun j hj => by simp at hj⟩
  · intro x hI
    obtain ⟨t4, i⟩ := x
    replace hI : 0 ≤ i ∧ i ≤ a.length ∧ ∀ j, j < i.toNat → a.getD j 0 = b.getD j 0 := hI
    show codeT _ _ _ [(0, .par 0 (.sl a.length (a.map (.int .i64)))), (1, .par 1 (.sl b.length (b.map (.int .i64)))), (4, .val (.bool t4)), (5, .val (.int .i64 i))] _
    obtain ⟨i1, i2, i3⟩ := hI
    refine code_seq (fun K7 hK7 => ?_)
    refine code_seq (fun K8 hK8 => ?_)
    refine code_region ?_
    refine list_cons rfl (op_q (q_move rfl (by decide)) ?_)
    refine list_cons rfl (op_q (q_move rfl (by decide)) ?_)
    refine list_cons rfl (op_q (q_len_sl Tryz.underlying25 rfl rfl (by decide)) ?_)
    refine list_cons rfl (op_q (q_lt rfl rfl (by decide)) ?_)
    refine list_nil ?_
    refine hK8 _ ?_; clear hK8 K8
    refine code_cond_d rfl (fun h2 => ?_) (fun h2 => ?_)
    · skip
      (try simp only [Decidable.not_not] at h2)
      refine code_skip ?_
      refine hK7 _ ?_; clear hK7 K7
      refine code_seq (fun K9 hK9 => ?_)
      refine code_block ?_
      refine code_seq (fun K10 hK10 => ?_)
      refine code_draw (by kernel_rfl) (by kernel_rfl) ?_
      refine draw_q rfl (q_move rfl (by decide)) ?_
      refine draw_q rfl (q_move rfl (by decide)) ?_
      refine draw_q rfl (q_indexAddr_rd sl_25 rfl (.inl ⟨_, rfl, rfl⟩) rfl (by omega) (by omega) (by decide)) ?_
      refine draw_q rfl (q_load_rd one_3 rfl (.inl ⟨_, (by first | rfl | exact congrArg (SV.rpar _) (drop_map1 _ 0 _ (by first | omega | (simp; omega)))), rfl⟩) (by decide)) ?_
      refine draw_q rfl (q_move rfl (by decide)) ?_
      refine draw_q rfl (q_move rfl (by decide)) ?_
      refine draw_q rfl (q_indexAddr_rd sl_25 rfl (.inl ⟨_, rfl, rfl⟩) rfl (by omega) (by omega) (by decide)) ?_
      refine draw_q rfl (q_load_rd one_3 rfl (.inl ⟨_, (by first | rfl | exact congrArg (SV.rpar _) (drop_map1 _ 0 _ (by first | omega | (simp; omega)))), rfl⟩) (by decide)) ?_
      refine draw_q rfl (q_ne rfl rfl (by decide)) ?_
      refine draw_nil ?_
      refine hK10 _ ?_; clear hK10 K10
      refine codeT.imp (σ' := [(0, _), (1, _), (4, _), (5, _), (25, _)]) ?_ (imp_covers ⟨rfl, rfl, rfl, rfl, rfl, trivial⟩)
      refine code_cond_d rfl (fun h3 => ?_) (fun h3 => ?_)
      · skip
        (try simp only [Decidable.not_not] at h3)
        refine code_seq (fun K11 hK11 => ?_)
        refine code_region ?_
        refine list_cons rfl (op_q (q_assign rfl (by decide)) ?_)
        refine list_nil ?_
        refine hK11 _ ?_; clear hK11 K11
        refine code_ret ?_
        refine blk_r ?_
        refine then_r ?_; clear hK9 K9
        refine then_r ?_
        refine blk_r ?_
        refine then_r ?_; clear hK5 K5
        refine ends_ret (cs := []) rfl rfl rfl rfl trivial ?_
        rw [decide_eq_false (list_ne_ofI 0 i.toNat h3)]
      (try simp only [Decidable.not_not] at h3)
      refine code_skip ?_
      refine blk_n ?_
      refine hK9 _ ?_; clear hK9 K9
      refine code_region ?_
      refine list_cons rfl (op_q (q_move rfl (by decide)) ?_)
      refine list_cons rfl (op_q (by first | exact q_addI rfl rfl (by decide) (by omega) (by omega) | exact q_ib rfl rfl rfl (by decide)) ?_)
      refine list_cons rfl (op_q (q_assign rfl (by decide)) ?_)
      refine list_nil ?_
      refine then_n ⟨(_, _), imp_covers ⟨rfl, rfl, rfl, rfl, trivial⟩, ?_, ?_⟩
      · (try dsimp only)
        refine ⟨by omega, by omega, fun j hj => ?_⟩
        by_cases e : j = i.toNat
        · subst e; exact h3
        · exact i3 j (by omega)
      · (try dsimp only); omega
    (try simp only [Decidable.not_not] at h2)
    refine code_exit ?_
    refine then_x ?_; clear hK7 K7
    refine then_x ?_
    refine blk_hit ?_
    refine hK5 _ ?_; clear hK5 K5
    refine code_seq (fun K12 hK12 => ?_)
    refine code_region ?_
    refine list_cons rfl (op_q (q_assign rfl (by decide)) ?_)
    refine list_nil ?_
    refine hK12 _ ?_; clear hK12 K12
    refine code_ret ?_
    refine ends_ret (cs := []) rfl rfl rfl rfl trivial ?_
    rw [decide_eq_true (list_eq_ofI 0 a b (by omega) fun j hj => i3 j (by omega))]

set_option maxRecDepth 4000 in
theorem rBig_c (code : List UInt8) : PCalls Tryz.prog 4 [.sl code.length (bytesP code)] (· = [.val (.bool (decide (65536 < code.length)))]) := by
  refine pcalls_of_code (n := 6) az Tryz.func4 (by kernel_rfl) rfl rfl (Nat.le_of_ble_eq_true rfl) (by intro t u h; simp [Tryz.f4] at h) ?_
  refine code_seq (fun K1 hK1 => ?_)
  refine code_region ?_
  refine list_cons rfl (op_q (q_assign rfl (by decide)) ?_)
  refine list_nil ?_
  refine hK1 _ ?_; clear hK1 K1
  refine code_seq (fun K2 hK2 => ?_)
  refine code_region ?_
  refine list_cons rfl (op_q (q_move rfl (by decide)) ?_)
  refine list_cons rfl (op_q (q_len_sl Tryz.underlying22 rfl rfl (by decide)) ?_)
  refine list_cons rfl (op_q (q_gt rfl rfl (by decide)) ?_)
  refine list_cons rfl (op_q (q_assign rfl (by decide)) ?_)
  refine list_nil ?_
  refine hK2 _ ?_; clear hK2 K2
  refine code_ret ?_
  refine ends_ret (cs := []) rfl rfl rfl rfl trivial ?_
  first | rfl | (congr 3; exact decide_eq_decide.mpr (by omega))

set_option maxRecDepth 8000 in
set_option maxHeartbeats 16000000 in
theorem FnRows_law (code : List UInt8) (p0 : code.length ≤ 9223372036854775807) : MCalls Tryz.prog 3 true none [.sl code.length (bytesP code)] fun rs _ => rs = [.val (.bool true)] := by
  refine mcalls_of_code (n := 353) az Tryz.func3 (by kernel_rfl) rfl rfl (Nat.le_of_ble_eq_true rfl) (by intro t u h; simp [Tryz.f3] at h) ?_
  refine code_seq (fun K1 hK1 => ?_)
  refine code_region ?_
  refine list_cons rfl (op_q (q_assign rfl (by decide)) ?_)
  refine list_nil ?_
  refine hK1 _ ?_; clear hK1 K1
  refine code_seq (fun K2 hK2 => ?_)
  refine code_seq (fun K3 hK3 => ?_)
  refine code_region ?_
  refine list_cons rfl (op_q (q_move rfl (by decide)) ?_)
  refine list_cons rfl (op_call _ (rBig_c _) rfl rfl (by decide) (by decide) (by decide) rfl ?_)
  rintro _ rfl
  refine list_nil ?_
  refine hK3 _ ?_; clear hK3 K3
  refine codeT.imp (σ' := [(0, .ext _), (2, .val (.bool _)), (60, .val (.bool _))]) ?_ (imp_covers ⟨rfl, rfl, rfl, trivial⟩)
  refine code_cond_d rfl (fun h1 => ?_) (fun h1 => ?_)
  · skip
    (try simp only [Decidable.not_not] at h1)
    refine code_seq (fun K4 hK4 => ?_)
    refine code_region ?_
    refine list_cons rfl (op_q (q_assign rfl (by decide)) ?_)
    refine list_nil ?_
    refine hK4 _ ?_; clear hK4 K4
    refine code_ret ?_
    refine then_r ?_; clear hK2 K2
    refine ends_ret (cs := []) rfl rfl rfl rfl trivial ?_
    first
      | rfl
      | rw [decide_eq_true (rr11 (r := r) (by assumption))]
  (try simp only [Decidable.not_not] at h1)
  refine code_skip ?_
  refine hK2 _ ?_; clear hK2 K2
  refine code_seq (fun K5 hK5 => ?_)
  refine code_region ?_
  refine list_cons rfl (op_q (q_move rfl (by decide)) ?_)
  refine list_cons rfl (op_callM (DrawRowOf_c _ ?_) (.tmp 0) 0 [] [.tmp 61] _ rfl rfl (by intro y hy; cases hy) (by decide) (by decide) (by decide) rfl (by intro h; cases h) ?_)
  · first | assumption | omega | (simp; omega)
  rintro _ _ ⟨n, rfl⟩
  refine list_cons rfl (op_q (q_assign rfl (by decide)) ?_)
  refine list_nil ?_
  refine hK5 _ ?_; clear hK5 K5
  refine codeT.imp (σ' := [(0, .ext _), (2, .val (.bool _)), (3, .val (.int .i64 _))]) ?_ (imp_covers ⟨rfl, rfl, rfl, trivial⟩)
  refine code_seq (fun K6 hK6 => ?_)
  refine code_region ?_
  refine list_cons rfl (op_q (q_move rfl (by decide)) ?_)
  refine list_cons rfl (op_call _ (impl_RowOf _) rfl rfl (by decide) (by decide) (by decide) rfl ?_)
  rintro _ rfl; have hl1 := rowI6 n
  refine list_cons rfl (op_q (q_move rfl (by decide)) ?_)
  refine list_cons rfl (op_q (q_extract rfl rfl (by decide)) ?_)
  refine list_cons rfl (op_q (q_extract rfl rfl (by decide)) ?_)
  refine list_cons rfl (op_q (q_assign rfl (by decide)) ?_)
  refine list_cons rfl (op_q (q_assign rfl (by decide)) ?_)
  refine list_nil ?_
  refine hK6 _ ?_; clear hK6 K6
  refine codeT.imp (σ' := [(0, .ext _), (2, .val (.bool _)), (3, .val (.int .i64 _)), (4, .own 65 3 1 _ _), (5, .val (.bool _))]) ?_ (imp_covers ⟨rfl, rfl, rfl, rfl, rfl, trivial⟩)
  refine code_seq (fun K7 hK7 => ?_)
  refine code_seq (fun K8 hK8 => ?_)
  refine code_region ?_
  refine list_cons rfl (op_q (q_move rfl (by decide)) ?_)
  refine list_cons rfl (op_call _ (spec_RowOf _) rfl rfl (by decide) (by decide) (by decide) rfl ?_)
  rintro _ rfl; have hl1 := rowI6 n
  refine list_cons rfl (op_q (q_move rfl (by decide)) ?_)
  refine list_cons rfl (op_q (q_extract rfl rfl (by decide)) ?_)
  refine list_cons rfl (op_q (q_extract rfl rfl (by decide)) ?_)
  refine list_cons rfl (op_q (q_assign rfl (by decide)) ?_)
  refine list_cons rfl (op_q (q_assign rfl (by decide)) ?_)
  refine list_nil ?_
  refine hK8 _ ?_; clear hK8 K8
  refine codeT.imp (σ' := [(0, .ext _), (2, .val (.bool _)), (3, .val (.int .i64 _)), (4, .own 65 3 1 _ _), (5, .val (.bool _)), (6, .own 70 3 1 _ _), (7, .val (.bool _))]) ?_ (imp_covers ⟨rfl, rfl, rfl, rfl, rfl, rfl, rfl, trivial⟩)
  refine code_seq (fun K9 hK9 => ?_)
  refine code_region ?_
  refine list_cons rfl (op_q (q_move rfl (by decide)) ?_)
  refine list_cons rfl (op_q (q_move rfl (by decide)) ?_)
  refine list_cons rfl (op_q (q_bne Tryz.underlying4 rfl rfl (by decide)) ?_)
  refine list_cons rfl (op_q (q_move rfl (by decide)) ?_)
  refine list_guard_d rfl rfl rfl rfl (by decide) rfl (by decide) (fun h2 => ?_) (fun h2 => ?_)
  · simp only [Bool.false_eq_true, if_true, if_false, Decidable.not_not] at h2
    refine id (op_q (q_move rfl (by decide)) ?_)
    refine list_guard_y rfl rfl rfl rfl (by decide) rfl ?_
    refine id (op_q (q_move rfl (by decide)) ?_)
    refine list_guard_y rfl rfl rfl rfl (by decide) rfl ?_
    refine id (op_call _ (rInts_c _ _ (by first | omega | (simp; omega))) rfl rfl (by decide) (by decide) (by decide) rfl ?_)
    rintro _ rfl
    refine list_guard_y rfl rfl rfl rfl (by decide) rfl ?_
    refine id (op_q (by first | exact q_notd rfl (by decide) | exact q_not rfl (by decide)) ?_)
    refine list_cons rfl (op_q (q_pick rfl rfl (by decide)) ?_)
    refine list_nil ?_
    refine hK9 _ ?_; clear hK9 K9
    refine codeT.imp (σ' := [(0, .ext _), (2, .val (.bool _)), (3, .val (.int .i64 _)), (4, .own 65 3 1 _ _), (5, .val (.bool _)), (6, .own 70 3 1 _ _), (7, .val (.bool _)), (81, .val (.bool _))]) ?_ (imp_covers ⟨rfl, rfl, rfl, rfl, rfl, rfl, rfl, rfl, trivial⟩)
    refine code_cond_d rfl (fun h3 => ?_) (fun h3 => ?_)
    · skip
      (try simp only [Decidable.not_not] at h3)
      exfalso
      first | exact absurd rfl h3 | exact h3 trivial | (simp at h3; done)
    (try simp only [Decidable.not_not] at h3)
    refine code_skip ?_
    refine hK7 _ ?_; clear hK7 K7
    refine code_seq (fun K10 hK10 => ?_)
    refine code_region ?_
    refine list_cons rfl (op_q (q_move rfl (by decide)) ?_)
    refine list_cons rfl (op_callM (DrawTurnRow_c _ ?_) (.tmp 0) 0 [] [.tmp 82] _ rfl rfl (by intro y hy; cases hy) (by decide) (by decide) (by decide) rfl (by intro h; cases h) ?_)
    · first | assumption | omega | (simp; omega)
    rintro _ _ ⟨r, hr1, rfl⟩
    refine list_cons rfl (op_q (q_assign rfl (by decide)) ?_)
    refine list_nil ?_
    refine hK10 _ ?_; clear hK10 K10
    refine codeT.imp (σ' := [(0, .ext _), (2, .val (.bool _)), (3, .val (.int .i64 _)), (4, .own 65 3 1 _ _), (5, .val (.bool _)), (6, .own 70 3 1 _ _), (7, .val (.bool _)), (8, .own 83 3 1 _ _)]) ?_ (imp_covers ⟨rfl, rfl, rfl, rfl, rfl, rfl, rfl, rfl, trivial⟩)
    refine code_seq (fun K11 hK11 => ?_)
    refine code_region ?_
    refine list_cons rfl (op_q (q_move rfl (by decide)) ?_)
    refine list_cons rfl (op_call _ (impl_TurnRow _ (by first | omega | (simp; omega))) rfl rfl (by decide) (by decide) (by decide) rfl ?_)
    rintro _ rfl; have hl2 := turnI6 r
    refine list_cons rfl (op_q (q_move rfl (by decide)) ?_)
    refine list_cons rfl (op_q (q_extract rfl rfl (by decide)) ?_)
    refine list_cons rfl (op_q (q_extract rfl rfl (by decide)) ?_)
    refine list_cons rfl (op_q (q_assign rfl (by decide)) ?_)
    refine list_cons rfl (op_q (q_assign rfl (by decide)) ?_)
    refine list_nil ?_
    refine hK11 _ ?_; clear hK11 K11
    refine codeT.imp (σ' := [(0, .ext _), (2, .val (.bool _)), (3, .val (.int .i64 _)), (4, .own 65 3 1 _ _), (5, .val (.bool _)), (6, .own 70 3 1 _ _), (7, .val (.bool _)), (8, .own 83 3 1 _ _), (9, .own 86 3 1 _ _), (10, .val (.bool _))]) ?_ (imp_covers ⟨rfl, rfl, rfl, rfl, rfl, rfl, rfl, rfl, rfl, rfl, trivial⟩)
    refine code_seq (fun K12 hK12 => ?_)
    refine code_seq (fun K13 hK13 => ?_)
    refine code_region ?_
    refine list_cons rfl (op_q (q_move rfl (by decide)) ?_)
    refine list_cons rfl (op_call _ (spec_TurnRow _ (by first | omega | (simp; omega))) rfl rfl (by decide) (by decide) (by decide) rfl ?_)
    rintro _ rfl
    refine list_cons rfl (op_q (q_move rfl (by decide)) ?_)
    refine list_cons rfl (op_q (q_extract rfl rfl (by decide)) ?_)
    refine list_cons rfl (op_q (q_extract rfl rfl (by decide)) ?_)
    refine list_cons rfl (op_q (q_assign rfl (by decide)) ?_)
    refine list_cons rfl (op_q (q_assign rfl (by decide)) ?_)
    refine list_nil ?_
    refine hK13 _ ?_; clear hK13 K13
    refine codeT.imp (σ' := [(0, .ext _), (2, .val (.bool _)), (3, .val (.int .i64 _)), (4, .own 65 3 1 _ _), (5, .val (.bool _)), (6, .own 70 3 1 _ _), (7, .val (.bool _)), (8, .own 83 3 1 _ _), (9, .own 86 3 1 _ _), (10, .val (.bool _)), (11, .own 91 3 1 _ _), (12, .val (.bool _))]) ?_ (imp_covers ⟨rfl, rfl, rfl, rfl, rfl, rfl, rfl, rfl, rfl, rfl, rfl, rfl, trivial⟩)
    refine code_seq (fun K14 hK14 => ?_)
    refine code_region ?_
    refine list_cons rfl (op_q (q_move rfl (by decide)) ?_)
    refine list_cons rfl (op_q (q_move rfl (by decide)) ?_)
    refine list_cons rfl (op_q (q_bne Tryz.underlying4 rfl rfl (by decide)) ?_)
    refine list_cons rfl (op_q (q_move rfl (by decide)) ?_)
    refine list_guard_d rfl rfl rfl rfl (by decide) rfl (by decide) (fun h4 => ?_) (fun h4 => ?_)
    · simp only [Bool.false_eq_true, if_true, if_false, Decidable.not_not] at h4
      refine id (op_q (q_move rfl (by decide)) ?_)
      refine list_guard_y rfl rfl rfl rfl (by decide) rfl ?_
      refine id (op_q (q_move rfl (by decide)) ?_)
      refine list_guard_y rfl rfl rfl rfl (by decide) rfl ?_
      refine id (op_call _ (impl_IsRow _ (by first | omega | (simp; omega))) rfl rfl (by decide) (by decide) (by decide) rfl ?_)
      rintro _ rfl
      refine list_guard_y rfl rfl rfl rfl (by decide) rfl ?_
      refine id (op_q (q_bne Tryz.underlying4 rfl rfl (by decide)) ?_)
      refine list_cons rfl (op_q (q_pick rfl rfl (by decide)) ?_)
      refine list_cons rfl (op_q (q_move rfl (by decide)) ?_)
      refine list_guard_d rfl rfl rfl rfl (by decide) rfl (by decide) (fun h5 => ?_) (fun h5 => ?_)
      · simp only [Bool.false_eq_true, if_true, if_false, Decidable.not_not] at h5
        refine id (op_q (q_move rfl (by decide)) ?_)
        refine list_guard_y rfl rfl rfl rfl (by decide) rfl ?_
        refine id (op_q (q_move rfl (by decide)) ?_)
        refine list_guard_y rfl rfl rfl rfl (by decide) rfl ?_
        refine id (op_call _ (rInts_c _ _ (by first | omega | (simp; omega))) rfl rfl (by decide) (by decide) (by decide) rfl ?_)
        rintro _ rfl
        refine list_guard_y rfl rfl rfl rfl (by decide) rfl ?_
        refine id (op_q (by first | exact q_notd rfl (by decide) | exact q_not rfl (by decide)) ?_)
        refine list_cons rfl (op_q (q_pick rfl rfl (by decide)) ?_)
        refine list_nil ?_
        refine hK14 _ ?_; clear hK14 K14
        refine codeT.imp (σ' := [(0, .ext _), (2, .val (.bool _)), (3, .val (.int .i64 _)), (4, .own 65 3 1 _ _), (5, .val (.bool _)), (6, .own 70 3 1 _ _), (7, .val (.bool _)), (8, .own 83 3 1 _ _), (9, .own 86 3 1 _ _), (10, .val (.bool _)), (11, .own 91 3 1 _ _), (12, .val (.bool _)), (108, .val (.bool _))]) ?_ (imp_covers ⟨rfl, rfl, rfl, rfl, rfl, rfl, rfl, rfl, rfl, rfl, rfl, rfl, rfl, trivial⟩)
        refine code_cond_d rfl (fun h6 => ?_) (fun h6 => ?_)
        · skip
          (try simp only [Decidable.not_not] at h6)
          exfalso
          first | exact absurd rfl h6 | exact h6 trivial | (simp at h6; done)
        (try simp only [Decidable.not_not] at h6)
        refine code_skip ?_
        refine hK12 _ ?_; clear hK12 K12
        refine code_seq (fun K15 hK15 => ?_)
        refine code_region ?_
        refine list_cons rfl (op_q (q_move rfl (by decide)) ?_)
        refine list_cons rfl (op_call _ (impl_MirrorRow _ (by first | omega | (simp; omega))) rfl rfl (by decide) (by decide) (by decide) rfl ?_)
        rintro _ rfl; have hl3 := mirI6 r
        refine list_cons rfl (op_q (q_move rfl (by decide)) ?_)
        refine list_cons rfl (op_q (q_extract rfl rfl (by decide)) ?_)
        refine list_cons rfl (op_q (q_extract rfl rfl (by decide)) ?_)
        refine list_cons rfl (op_q (q_assign rfl (by decide)) ?_)
        refine list_cons rfl (op_q (q_assign rfl (by decide)) ?_)
        refine list_nil ?_
        refine hK15 _ ?_; clear hK15 K15
        refine codeT.imp (σ' := [(0, .ext _), (2, .val (.bool _)), (3, .val (.int .i64 _)), (4, .own 65 3 1 _ _), (5, .val (.bool _)), (6, .own 70 3 1 _ _), (7, .val (.bool _)), (8, .own 83 3 1 _ _), (9, .own 86 3 1 _ _), (10, .val (.bool _)), (11, .own 91 3 1 _ _), (12, .val (.bool _)), (13, .own 111 3 1 _ _), (14, .val (.bool _))]) ?_ (imp_covers ⟨rfl, rfl, rfl, rfl, rfl, rfl, rfl, rfl, rfl, rfl, rfl, rfl, rfl, rfl, trivial⟩)
        refine code_seq (fun K16 hK16 => ?_)
        refine code_seq (fun K17 hK17 => ?_)
        refine code_region ?_
        refine list_cons rfl (op_q (q_move rfl (by decide)) ?_)
        refine list_cons rfl (op_call _ (spec_MirrorRow _ (by first | omega | (simp; omega))) rfl rfl (by decide) (by decide) (by decide) rfl ?_)
        rintro _ rfl
        refine list_cons rfl (op_q (q_move rfl (by decide)) ?_)
        refine list_cons rfl (op_q (q_extract rfl rfl (by decide)) ?_)
        refine list_cons rfl (op_q (q_extract rfl rfl (by decide)) ?_)
        refine list_cons rfl (op_q (q_assign rfl (by decide)) ?_)
        refine list_cons rfl (op_q (q_assign rfl (by decide)) ?_)
        refine list_nil ?_
        refine hK17 _ ?_; clear hK17 K17
        refine codeT.imp (σ' := [(0, .ext _), (2, .val (.bool _)), (3, .val (.int .i64 _)), (4, .own 65 3 1 _ _), (5, .val (.bool _)), (6, .own 70 3 1 _ _), (7, .val (.bool _)), (8, .own 83 3 1 _ _), (9, .own 86 3 1 _ _), (10, .val (.bool _)), (11, .own 91 3 1 _ _), (12, .val (.bool _)), (13, .own 111 3 1 _ _), (14, .val (.bool _)), (15, .own 116 3 1 _ _), (16, .val (.bool _))]) ?_ (imp_covers ⟨rfl, rfl, rfl, rfl, rfl, rfl, rfl, rfl, rfl, rfl, rfl, rfl, rfl, rfl, rfl, rfl, trivial⟩)
        refine code_seq (fun K18 hK18 => ?_)
        refine code_region ?_
        refine list_cons rfl (op_q (q_move rfl (by decide)) ?_)
        refine list_cons rfl (op_q (q_move rfl (by decide)) ?_)
        refine list_cons rfl (op_q (q_bne Tryz.underlying4 rfl rfl (by decide)) ?_)
        refine list_cons rfl (op_q (q_move rfl (by decide)) ?_)
        refine list_guard_d rfl rfl rfl rfl (by decide) rfl (by decide) (fun h7 => ?_) (fun h7 => ?_)
        · simp only [Bool.false_eq_true, if_true, if_false, Decidable.not_not] at h7
          refine id (op_q (q_move rfl (by decide)) ?_)
          refine list_guard_y rfl rfl rfl rfl (by decide) rfl ?_
          refine id (op_q (q_move rfl (by decide)) ?_)
          refine list_guard_y rfl rfl rfl rfl (by decide) rfl ?_
          refine id (op_q (q_bne Tryz.underlying4 rfl rfl (by decide)) ?_)
          refine list_cons rfl (op_q (q_pick rfl rfl (by decide)) ?_)
          refine list_cons rfl (op_q (q_move rfl (by decide)) ?_)
          refine list_guard_d rfl rfl rfl rfl (by decide) rfl (by decide) (fun h8 => ?_) (fun h8 => ?_)
          · simp only [Bool.false_eq_true, if_true, if_false, Decidable.not_not] at h8
            refine id (op_q (q_move rfl (by decide)) ?_)
            refine list_guard_y rfl rfl rfl rfl (by decide) rfl ?_
            refine id (op_q (q_move rfl (by decide)) ?_)
            refine list_guard_y rfl rfl rfl rfl (by decide) rfl ?_
            refine id (op_call _ (rInts_c _ _ (by first | omega | (simp; omega))) rfl rfl (by decide) (by decide) (by decide) rfl ?_)
            rintro _ rfl
            refine list_guard_y rfl rfl rfl rfl (by decide) rfl ?_
            refine id (op_q (by first | exact q_notd rfl (by decide) | exact q_not rfl (by decide)) ?_)
            refine list_cons rfl (op_q (q_pick rfl rfl (by decide)) ?_)
            refine list_nil ?_
            refine hK18 _ ?_; clear hK18 K18
            refine codeT.imp (σ' := [(0, .ext _), (2, .val (.bool _)), (3, .val (.int .i64 _)), (4, .own 65 3 1 _ _), (5, .val (.bool _)), (6, .own 70 3 1 _ _), (7, .val (.bool _)), (8, .own 83 3 1 _ _), (9, .own 86 3 1 _ _), (10, .val (.bool _)), (11, .own 91 3 1 _ _), (12, .val (.bool _)), (13, .own 111 3 1 _ _), (14, .val (.bool _)), (15, .own 116 3 1 _ _), (16, .val (.bool _)), (132, .val (.bool _))]) ?_ (imp_covers ⟨rfl, rfl, rfl, rfl, rfl, rfl, rfl, rfl, rfl, rfl, rfl, rfl, rfl, rfl, rfl, rfl, rfl, trivial⟩)
            refine code_cond_d rfl (fun h9 => ?_) (fun h9 => ?_)
            · skip
              (try simp only [Decidable.not_not] at h9)
              exfalso
              first | exact absurd rfl h9 | exact h9 trivial | (simp at h9; done)
            (try simp only [Decidable.not_not] at h9)
            refine code_skip ?_
            refine hK16 _ ?_; clear hK16 K16
            refine code_seq (fun K19 hK19 => ?_)
            refine code_region ?_
            refine list_cons rfl (op_q (q_move rfl (by decide)) ?_)
            refine list_cons rfl (op_call _ (impl_NumberOf _ (by first | omega | (simp; omega))) rfl rfl (by decide) (by decide) (by decide) rfl ?_)
            rintro _ rfl
            refine list_cons rfl (op_q (q_move rfl (by decide)) ?_)
            refine list_cons rfl (op_q (q_extract rfl rfl (by decide)) ?_)
            refine list_cons rfl (op_q (q_extract rfl rfl (by decide)) ?_)
            refine list_cons rfl (op_q (q_assign rfl (by decide)) ?_)
            refine list_cons rfl (op_q (q_assign rfl (by decide)) ?_)
            refine list_nil ?_
            refine hK19 _ ?_; clear hK19 K19
            refine codeT.imp (σ' := [(0, .ext _), (2, .val (.bool _)), (3, .val (.int .i64 _)), (4, .own 65 3 1 _ _), (5, .val (.bool _)), (6, .own 70 3 1 _ _), (7, .val (.bool _)), (8, .own 83 3 1 _ _), (9, .own 86 3 1 _ _), (10, .val (.bool _)), (11, .own 91 3 1 _ _), (12, .val (.bool _)), (13, .own 111 3 1 _ _), (14, .val (.bool _)), (15, .own 116 3 1 _ _), (16, .val (.bool _)), (17, .val (.int .i64 _)), (18, .val (.bool _))]) ?_ (imp_covers ⟨rfl, rfl, rfl, rfl, rfl, rfl, rfl, rfl, rfl, rfl, rfl, rfl, rfl, rfl, rfl, rfl, rfl, rfl, trivial⟩)
            refine code_seq (fun K20 hK20 => ?_)
            refine code_seq (fun K21 hK21 => ?_)
            refine code_region ?_
            refine list_cons rfl (op_q (q_move rfl (by decide)) ?_)
            refine list_cons rfl (op_call _ (spec_NumberOf _ (by first | omega | (simp; omega))) rfl rfl (by decide) (by decide) (by decide) rfl ?_)
            rintro _ rfl
            refine list_cons rfl (op_q (q_move rfl (by decide)) ?_)
            refine list_cons rfl (op_q (q_extract rfl rfl (by decide)) ?_)
            refine list_cons rfl (op_q (q_extract rfl rfl (by decide)) ?_)
            refine list_cons rfl (op_q (q_assign rfl (by decide)) ?_)
            refine list_cons rfl (op_q (q_assign rfl (by decide)) ?_)
            refine list_nil ?_
            refine hK21 _ ?_; clear hK21 K21
            refine codeT.imp (σ' := [(0, .ext _), (2, .val (.bool _)), (3, .val (.int .i64 _)), (4, .own 65 3 1 _ _), (5, .val (.bool _)), (6, .own 70 3 1 _ _), (7, .val (.bool _)), (8, .own 83 3 1 _ _), (9, .own 86 3 1 _ _), (10, .val (.bool _)), (11, .own 91 3 1 _ _), (12, .val (.bool _)), (13, .own 111 3 1 _ _), (14, .val (.bool _)), (15, .own 116 3 1 _ _), (16, .val (.bool _)), (17, .val (.int .i64 _)), (18, .val (.bool _)), (19, .val (.int .i64 _)), (20, .val (.bool _))]) ?_ (imp_covers ⟨rfl, rfl, rfl, rfl, rfl, rfl, rfl, rfl, rfl, rfl, rfl, rfl, rfl, rfl, rfl, rfl, rfl, rfl, rfl, rfl, trivial⟩)
            refine code_seq (fun K22 hK22 => ?_)
            refine code_region ?_
            refine list_cons rfl (op_q (q_move rfl (by decide)) ?_)
            refine list_cons rfl (op_q (q_move rfl (by decide)) ?_)
            refine list_cons rfl (op_q (q_ne rfl rfl (by decide)) ?_)
            refine list_cons rfl (op_q (q_move rfl (by decide)) ?_)
            refine list_guard_d rfl rfl rfl rfl (by decide) rfl (by decide) (fun h10 => ?_) (fun h10 => ?_)
            · simp only [Bool.false_eq_true, if_true, if_false, Decidable.not_not] at h10
              refine id (op_q (q_move rfl (by decide)) ?_)
              refine list_guard_y rfl rfl rfl rfl (by decide) rfl ?_
              refine id (op_q (q_move rfl (by decide)) ?_)
              refine list_guard_y rfl rfl rfl rfl (by decide) rfl ?_
              refine id (op_q (q_bne Tryz.underlying4 rfl rfl (by decide)) ?_)
              refine list_cons rfl (op_q (q_pick rfl rfl (by decide)) ?_)
              refine list_nil ?_
              refine hK22 _ ?_; clear hK22 K22
              refine codeT.imp (σ' := [(0, .ext _), (2, .val (.bool _)), (3, .val (.int .i64 _)), (4, .own 65 3 1 _ _), (5, .val (.bool _)), (6, .own 70 3 1 _ _), (7, .val (.bool _)), (8, .own 83 3 1 _ _), (9, .own 86 3 1 _ _), (10, .val (.bool _)), (11, .own 91 3 1 _ _), (12, .val (.bool _)), (13, .own 111 3 1 _ _), (14, .val (.bool _)), (15, .own 116 3 1 _ _), (16, .val (.bool _)), (17, .val (.int .i64 _)), (18, .val (.bool _)), (19, .val (.int .i64 _)), (20, .val (.bool _)), (150, .val (.bool _))]) ?_ (imp_covers ⟨rfl, rfl, rfl, rfl, rfl, rfl, rfl, rfl, rfl, rfl, rfl, rfl, rfl, rfl, rfl, rfl, rfl, rfl, rfl, rfl, rfl, trivial⟩)
              refine code_cond_d rfl (fun h11 => ?_) (fun h11 => ?_)
              · skip
                (try simp only [Decidable.not_not] at h11)
                exfalso
                first | exact absurd rfl h11 | exact h11 trivial | (simp at h11; done)
              (try simp only [Decidable.not_not] at h11)
              refine code_skip ?_
              refine hK20 _ ?_; clear hK20 K20
              refine code_seq (fun K23 hK23 => ?_)
              refine code_region ?_
              refine list_cons rfl (op_q (q_move rfl (by decide)) ?_)
              refine list_cons rfl (op_callM (DrawTurnedNumber_c _ ?_) (.tmp 0) 0 [] [.tmp 151] _ rfl rfl (by intro y hy; cases hy) (by decide) (by decide) (by decide) rfl (by intro h; cases h) ?_)
              · first | assumption | omega | (simp; omega)
              rintro _ _ ⟨m, rfl⟩
              refine list_cons rfl (op_q (q_assign rfl (by decide)) ?_)
              refine list_nil ?_
              refine hK23 _ ?_; clear hK23 K23
              refine codeT.imp (σ' := [(0, .ext _), (2, .val (.bool _)), (3, .val (.int .i64 _)), (4, .own 65 3 1 _ _), (5, .val (.bool _)), (6, .own 70 3 1 _ _), (7, .val (.bool _)), (8, .own 83 3 1 _ _), (9, .own 86 3 1 _ _), (10, .val (.bool _)), (11, .own 91 3 1 _ _), (12, .val (.bool _)), (13, .own 111 3 1 _ _), (14, .val (.bool _)), (15, .own 116 3 1 _ _), (16, .val (.bool _)), (17, .val (.int .i64 _)), (18, .val (.bool _)), (19, .val (.int .i64 _)), (20, .val (.bool _)), (21, .val (.int .i64 _))]) ?_ (imp_covers ⟨rfl, rfl, rfl, rfl, rfl, rfl, rfl, rfl, rfl, rfl, rfl, rfl, rfl, rfl, rfl, rfl, rfl, rfl, rfl, rfl, rfl, trivial⟩)
              refine code_seq (fun K24 hK24 => ?_)
              refine code_region ?_
              refine list_cons rfl (op_q (q_move rfl (by decide)) ?_)
              refine list_cons rfl (op_call _ (impl_TurnedNumber _) rfl rfl (by decide) (by decide) (by decide) rfl ?_)
              rintro _ rfl
              refine list_cons rfl (op_q (q_move rfl (by decide)) ?_)
              refine list_cons rfl (op_q (q_extract rfl rfl (by decide)) ?_)
              refine list_cons rfl (op_q (q_extract rfl rfl (by decide)) ?_)
              refine list_cons rfl (op_q (q_assign rfl (by decide)) ?_)
              refine list_cons rfl (op_q (q_assign rfl (by decide)) ?_)
              refine list_nil ?_
              refine hK24 _ ?_; clear hK24 K24
              refine codeT.imp (σ' := [(0, .ext _), (2, .val (.bool _)), (3, .val (.int .i64 _)), (4, .own 65 3 1 _ _), (5, .val (.bool _)), (6, .own 70 3 1 _ _), (7, .val (.bool _)), (8, .own 83 3 1 _ _), (9, .own 86 3 1 _ _), (10, .val (.bool _)), (11, .own 91 3 1 _ _), (12, .val (.bool _)), (13, .own 111 3 1 _ _), (14, .val (.bool _)), (15, .own 116 3 1 _ _), (16, .val (.bool _)), (17, .val (.int .i64 _)), (18, .val (.bool _)), (19, .val (.int .i64 _)), (20, .val (.bool _)), (21, .val (.int .i64 _)), (22, .val (.int .i64 _)), (23, .val (.bool _))]) ?_ (imp_covers ⟨rfl, rfl, rfl, rfl, rfl, rfl, rfl, rfl, rfl, rfl, rfl, rfl, rfl, rfl, rfl, rfl, rfl, rfl, rfl, rfl, rfl, rfl, rfl, trivial⟩)
              refine code_seq (fun K25 hK25 => ?_)
              refine code_seq (fun K26 hK26 => ?_)
              refine code_region ?_
              refine list_cons rfl (op_q (q_move rfl (by decide)) ?_)
              refine list_cons rfl (op_call _ (spec_TurnedNumber _) rfl rfl (by decide) (by decide) (by decide) rfl ?_)
              rintro _ rfl
              refine list_cons rfl (op_q (q_move rfl (by decide)) ?_)
              refine list_cons rfl (op_q (q_extract rfl rfl (by decide)) ?_)
              refine list_cons rfl (op_q (q_extract rfl rfl (by decide)) ?_)
              refine list_cons rfl (op_q (q_assign rfl (by decide)) ?_)
              refine list_cons rfl (op_q (q_assign rfl (by decide)) ?_)
              refine list_nil ?_
              refine hK26 _ ?_; clear hK26 K26
              refine codeT.imp (σ' := [(0, .ext _), (2, .val (.bool _)), (3, .val (.int .i64 _)), (4, .own 65 3 1 _ _), (5, .val (.bool _)), (6, .own 70 3 1 _ _), (7, .val (.bool _)), (8, .own 83 3 1 _ _), (9, .own 86 3 1 _ _), (10, .val (.bool _)), (11, .own 91 3 1 _ _), (12, .val (.bool _)), (13, .own 111 3 1 _ _), (14, .val (.bool _)), (15, .own 116 3 1 _ _), (16, .val (.bool _)), (17, .val (.int .i64 _)), (18, .val (.bool _)), (19, .val (.int .i64 _)), (20, .val (.bool _)), (21, .val (.int .i64 _)), (22, .val (.int .i64 _)), (23, .val (.bool _)), (24, .val (.int .i64 _)), (25, .val (.bool _))]) ?_ (imp_covers ⟨rfl, rfl, rfl, rfl, rfl, rfl, rfl, rfl, rfl, rfl, rfl, rfl, rfl, rfl, rfl, rfl, rfl, rfl, rfl, rfl, rfl, rfl, rfl, rfl, rfl, trivial⟩)
              refine code_seq (fun K27 hK27 => ?_)
              refine code_region ?_
              refine list_cons rfl (op_q (q_move rfl (by decide)) ?_)
              refine list_cons rfl (op_q (q_move rfl (by decide)) ?_)
              refine list_cons rfl (op_q (q_ne rfl rfl (by decide)) ?_)
              refine list_cons rfl (op_q (q_move rfl (by decide)) ?_)
              refine list_guard_d rfl rfl rfl rfl (by decide) rfl (by decide) (fun h12 => ?_) (fun h12 => ?_)
              · simp only [Bool.false_eq_true, if_true, if_false, Decidable.not_not] at h12
                refine id (op_q (q_move rfl (by decide)) ?_)
                refine list_guard_y rfl rfl rfl rfl (by decide) rfl ?_
                refine id (op_q (q_move rfl (by decide)) ?_)
                refine list_guard_y rfl rfl rfl rfl (by decide) rfl ?_
                refine id (op_q (q_bne Tryz.underlying4 rfl rfl (by decide)) ?_)
                refine list_cons rfl (op_q (q_pick rfl rfl (by decide)) ?_)
                refine list_nil ?_
                refine hK27 _ ?_; clear hK27 K27
                refine codeT.imp (σ' := [(0, .ext _), (2, .val (.bool _)), (3, .val (.int .i64 _)), (4, .own 65 3 1 _ _), (5, .val (.bool _)), (6, .own 70 3 1 _ _), (7, .val (.bool _)), (8, .own 83 3 1 _ _), (9, .own 86 3 1 _ _), (10, .val (.bool _)), (11, .own 91 3 1 _ _), (12, .val (.bool _)), (13, .own 111 3 1 _ _), (14, .val (.bool _)), (15, .own 116 3 1 _ _), (16, .val (.bool _)), (17, .val (.int .i64 _)), (18, .val (.bool _)), (19, .val (.int .i64 _)), (20, .val (.bool _)), (21, .val (.int .i64 _)), (22, .val (.int .i64 _)), (23, .val (.bool _)), (24, .val (.int .i64 _)), (25, .val (.bool _)), (170, .val (.bool _))]) ?_ (imp_covers ⟨rfl, rfl, rfl, rfl, rfl, rfl, rfl, rfl, rfl, rfl, rfl, rfl, rfl, rfl, rfl, rfl, rfl, rfl, rfl, rfl, rfl, rfl, rfl, rfl, rfl, rfl, trivial⟩)
                refine code_cond_d rfl (fun h13 => ?_) (fun h13 => ?_)
                · skip
                  (try simp only [Decidable.not_not] at h13)
                  exfalso
                  first | exact absurd rfl h13 | exact h13 trivial | (simp at h13; done)
                (try simp only [Decidable.not_not] at h13)
                refine code_skip ?_
                refine hK25 _ ?_; clear hK25 K25
                refine code_seq (fun K28 hK28 => ?_)
                refine code_region ?_
                refine list_cons rfl (op_q (q_move rfl (by decide)) ?_)
                refine list_cons rfl (op_callM (DrawCountAlike_c _ ?_) (.tmp 0) 0 [] [.tmp 171] _ rfl rfl (by intro y hy; cases hy) (by decide) (by decide) (by decide) rfl (by intro h; cases h) ?_)
                · first | assumption | omega | (simp; omega)
                rintro _ _ ⟨top, rfl⟩
                refine list_cons rfl (op_q (q_assign rfl (by decide)) ?_)
                refine list_nil ?_
                refine hK28 _ ?_; clear hK28 K28
                refine codeT.imp (σ' := [(0, .ext _), (2, .val (.bool _)), (3, .val (.int .i64 _)), (4, .own 65 3 1 _ _), (5, .val (.bool _)), (6, .own 70 3 1 _ _), (7, .val (.bool _)), (8, .own 83 3 1 _ _), (9, .own 86 3 1 _ _), (10, .val (.bool _)), (11, .own 91 3 1 _ _), (12, .val (.bool _)), (13, .own 111 3 1 _ _), (14, .val (.bool _)), (15, .own 116 3 1 _ _), (16, .val (.bool _)), (17, .val (.int .i64 _)), (18, .val (.bool _)), (19, .val (.int .i64 _)), (20, .val (.bool _)), (21, .val (.int .i64 _)), (22, .val (.int .i64 _)), (23, .val (.bool _)), (24, .val (.int .i64 _)), (25, .val (.bool _)), (26, .val (.int .i64 _))]) ?_ (imp_covers ⟨rfl, rfl, rfl, rfl, rfl, rfl, rfl, rfl, rfl, rfl, rfl, rfl, rfl, rfl, rfl, rfl, rfl, rfl, rfl, rfl, rfl, rfl, rfl, rfl, rfl, rfl, trivial⟩)
                refine code_seq (fun K29 hK29 => ?_)
                refine code_region ?_
                refine list_cons rfl (op_q (q_move rfl (by decide)) ?_)
                refine list_cons rfl (op_call _ (impl_CountAlike _) rfl rfl (by decide) (by decide) (by decide) rfl ?_)
                rintro _ rfl
                refine list_cons rfl (op_q (q_move rfl (by decide)) ?_)
                refine list_cons rfl (op_q (q_extract rfl rfl (by decide)) ?_)
                refine list_cons rfl (op_q (q_extract rfl rfl (by decide)) ?_)
                refine list_cons rfl (op_q (q_assign rfl (by decide)) ?_)
                refine list_cons rfl (op_q (q_assign rfl (by decide)) ?_)
                refine list_nil ?_
                refine hK29 _ ?_; clear hK29 K29
                refine codeT.imp (σ' := [(0, .ext _), (2, .val (.bool _)), (3, .val (.int .i64 _)), (4, .own 65 3 1 _ _), (5, .val (.bool _)), (6, .own 70 3 1 _ _), (7, .val (.bool _)), (8, .own 83 3 1 _ _), (9, .own 86 3 1 _ _), (10, .val (.bool _)), (11, .own 91 3 1 _ _), (12, .val (.bool _)), (13, .own 111 3 1 _ _), (14, .val (.bool _)), (15, .own 116 3 1 _ _), (16, .val (.bool _)), (17, .val (.int .i64 _)), (18, .val (.bool _)), (19, .val (.int .i64 _)), (20, .val (.bool _)), (21, .val (.int .i64 _)), (22, .val (.int .i64 _)), (23, .val (.bool _)), (24, .val (.int .i64 _)), (25, .val (.bool _)), (26, .val (.int .i64 _)), (27, .val (.int .i64 _)), (28, .val (.bool _))]) ?_ (imp_covers ⟨rfl, rfl, rfl, rfl, rfl, rfl, rfl, rfl, rfl, rfl, rfl, rfl, rfl, rfl, rfl, rfl, rfl, rfl, rfl, rfl, rfl, rfl, rfl, rfl, rfl, rfl, rfl, rfl, trivial⟩)
                refine code_seq (fun K30 hK30 => ?_)
                refine code_seq (fun K31 hK31 => ?_)
                refine code_region ?_
                refine list_cons rfl (op_q (q_move rfl (by decide)) ?_)
                refine list_cons rfl (op_call _ (spec_CountAlike _) rfl rfl (by decide) (by decide) (by decide) rfl ?_)
                rintro _ rfl
                refine list_cons rfl (op_q (q_move rfl (by decide)) ?_)
                refine list_cons rfl (op_q (q_extract rfl rfl (by decide)) ?_)
                refine list_cons rfl (op_q (q_extract rfl rfl (by decide)) ?_)
                refine list_cons rfl (op_q (q_assign rfl (by decide)) ?_)
                refine list_cons rfl (op_q (q_assign rfl (by decide)) ?_)
                refine list_nil ?_
                refine hK31 _ ?_; clear hK31 K31
                refine codeT.imp (σ' := ((0, .ext _) :: (2, .val (.bool _)) :: (3, .val (.int .i64 _)) :: (4, .own 65 3 1 _ _) :: (5, .val (.bool _)) :: (6, .own 70 3 1 _ _) :: (7, .val (.bool _)) :: (8, .own 83 3 1 _ _) :: (9, .own 86 3 1 _ _) :: (10, .val (.bool _)) :: (11, .own 91 3 1 _ _) :: (12, .val (.bool _)) :: (13, .own 111 3 1 _ _) :: (14, .val (.bool _)) :: (15, .own 116 3 1 _ _) :: (16, .val (.bool _)) :: (17, .val (.int .i64 _)) :: (18, .val (.bool _)) :: (19, .val (.int .i64 _)) :: (20, .val (.bool _)) :: (21, .val (.int .i64 _)) :: (22, .val (.int .i64 _)) :: (23, .val (.bool _)) :: (24, .val (.int .i64 _)) :: (25, .val (.bool _)) :: (26, .val (.int .i64 _)) :: (27, .val (.int .i64 _)) :: (28, .val (.bool _)) :: (29, .val (.int .i64 _)) :: (30, .val (.bool _)) :: [])) ?_ (imp_covers ⟨rfl, rfl, rfl, rfl, rfl, rfl, rfl, rfl, rfl, rfl, rfl, rfl, rfl, rfl, rfl, rfl, rfl, rfl, rfl, rfl, rfl, rfl, rfl, rfl, rfl, rfl, rfl, rfl, rfl, rfl, trivial⟩)
                refine code_seq (fun K32 hK32 => ?_)
                refine code_region ?_
                refine list_cons rfl (op_q (q_move rfl (by decide)) ?_)
                refine list_cons rfl (op_q (q_move rfl (by decide)) ?_)
                refine list_cons rfl (op_q (q_ne rfl rfl (by decide)) ?_)
                refine list_cons rfl (op_q (q_move rfl (by decide)) ?_)
                refine list_guard_d rfl rfl rfl rfl (by decide) rfl (by decide) (fun h14 => ?_) (fun h14 => ?_)
                · simp only [Bool.false_eq_true, if_true, if_false, Decidable.not_not] at h14
                  refine id (op_q (q_move rfl (by decide)) ?_)
                  refine list_guard_y rfl rfl rfl rfl (by decide) rfl ?_
                  refine id (op_q (q_move rfl (by decide)) ?_)
                  refine list_guard_y rfl rfl rfl rfl (by decide) rfl ?_
                  refine id (op_q (q_bne Tryz.underlying4 rfl rfl (by decide)) ?_)
                  refine list_cons rfl (op_q (q_pick rfl rfl (by decide)) ?_)
                  refine list_nil ?_
                  refine hK32 _ ?_; clear hK32 K32
                  refine codeT.imp (σ' := ((0, .ext _) :: (2, .val (.bool _)) :: (3, .val (.int .i64 _)) :: (4, .own 65 3 1 _ _) :: (5, .val (.bool _)) :: (6, .own 70 3 1 _ _) :: (7, .val (.bool _)) :: (8, .own 83 3 1 _ _) :: (9, .own 86 3 1 _ _) :: (10, .val (.bool _)) :: (11, .own 91 3 1 _ _) :: (12, .val (.bool _)) :: (13, .own 111 3 1 _ _) :: (14, .val (.bool _)) :: (15, .own 116 3 1 _ _) :: (16, .val (.bool _)) :: (17, .val (.int .i64 _)) :: (18, .val (.bool _)) :: (19, .val (.int .i64 _)) :: (20, .val (.bool _)) :: (21, .val (.int .i64 _)) :: (22, .val (.int .i64 _)) :: (23, .val (.bool _)) :: (24, .val (.int .i64 _)) :: (25, .val (.bool _)) :: (26, .val (.int .i64 _)) :: (27, .val (.int .i64 _)) :: (28, .val (.bool _)) :: (29, .val (.int .i64 _)) :: (30, .val (.bool _)) :: (190, .val (.bool _)) :: [])) ?_ (imp_covers ⟨rfl, rfl, rfl, rfl, rfl, rfl, rfl, rfl, rfl, rfl, rfl, rfl, rfl, rfl, rfl, rfl, rfl, rfl, rfl, rfl, rfl, rfl, rfl, rfl, rfl, rfl, rfl, rfl, rfl, rfl, rfl, trivial⟩)
                  refine code_cond_d rfl (fun h15 => ?_) (fun h15 => ?_)
                  · skip
                    (try simp only [Decidable.not_not] at h15)
                    exfalso
                    first | exact absurd rfl h15 | exact h15 trivial | (simp at h15; done)
                  (try simp only [Decidable.not_not] at h15)
                  refine code_skip ?_
                  refine hK30 _ ?_; clear hK30 K30
                  refine code_seq (fun K33 hK33 => ?_)
                  refine code_region ?_
                  refine list_cons rfl (op_q (q_move rfl (by decide)) ?_)
                  refine list_cons rfl (op_callM (DrawLitOf_c _ ?_) (.tmp 0) 0 [] [.tmp 191] _ rfl rfl (by intro y hy; cases hy) (by decide) (by decide) (by decide) rfl (by intro h; cases h) ?_)
                  · first | assumption | omega | (simp; omega)
                  rintro _ _ ⟨x0, hx1, rfl⟩
                  refine list_cons rfl (op_q (q_assign rfl (by decide)) ?_)
                  refine list_nil ?_
                  refine hK33 _ ?_; clear hK33 K33
                  refine codeT.imp (σ' := ((0, .ext _) :: (2, .val (.bool _)) :: (3, .val (.int .i64 _)) :: (4, .own 65 3 1 _ _) :: (5, .val (.bool _)) :: (6, .own 70 3 1 _ _) :: (7, .val (.bool _)) :: (8, .own 83 3 1 _ _) :: (9, .own 86 3 1 _ _) :: (10, .val (.bool _)) :: (11, .own 91 3 1 _ _) :: (12, .val (.bool _)) :: (13, .own 111 3 1 _ _) :: (14, .val (.bool _)) :: (15, .own 116 3 1 _ _) :: (16, .val (.bool _)) :: (17, .val (.int .i64 _)) :: (18, .val (.bool _)) :: (19, .val (.int .i64 _)) :: (20, .val (.bool _)) :: (21, .val (.int .i64 _)) :: (22, .val (.int .i64 _)) :: (23, .val (.bool _)) :: (24, .val (.int .i64 _)) :: (25, .val (.bool _)) :: (26, .val (.int .i64 _)) :: (27, .val (.int .i64 _)) :: (28, .val (.bool _)) :: (29, .val (.int .i64 _)) :: (30, .val (.bool _)) :: (31, .own 192 3 1 _ _) :: [])) ?_ (imp_covers ⟨rfl, rfl, rfl, rfl, rfl, rfl, rfl, rfl, rfl, rfl, rfl, rfl, rfl, rfl, rfl, rfl, rfl, rfl, rfl, rfl, rfl, rfl, rfl, rfl, rfl, rfl, rfl, rfl, rfl, rfl, rfl, trivial⟩)
                  refine code_seq (fun K34 hK34 => ?_)
                  refine code_region ?_
                  refine list_cons rfl (op_q (q_move rfl (by decide)) ?_)
                  refine list_cons rfl (op_call _ (impl_LitOf _ (by first | omega | (simp; omega))) rfl rfl (by decide) (by decide) (by decide) rfl ?_)
                  rintro _ rfl
                  refine list_cons rfl (op_q (q_move rfl (by decide)) ?_)
                  refine list_cons rfl (op_q (q_extract rfl rfl (by decide)) ?_)
                  refine list_cons rfl (op_q (q_extract rfl rfl (by decide)) ?_)
                  refine list_cons rfl (op_q (q_assign rfl (by decide)) ?_)
                  refine list_cons rfl (op_q (q_assign rfl (by decide)) ?_)
                  refine list_nil ?_
                  refine hK34 _ ?_; clear hK34 K34
                  refine codeT.imp (σ' := ((0, .ext _) :: (2, .val (.bool _)) :: (3, .val (.int .i64 _)) :: (4, .own 65 3 1 _ _) :: (5, .val (.bool _)) :: (6, .own 70 3 1 _ _) :: (7, .val (.bool _)) :: (8, .own 83 3 1 _ _) :: (9, .own 86 3 1 _ _) :: (10, .val (.bool _)) :: (11, .own 91 3 1 _ _) :: (12, .val (.bool _)) :: (13, .own 111 3 1 _ _) :: (14, .val (.bool _)) :: (15, .own 116 3 1 _ _) :: (16, .val (.bool _)) :: (17, .val (.int .i64 _)) :: (18, .val (.bool _)) :: (19, .val (.int .i64 _)) :: (20, .val (.bool _)) :: (21, .val (.int .i64 _)) :: (22, .val (.int .i64 _)) :: (23, .val (.bool _)) :: (24, .val (.int .i64 _)) :: (25, .val (.bool _)) :: (26, .val (.int .i64 _)) :: (27, .val (.int .i64 _)) :: (28, .val (.bool _)) :: (29, .val (.int .i64 _)) :: (30, .val (.bool _)) :: (31, .own 192 3 1 _ _) :: (32, .val (.int .i64 _)) :: (33, .val (.bool _)) :: [])) ?_ (imp_covers ⟨rfl, rfl, rfl, rfl, rfl, rfl, rfl, rfl, rfl, rfl, rfl, rfl, rfl, rfl, rfl, rfl, rfl, rfl, rfl, rfl, rfl, rfl, rfl, rfl, rfl, rfl, rfl, rfl, rfl, rfl, rfl, rfl, rfl, trivial⟩)
                  refine code_seq (fun K35 hK35 => ?_)
                  refine code_seq (fun K36 hK36 => ?_)
                  refine code_region ?_
                  refine list_cons rfl (op_q (q_move rfl (by decide)) ?_)
                  refine list_cons rfl (op_call _ (spec_LitOf _ (by first | omega | (simp; omega))) rfl rfl (by decide) (by decide) (by decide) rfl ?_)
                  rintro _ rfl
                  refine list_cons rfl (op_q (q_move rfl (by decide)) ?_)
                  refine list_cons rfl (op_q (q_extract rfl rfl (by decide)) ?_)
                  refine list_cons rfl (op_q (q_extract rfl rfl (by decide)) ?_)
                  refine list_cons rfl (op_q (q_assign rfl (by decide)) ?_)
                  refine list_cons rfl (op_q (q_assign rfl (by decide)) ?_)
                  refine list_nil ?_
                  refine hK36 _ ?_; clear hK36 K36
                  refine codeT.imp (σ' := ((0, .ext _) :: (2, .val (.bool _)) :: (3, .val (.int .i64 _)) :: (4, .own 65 3 1 _ _) :: (5, .val (.bool _)) :: (6, .own 70 3 1 _ _) :: (7, .val (.bool _)) :: (8, .own 83 3 1 _ _) :: (9, .own 86 3 1 _ _) :: (10, .val (.bool _)) :: (11, .own 91 3 1 _ _) :: (12, .val (.bool _)) :: (13, .own 111 3 1 _ _) :: (14, .val (.bool _)) :: (15, .own 116 3 1 _ _) :: (16, .val (.bool _)) :: (17, .val (.int .i64 _)) :: (18, .val (.bool _)) :: (19, .val (.int .i64 _)) :: (20, .val (.bool _)) :: (21, .val (.int .i64 _)) :: (22, .val (.int .i64 _)) :: (23, .val (.bool _)) :: (24, .val (.int .i64 _)) :: (25, .val (.bool _)) :: (26, .val (.int .i64 _)) :: (27, .val (.int .i64 _)) :: (28, .val (.bool _)) :: (29, .val (.int .i64 _)) :: (30, .val (.bool _)) :: (31, .own 192 3 1 _ _) :: (32, .val (.int .i64 _)) :: (33, .val (.bool _)) :: (34, .val (.int .i64 _)) :: (35, .val (.bool _)) :: [])) ?_ (imp_covers ⟨rfl, rfl, rfl, rfl, rfl, rfl, rfl, rfl, rfl, rfl, rfl, rfl, rfl, rfl, rfl, rfl, rfl, rfl, rfl, rfl, rfl, rfl, rfl, rfl, rfl, rfl, rfl, rfl, rfl, rfl, rfl, rfl, rfl, rfl, rfl, trivial⟩)
                  refine code_seq (fun K37 hK37 => ?_)
                  refine code_region ?_
                  refine list_cons rfl (op_q (q_move rfl (by decide)) ?_)
                  refine list_cons rfl (op_q (q_move rfl (by decide)) ?_)
                  refine list_cons rfl (op_q (q_ne rfl rfl (by decide)) ?_)
                  refine list_cons rfl (op_q (q_move rfl (by decide)) ?_)
                  refine list_guard_d rfl rfl rfl rfl (by decide) rfl (by decide) (fun h16 => ?_) (fun h16 => ?_)
                  · simp only [Bool.false_eq_true, if_true, if_false, Decidable.not_not] at h16
                    refine id (op_q (q_move rfl (by decide)) ?_)
                    refine list_guard_y rfl rfl rfl rfl (by decide) rfl ?_
                    refine id (op_q (q_move rfl (by decide)) ?_)
                    refine list_guard_y rfl rfl rfl rfl (by decide) rfl ?_
                    refine id (op_q (q_bne Tryz.underlying4 rfl rfl (by decide)) ?_)
                    refine list_cons rfl (op_q (q_pick rfl rfl (by decide)) ?_)
                    refine list_cons rfl (op_q (q_move rfl (by decide)) ?_)
                    refine list_guard_d rfl rfl rfl rfl (by decide) rfl (by decide) (fun h17 => ?_) (fun h17 => ?_)
                    · simp only [Bool.false_eq_true, if_true, if_false, Decidable.not_not] at h17
                      refine id (op_q (q_move rfl (by decide)) ?_)
                      refine list_guard_y rfl rfl rfl rfl (by decide) rfl ?_
                      refine id (op_q (q_move rfl (by decide)) ?_)
                      refine list_guard_y rfl rfl rfl rfl (by decide) rfl ?_
                      refine id (op_call _ (impl_IsRow _ (by first | omega | (simp; omega))) rfl rfl (by decide) (by decide) (by decide) rfl ?_)
                      rintro _ rfl
                      refine list_guard_y rfl rfl rfl rfl (by decide) rfl ?_
                      refine id (op_q (q_bne Tryz.underlying4 rfl rfl (by decide)) ?_)
                      refine list_cons rfl (op_q (q_pick rfl rfl (by decide)) ?_)
                      refine list_nil ?_
                      refine hK37 _ ?_; clear hK37 K37
                      refine codeT.imp (σ' := ((0, .ext _) :: (2, .val (.bool _)) :: (3, .val (.int .i64 _)) :: (4, .own 65 3 1 _ _) :: (5, .val (.bool _)) :: (6, .own 70 3 1 _ _) :: (7, .val (.bool _)) :: (8, .own 83 3 1 _ _) :: (9, .own 86 3 1 _ _) :: (10, .val (.bool _)) :: (11, .own 91 3 1 _ _) :: (12, .val (.bool _)) :: (13, .own 111 3 1 _ _) :: (14, .val (.bool _)) :: (15, .own 116 3 1 _ _) :: (16, .val (.bool _)) :: (17, .val (.int .i64 _)) :: (18, .val (.bool _)) :: (19, .val (.int .i64 _)) :: (20, .val (.bool _)) :: (21, .val (.int .i64 _)) :: (22, .val (.int .i64 _)) :: (23, .val (.bool _)) :: (24, .val (.int .i64 _)) :: (25, .val (.bool _)) :: (26, .val (.int .i64 _)) :: (27, .val (.int .i64 _)) :: (28, .val (.bool _)) :: (29, .val (.int .i64 _)) :: (30, .val (.bool _)) :: (31, .own 192 3 1 _ _) :: (32, .val (.int .i64 _)) :: (33, .val (.bool _)) :: (34, .val (.int .i64 _)) :: (35, .val (.bool _)) :: (216, .val (.bool _)) :: [])) ?_ (imp_covers ⟨rfl, rfl, rfl, rfl, rfl, rfl, rfl, rfl, rfl, rfl, rfl, rfl, rfl, rfl, rfl, rfl, rfl, rfl, rfl, rfl, rfl, rfl, rfl, rfl, rfl, rfl, rfl, rfl, rfl, rfl, rfl, rfl, rfl, rfl, rfl, rfl, trivial⟩)
                      refine code_cond_d rfl (fun h18 => ?_) (fun h18 => ?_)
                      · skip
                        (try simp only [Decidable.not_not] at h18)
                        exfalso
                        first | exact absurd rfl h18 | exact h18 trivial | (simp at h18; done)
                      (try simp only [Decidable.not_not] at h18)
                      refine code_skip ?_
                      refine hK35 _ ?_; clear hK35 K35
                      refine code_seq (fun K38 hK38 => ?_)
                      refine code_region ?_
                      refine list_cons rfl (op_q (q_move rfl (by decide)) ?_)
                      refine list_cons rfl (op_call _ (impl_RowText _ (by first | omega | (simp; omega))) rfl rfl (by decide) (by decide) (by decide) rfl ?_)
                      rintro _ rfl; have hl5 := textI x0
                      refine list_cons rfl (op_q (q_move rfl (by decide)) ?_)
                      refine list_cons rfl (op_q (q_extract rfl rfl (by decide)) ?_)
                      refine list_cons rfl (op_q (q_extract rfl rfl (by decide)) ?_)
                      refine list_cons rfl (op_q (q_assign rfl (by decide)) ?_)
                      refine list_cons rfl (op_q (q_assign rfl (by decide)) ?_)
                      refine list_nil ?_
                      refine hK38 _ ?_; clear hK38 K38
                      refine codeT.imp (σ' := ((0, .ext _) :: (2, .val (.bool _)) :: (3, .val (.int .i64 _)) :: (4, .own 65 3 1 _ _) :: (5, .val (.bool _)) :: (6, .own 70 3 1 _ _) :: (7, .val (.bool _)) :: (8, .own 83 3 1 _ _) :: (9, .own 86 3 1 _ _) :: (10, .val (.bool _)) :: (11, .own 91 3 1 _ _) :: (12, .val (.bool _)) :: (13, .own 111 3 1 _ _) :: (14, .val (.bool _)) :: (15, .own 116 3 1 _ _) :: (16, .val (.bool _)) :: (17, .val (.int .i64 _)) :: (18, .val (.bool _)) :: (19, .val (.int .i64 _)) :: (20, .val (.bool _)) :: (21, .val (.int .i64 _)) :: (22, .val (.int .i64 _)) :: (23, .val (.bool _)) :: (24, .val (.int .i64 _)) :: (25, .val (.bool _)) :: (26, .val (.int .i64 _)) :: (27, .val (.int .i64 _)) :: (28, .val (.bool _)) :: (29, .val (.int .i64 _)) :: (30, .val (.bool _)) :: (31, .own 192 3 1 _ _) :: (32, .val (.int .i64 _)) :: (33, .val (.bool _)) :: (34, .val (.int .i64 _)) :: (35, .val (.bool _)) :: (36, .val (.str _)) :: (37, .val (.bool _)) :: [])) ?_ (imp_covers ⟨rfl, rfl, rfl, rfl, rfl, rfl, rfl, rfl, rfl, rfl, rfl, rfl, rfl, rfl, rfl, rfl, rfl, rfl, rfl, rfl, rfl, rfl, rfl, rfl, rfl, rfl, rfl, rfl, rfl, rfl, rfl, rfl, rfl, rfl, rfl, rfl, rfl, trivial⟩)
                      refine code_seq (fun K39 hK39 => ?_)
                      refine code_seq (fun K40 hK40 => ?_)
                      refine code_region ?_
                      refine list_cons rfl (op_q (q_move rfl (by decide)) ?_)
                      refine list_cons rfl (op_call _ (spec_RowText _ (by first | omega | (simp; omega))) rfl rfl (by decide) (by decide) (by decide) rfl ?_)
                      rintro _ rfl
                      refine list_cons rfl (op_q (q_move rfl (by decide)) ?_)
                      refine list_cons rfl (op_q (q_extract rfl rfl (by decide)) ?_)
                      refine list_cons rfl (op_q (q_extract rfl rfl (by decide)) ?_)
                      refine list_cons rfl (op_q (q_assign rfl (by decide)) ?_)
                      refine list_cons rfl (op_q (q_assign rfl (by decide)) ?_)
                      refine list_nil ?_
                      refine hK40 _ ?_; clear hK40 K40
                      refine codeT.imp (σ' := ((0, .ext _) :: (2, .val (.bool _)) :: (3, .val (.int .i64 _)) :: (4, .own 65 3 1 _ _) :: (5, .val (.bool _)) :: (6, .own 70 3 1 _ _) :: (7, .val (.bool _)) :: (8, .own 83 3 1 _ _) :: (9, .own 86 3 1 _ _) :: (10, .val (.bool _)) :: (11, .own 91 3 1 _ _) :: (12, .val (.bool _)) :: (13, .own 111 3 1 _ _) :: (14, .val (.bool _)) :: (15, .own 116 3 1 _ _) :: (16, .val (.bool _)) :: (17, .val (.int .i64 _)) :: (18, .val (.bool _)) :: (19, .val (.int .i64 _)) :: (20, .val (.bool _)) :: (21, .val (.int .i64 _)) :: (22, .val (.int .i64 _)) :: (23, .val (.bool _)) :: (24, .val (.int .i64 _)) :: (25, .val (.bool _)) :: (26, .val (.int .i64 _)) :: (27, .val (.int .i64 _)) :: (28, .val (.bool _)) :: (29, .val (.int .i64 _)) :: (30, .val (.bool _)) :: (31, .own 192 3 1 _ _) :: (32, .val (.int .i64 _)) :: (33, .val (.bool _)) :: (34, .val (.int .i64 _)) :: (35, .val (.bool _)) :: (36, .val (.str _)) :: (37, .val (.bool _)) :: (38, .val (.str _)) :: (39, .val (.bool _)) :: [])) ?_ (imp_covers ⟨rfl, rfl, rfl, rfl, rfl, rfl, rfl, rfl, rfl, rfl, rfl, rfl, rfl, rfl, rfl, rfl, rfl, rfl, rfl, rfl, rfl, rfl, rfl, rfl, rfl, rfl, rfl, rfl, rfl, rfl, rfl, rfl, rfl, rfl, rfl, rfl, rfl, rfl, rfl, trivial⟩)
                      refine code_seq (fun K41 hK41 => ?_)
                      refine code_region ?_
                      refine list_cons rfl (op_q (q_move rfl (by decide)) ?_)
                      refine list_cons rfl (op_q (q_move rfl (by decide)) ?_)
                      refine list_cons rfl (op_q (q_sne rfl rfl (by decide)) ?_)
                      refine list_cons rfl (op_q (q_move rfl (by decide)) ?_)
                      refine list_guard_d rfl rfl rfl rfl (by decide) rfl (by decide) (fun h19 => ?_) (fun h19 => ?_)
                      · simp only [Bool.false_eq_true, if_true, if_false, Decidable.not_not] at h19
                        refine id (op_q (q_move rfl (by decide)) ?_)
                        refine list_guard_y rfl rfl rfl rfl (by decide) rfl ?_
                        refine id (op_q (q_move rfl (by decide)) ?_)
                        refine list_guard_y rfl rfl rfl rfl (by decide) rfl ?_
                        refine id (op_q (q_bne Tryz.underlying4 rfl rfl (by decide)) ?_)
                        refine list_cons rfl (op_q (q_pick rfl rfl (by decide)) ?_)
                        refine list_cons rfl (op_q (q_move rfl (by decide)) ?_)
                        refine list_guard_d rfl rfl rfl rfl (by decide) rfl (by decide) (fun h20 => ?_) (fun h20 => ?_)
                        · simp only [Bool.false_eq_true, if_true, if_false, Decidable.not_not] at h20
                          refine id (op_q (q_move rfl (by decide)) ?_)
                          refine list_guard_y rfl rfl rfl rfl (by decide) rfl ?_
                          refine id (op_q (q_move rfl (by decide)) ?_)
                          refine list_guard_y rfl rfl rfl rfl (by decide) rfl ?_
                          refine id (op_q (q_bne Tryz.underlying4 rfl rfl (by decide)) ?_)
                          refine list_cons rfl (op_q (q_pick rfl rfl (by decide)) ?_)
                          refine list_nil ?_
                          refine hK41 _ ?_; clear hK41 K41
                          refine codeT.imp (σ' := ((0, .ext _) :: (2, .val (.bool _)) :: (3, .val (.int .i64 _)) :: (4, .own 65 3 1 _ _) :: (5, .val (.bool _)) :: (6, .own 70 3 1 _ _) :: (7, .val (.bool _)) :: (8, .own 83 3 1 _ _) :: (9, .own 86 3 1 _ _) :: (10, .val (.bool _)) :: (11, .own 91 3 1 _ _) :: (12, .val (.bool _)) :: (13, .own 111 3 1 _ _) :: (14, .val (.bool _)) :: (15, .own 116 3 1 _ _) :: (16, .val (.bool _)) :: (17, .val (.int .i64 _)) :: (18, .val (.bool _)) :: (19, .val (.int .i64 _)) :: (20, .val (.bool _)) :: (21, .val (.int .i64 _)) :: (22, .val (.int .i64 _)) :: (23, .val (.bool _)) :: (24, .val (.int .i64 _)) :: (25, .val (.bool _)) :: (26, .val (.int .i64 _)) :: (27, .val (.int .i64 _)) :: (28, .val (.bool _)) :: (29, .val (.int .i64 _)) :: (30, .val (.bool _)) :: (31, .own 192 3 1 _ _) :: (32, .val (.int .i64 _)) :: (33, .val (.bool _)) :: (34, .val (.int .i64 _)) :: (35, .val (.bool _)) :: (36, .val (.str _)) :: (37, .val (.bool _)) :: (38, .val (.str _)) :: (39, .val (.bool _)) :: (239, .val (.bool _)) :: [])) ?_ (imp_covers ⟨rfl, rfl, rfl, rfl, rfl, rfl, rfl, rfl, rfl, rfl, rfl, rfl, rfl, rfl, rfl, rfl, rfl, rfl, rfl, rfl, rfl, rfl, rfl, rfl, rfl, rfl, rfl, rfl, rfl, rfl, rfl, rfl, rfl, rfl, rfl, rfl, rfl, rfl, rfl, rfl, trivial⟩)
                          refine code_cond_d rfl (fun h21 => ?_) (fun h21 => ?_)
                          · skip
                            (try simp only [Decidable.not_not] at h21)
                            exfalso
                            first | exact absurd rfl h21 | exact h21 trivial | (simp at h21; done)
                          (try simp only [Decidable.not_not] at h21)
                          refine code_skip ?_
                          refine hK39 _ ?_; clear hK39 K39
                          refine code_seq (fun K42 hK42 => ?_)
                          refine code_region ?_
                          refine list_cons rfl (op_q (q_move rfl (by decide)) ?_)
                          refine list_cons rfl (op_callM (DrawParseRow_c _ ?_) (.tmp 0) 0 [] [.tmp 240] _ rfl rfl (by intro y hy; cases hy) (by decide) (by decide) (by decide) rfl (by intro h; cases h) ?_)
                          · first | assumption | omega | (simp; omega)
                          rintro _ _ ⟨s0, hs0, rfl⟩
                          refine list_cons rfl (op_q (q_assign rfl (by decide)) ?_)
                          refine list_nil ?_
                          refine hK42 _ ?_; clear hK42 K42
                          refine codeT.imp (σ' := ((0, .ext _) :: (2, .val (.bool _)) :: (3, .val (.int .i64 _)) :: (4, .own 65 3 1 _ _) :: (5, .val (.bool _)) :: (6, .own 70 3 1 _ _) :: (7, .val (.bool _)) :: (8, .own 83 3 1 _ _) :: (9, .own 86 3 1 _ _) :: (10, .val (.bool _)) :: (11, .own 91 3 1 _ _) :: (12, .val (.bool _)) :: (13, .own 111 3 1 _ _) :: (14, .val (.bool _)) :: (15, .own 116 3 1 _ _) :: (16, .val (.bool _)) :: (17, .val (.int .i64 _)) :: (18, .val (.bool _)) :: (19, .val (.int .i64 _)) :: (20, .val (.bool _)) :: (21, .val (.int .i64 _)) :: (22, .val (.int .i64 _)) :: (23, .val (.bool _)) :: (24, .val (.int .i64 _)) :: (25, .val (.bool _)) :: (26, .val (.int .i64 _)) :: (27, .val (.int .i64 _)) :: (28, .val (.bool _)) :: (29, .val (.int .i64 _)) :: (30, .val (.bool _)) :: (31, .own 192 3 1 _ _) :: (32, .val (.int .i64 _)) :: (33, .val (.bool _)) :: (34, .val (.int .i64 _)) :: (35, .val (.bool _)) :: (36, .val (.str _)) :: (37, .val (.bool _)) :: (38, .val (.str _)) :: (39, .val (.bool _)) :: (40, .val (.str _)) :: [])) ?_ (imp_covers ⟨rfl, rfl, rfl, rfl, rfl, rfl, rfl, rfl, rfl, rfl, rfl, rfl, rfl, rfl, rfl, rfl, rfl, rfl, rfl, rfl, rfl, rfl, rfl, rfl, rfl, rfl, rfl, rfl, rfl, rfl, rfl, rfl, rfl, rfl, rfl, rfl, rfl, rfl, rfl, rfl, trivial⟩)
                          refine code_seq (fun K43 hK43 => ?_)
                          refine code_region ?_
                          refine list_cons rfl (op_q (q_move rfl (by decide)) ?_)
                          refine list_cons rfl (op_call _ (impl_ParseRow _ (by first | omega | (simp; omega))) rfl rfl (by decide) (by decide) (by decide) rfl ?_)
                          rintro _ rfl; have hl4 := prowI6 s0
                          refine list_cons rfl (op_q (q_move rfl (by decide)) ?_)
                          refine list_cons rfl (op_q (q_extract rfl rfl (by decide)) ?_)
                          refine list_cons rfl (op_q (q_extract rfl rfl (by decide)) ?_)
                          refine list_cons rfl (op_q (q_assign rfl (by decide)) ?_)
                          refine list_cons rfl (op_q (q_assign rfl (by decide)) ?_)
                          refine list_nil ?_
                          refine hK43 _ ?_; clear hK43 K43
                          refine codeT.imp (σ' := ((0, .ext _) :: (2, .val (.bool _)) :: (3, .val (.int .i64 _)) :: (4, .own 65 3 1 _ _) :: (5, .val (.bool _)) :: (6, .own 70 3 1 _ _) :: (7, .val (.bool _)) :: (8, .own 83 3 1 _ _) :: (9, .own 86 3 1 _ _) :: (10, .val (.bool _)) :: (11, .own 91 3 1 _ _) :: (12, .val (.bool _)) :: (13, .own 111 3 1 _ _) :: (14, .val (.bool _)) :: (15, .own 116 3 1 _ _) :: (16, .val (.bool _)) :: (17, .val (.int .i64 _)) :: (18, .val (.bool _)) :: (19, .val (.int .i64 _)) :: (20, .val (.bool _)) :: (21, .val (.int .i64 _)) :: (22, .val (.int .i64 _)) :: (23, .val (.bool _)) :: (24, .val (.int .i64 _)) :: (25, .val (.bool _)) :: (26, .val (.int .i64 _)) :: (27, .val (.int .i64 _)) :: (28, .val (.bool _)) :: (29, .val (.int .i64 _)) :: (30, .val (.bool _)) :: (31, .own 192 3 1 _ _) :: (32, .val (.int .i64 _)) :: (33, .val (.bool _)) :: (34, .val (.int .i64 _)) :: (35, .val (.bool _)) :: (36, .val (.str _)) :: (37, .val (.bool _)) :: (38, .val (.str _)) :: (39, .val (.bool _)) :: (40, .val (.str _)) :: (41, .own 244 3 1 _ _) :: (42, .val (.bool _)) :: [])) ?_ (imp_covers ⟨rfl, rfl, rfl, rfl, rfl, rfl, rfl, rfl, rfl, rfl, rfl, rfl, rfl, rfl, rfl, rfl, rfl, rfl, rfl, rfl, rfl, rfl, rfl, rfl, rfl, rfl, rfl, rfl, rfl, rfl, rfl, rfl, rfl, rfl, rfl, rfl, rfl, rfl, rfl, rfl, rfl, rfl, trivial⟩)
                          refine code_seq (fun K44 hK44 => ?_)
                          refine code_seq (fun K45 hK45 => ?_)
                          refine code_region ?_
                          refine list_cons rfl (op_q (q_move rfl (by decide)) ?_)
                          refine list_cons rfl (op_call _ (spec_ParseRow _ (by first | omega | (simp; omega))) rfl rfl (by decide) (by decide) (by decide) rfl ?_)
                          rintro _ rfl
                          refine list_cons rfl (op_q (q_move rfl (by decide)) ?_)
                          refine list_cons rfl (op_q (q_extract rfl rfl (by decide)) ?_)
                          refine list_cons rfl (op_q (q_extract rfl rfl (by decide)) ?_)
                          refine list_cons rfl (op_q (q_assign rfl (by decide)) ?_)
                          refine list_cons rfl (op_q (q_assign rfl (by decide)) ?_)
                          refine list_nil ?_
                          refine hK45 _ ?_; clear hK45 K45
                          refine codeT.imp (σ' := ((0, .ext _) :: (2, .val (.bool _)) :: (3, .val (.int .i64 _)) :: (4, .own 65 3 1 _ _) :: (5, .val (.bool _)) :: (6, .own 70 3 1 _ _) :: (7, .val (.bool _)) :: (8, .own 83 3 1 _ _) :: (9, .own 86 3 1 _ _) :: (10, .val (.bool _)) :: (11, .own 91 3 1 _ _) :: (12, .val (.bool _)) :: (13, .own 111 3 1 _ _) :: (14, .val (.bool _)) :: (15, .own 116 3 1 _ _) :: (16, .val (.bool _)) :: (17, .val (.int .i64 _)) :: (18, .val (.bool _)) :: (19, .val (.int .i64 _)) :: (20, .val (.bool _)) :: (21, .val (.int .i64 _)) :: (22, .val (.int .i64 _)) :: (23, .val (.bool _)) :: (24, .val (.int .i64 _)) :: (25, .val (.bool _)) :: (26, .val (.int .i64 _)) :: (27, .val (.int .i64 _)) :: (28, .val (.bool _)) :: (29, .val (.int .i64 _)) :: (30, .val (.bool _)) :: (31, .own 192 3 1 _ _) :: (32, .val (.int .i64 _)) :: (33, .val (.bool _)) :: (34, .val (.int .i64 _)) :: (35, .val (.bool _)) :: (36, .val (.str _)) :: (37, .val (.bool _)) :: (38, .val (.str _)) :: (39, .val (.bool _)) :: (40, .val (.str _)) :: (41, .own 244 3 1 _ _) :: (42, .val (.bool _)) :: (43, .own 249 3 1 _ _) :: (44, .val (.bool _)) :: [])) ?_ (imp_covers ⟨rfl, rfl, rfl, rfl, rfl, rfl, rfl, rfl, rfl, rfl, rfl, rfl, rfl, rfl, rfl, rfl, rfl, rfl, rfl, rfl, rfl, rfl, rfl, rfl, rfl, rfl, rfl, rfl, rfl, rfl, rfl, rfl, rfl, rfl, rfl, rfl, rfl, rfl, rfl, rfl, rfl, rfl, rfl, rfl, trivial⟩)
                          refine code_seq (fun K46 hK46 => ?_)
                          refine code_region ?_
                          refine list_cons rfl (op_q (q_move rfl (by decide)) ?_)
                          refine list_cons rfl (op_q (q_move rfl (by decide)) ?_)
                          refine list_cons rfl (op_q (q_bne Tryz.underlying4 rfl rfl (by decide)) ?_)
                          refine list_cons rfl (op_q (q_move rfl (by decide)) ?_)
                          refine list_guard_d rfl rfl rfl rfl (by decide) rfl (by decide) (fun h22 => ?_) (fun h22 => ?_)
                          · simp only [Bool.false_eq_true, if_true, if_false, Decidable.not_not] at h22
                            refine id (op_q (q_move rfl (by decide)) ?_)
                            refine list_guard_y rfl rfl rfl rfl (by decide) rfl ?_
                            refine id (op_q (q_move rfl (by decide)) ?_)
                            refine list_guard_y rfl rfl rfl rfl (by decide) rfl ?_
                            refine id (op_call _ (rInts_c _ _ (by first | omega | (simp; omega))) rfl rfl (by decide) (by decide) (by decide) rfl ?_)
                            rintro _ rfl
                            refine list_guard_y rfl rfl rfl rfl (by decide) rfl ?_
                            refine id (op_q (by first | exact q_notd rfl (by decide) | exact q_not rfl (by decide)) ?_)
                            refine list_cons rfl (op_q (q_pick rfl rfl (by decide)) ?_)
                            refine list_nil ?_
                            refine hK46 _ ?_; clear hK46 K46
                            refine codeT.imp (σ' := ((0, .ext _) :: (2, .val (.bool _)) :: (3, .val (.int .i64 _)) :: (4, .own 65 3 1 _ _) :: (5, .val (.bool _)) :: (6, .own 70 3 1 _ _) :: (7, .val (.bool _)) :: (8, .own 83 3 1 _ _) :: (9, .own 86 3 1 _ _) :: (10, .val (.bool _)) :: (11, .own 91 3 1 _ _) :: (12, .val (.bool _)) :: (13, .own 111 3 1 _ _) :: (14, .val (.bool _)) :: (15, .own 116 3 1 _ _) :: (16, .val (.bool _)) :: (17, .val (.int .i64 _)) :: (18, .val (.bool _)) :: (19, .val (.int .i64 _)) :: (20, .val (.bool _)) :: (21, .val (.int .i64 _)) :: (22, .val (.int .i64 _)) :: (23, .val (.bool _)) :: (24, .val (.int .i64 _)) :: (25, .val (.bool _)) :: (26, .val (.int .i64 _)) :: (27, .val (.int .i64 _)) :: (28, .val (.bool _)) :: (29, .val (.int .i64 _)) :: (30, .val (.bool _)) :: (31, .own 192 3 1 _ _) :: (32, .val (.int .i64 _)) :: (33, .val (.bool _)) :: (34, .val (.int .i64 _)) :: (35, .val (.bool _)) :: (36, .val (.str _)) :: (37, .val (.bool _)) :: (38, .val (.str _)) :: (39, .val (.bool _)) :: (40, .val (.str _)) :: (41, .own 244 3 1 _ _) :: (42, .val (.bool _)) :: (43, .own 249 3 1 _ _) :: (44, .val (.bool _)) :: (260, .val (.bool _)) :: [])) ?_ (imp_covers ⟨rfl, rfl, rfl, rfl, rfl, rfl, rfl, rfl, rfl, rfl, rfl, rfl, rfl, rfl, rfl, rfl, rfl, rfl, rfl, rfl, rfl, rfl, rfl, rfl, rfl, rfl, rfl, rfl, rfl, rfl, rfl, rfl, rfl, rfl, rfl, rfl, rfl, rfl, rfl, rfl, rfl, rfl, rfl, rfl, rfl, trivial⟩)
                            refine code_cond_d rfl (fun h23 => ?_) (fun h23 => ?_)
                            · skip
                              (try simp only [Decidable.not_not] at h23)
                              exfalso
                              first | exact absurd rfl h23 | exact h23 trivial | (simp at h23; done)
                            (try simp only [Decidable.not_not] at h23)
                            refine code_skip ?_
                            refine hK44 _ ?_; clear hK44 K44
                            refine codeT.imp (σ' := [(2, .val (.bool _)), (3, .val (.int .i64 _)), (4, .own 65 3 1 _ _), (5, .val (.bool _)), (8, .own 83 3 1 _ _), (9, .own 86 3 1 _ _), (10, .val (.bool _)), (13, .own 111 3 1 _ _), (21, .val (.int .i64 _)), (22, .val (.int .i64 _)), (23, .val (.bool _)), (31, .own 192 3 1 _ _), (36, .val (.str _)), (37, .val (.bool _))]) ?_ (imp_covers ⟨rfl, rfl, rfl, rfl, rfl, rfl, rfl, rfl, rfl, rfl, rfl, rfl, rfl, rfl, trivial⟩)
                            refine code_seq_same ?_ ?_
                            · skip
                              refine code_seq (fun K47 hK47 => ?_)
                              refine code_region ?_
                              refine list_cons rfl (op_q (q_move rfl (by decide)) ?_)
                              refine list_nil ?_
                              refine hK47 _ ?_; clear hK47 K47
                              refine code_cond_d rfl (fun h24 => ?_) (fun h24 => ?_)
                              · skip
                                (try simp only [Decidable.not_not] at h24)
                                refine code_seq (fun K48 hK48 => ?_)
                                refine code_region ?_
                                refine list_cons rfl (op_q (q_move rfl (by decide)) ?_)
                                refine list_cons rfl (op_call _ (impl_NumberOf _ (by first | omega | (simp; omega))) rfl rfl (by decide) (by decide) (by decide) rfl ?_)
                                rintro _ rfl
                                refine list_cons rfl (op_q (q_move rfl (by decide)) ?_)
                                refine list_cons rfl (op_q (q_extract rfl rfl (by decide)) ?_)
                                refine list_cons rfl (op_q (q_extract rfl rfl (by decide)) ?_)
                                refine list_cons rfl (op_q (q_assign rfl (by decide)) ?_)
                                refine list_cons rfl (op_q (q_assign rfl (by decide)) ?_)
                                refine list_nil ?_
                                refine hK48 _ ?_; clear hK48 K48
                                refine codeT.imp (σ' := [(2, .val (.bool _)), (3, .val (.int .i64 _)), (4, .own 65 3 1 _ _), (5, .val (.bool _)), (8, .own 83 3 1 _ _), (9, .own 86 3 1 _ _), (10, .val (.bool _)), (13, .own 111 3 1 _ _), (21, .val (.int .i64 _)), (22, .val (.int .i64 _)), (23, .val (.bool _)), (31, .own 192 3 1 _ _), (36, .val (.str _)), (37, .val (.bool _)), (45, .val (.int .i64 _)), (46, .val (.bool _))]) ?_ (imp_covers ⟨rfl, rfl, rfl, rfl, rfl, rfl, rfl, rfl, rfl, rfl, rfl, rfl, rfl, rfl, rfl, rfl, trivial⟩)
                                refine code_seq (fun K49 hK49 => ?_)
                                refine code_region ?_
                                refine list_cons rfl (op_q (q_move rfl (by decide)) ?_)
                                refine list_cons rfl (op_q (by first | exact q_notd rfl (by decide) | exact q_not rfl (by decide)) ?_)
                                refine list_cons rfl (op_q (q_move rfl (by decide)) ?_)
                                refine list_guard_d rfl rfl rfl rfl (by decide) rfl (by decide) (fun h25 => ?_) (fun h25 => ?_)
                                · simp only [Bool.false_eq_true, if_true, if_false, Decidable.not_not] at h25
                                  refine id (op_q (q_move rfl (by decide)) ?_)
                                  refine list_guard_y rfl rfl rfl rfl (by decide) rfl ?_
                                  refine id (op_q (q_move rfl (by decide)) ?_)
                                  refine list_guard_y rfl rfl rfl rfl (by decide) rfl ?_
                                  refine id (op_q (q_ne rfl rfl (by decide)) ?_)
                                  refine list_cons rfl (op_q (q_pick rfl rfl (by decide)) ?_)
                                  refine list_nil ?_
                                  refine hK49 _ ?_; clear hK49 K49
                                  refine code_cond_d rfl (fun h26 => ?_) (fun h26 => ?_)
                                  · skip
                                    (try simp only [Decidable.not_not] at h26)
                                    exfalso
                                    have hok : 0 ≤ n ∧ n ≤ 999999 := by assumption
                                    exact h26 (rr2 hok)
                                  (try simp only [Decidable.not_not] at h26)
                                  refine code_skip ?_
                                  exact then_n (imp_covers ⟨rfl, rfl, rfl, rfl, rfl, rfl, rfl, rfl, rfl, rfl, rfl, rfl, rfl, rfl, trivial⟩)
                                simp only [Bool.false_eq_true, if_true, if_false, Decidable.not_not] at h25
                                exfalso
                                have hok : 0 ≤ n ∧ n ≤ 999999 := by assumption
                                exact h25 (rr1 hok)
                              (try simp only [Decidable.not_not] at h24)
                              refine code_skip ?_
                              exact then_n (imp_covers ⟨rfl, rfl, rfl, rfl, rfl, rfl, rfl, rfl, rfl, rfl, rfl, rfl, rfl, rfl, trivial⟩)
                            refine codeT.imp (σ' := [(2, .val (.bool _)), (8, .own 83 3 1 _ _), (9, .own 86 3 1 _ _), (10, .val (.bool _)), (13, .own 111 3 1 _ _), (21, .val (.int .i64 _)), (22, .val (.int .i64 _)), (23, .val (.bool _)), (31, .own 192 3 1 _ _), (36, .val (.str _)), (37, .val (.bool _))]) ?_ (imp_covers ⟨rfl, rfl, rfl, rfl, rfl, rfl, rfl, rfl, rfl, rfl, rfl, trivial⟩)
                            refine code_seq_same ?_ ?_
                            · skip
                              refine code_seq (fun K50 hK50 => ?_)
                              refine code_region ?_
                              refine list_cons rfl (op_q (q_move rfl (by decide)) ?_)
                              refine list_nil ?_
                              refine hK50 _ ?_; clear hK50 K50
                              refine code_cond_d rfl (fun h27 => ?_) (fun h27 => ?_)
                              · skip
                                (try simp only [Decidable.not_not] at h27)
                                refine code_seq (fun K51 hK51 => ?_)
                                refine code_region ?_
                                refine list_cons rfl (op_q (q_move rfl (by decide)) ?_)
                                refine list_cons rfl (op_call _ (impl_ParseRow _ (by first | omega | (simp; omega))) rfl rfl (by decide) (by decide) (by decide) rfl ?_)
                                rintro _ rfl; have hl4b := prowI6 (if RowP x0 then textF x0 else [])
                                refine list_cons rfl (op_q (q_move rfl (by decide)) ?_)
                                refine list_cons rfl (op_q (q_extract rfl rfl (by decide)) ?_)
                                refine list_cons rfl (op_q (q_extract rfl rfl (by decide)) ?_)
                                refine list_cons rfl (op_q (q_assign rfl (by decide)) ?_)
                                refine list_cons rfl (op_q (q_assign rfl (by decide)) ?_)
                                refine list_nil ?_
                                refine hK51 _ ?_; clear hK51 K51
                                refine codeT.imp (σ' := [(2, .val (.bool _)), (8, .own 83 3 1 _ _), (9, .own 86 3 1 _ _), (10, .val (.bool _)), (13, .own 111 3 1 _ _), (21, .val (.int .i64 _)), (22, .val (.int .i64 _)), (23, .val (.bool _)), (31, .own 192 3 1 _ _), (36, .val (.str _)), (37, .val (.bool _)), (47, .own 277 3 1 _ _), (48, .val (.bool _))]) ?_ (imp_covers ⟨rfl, rfl, rfl, rfl, rfl, rfl, rfl, rfl, rfl, rfl, rfl, rfl, rfl, trivial⟩)
                                refine code_seq (fun K52 hK52 => ?_)
                                refine code_region ?_
                                refine list_cons rfl (op_q (q_move rfl (by decide)) ?_)
                                refine list_cons rfl (op_q (by first | exact q_notd rfl (by decide) | exact q_not rfl (by decide)) ?_)
                                refine list_cons rfl (op_q (q_move rfl (by decide)) ?_)
                                refine list_guard_d rfl rfl rfl rfl (by decide) rfl (by decide) (fun h28 => ?_) (fun h28 => ?_)
                                · simp only [Bool.false_eq_true, if_true, if_false, Decidable.not_not] at h28
                                  refine id (op_q (q_move rfl (by decide)) ?_)
                                  refine list_guard_y rfl rfl rfl rfl (by decide) rfl ?_
                                  refine id (op_q (q_move rfl (by decide)) ?_)
                                  refine list_guard_y rfl rfl rfl rfl (by decide) rfl ?_
                                  refine id (op_call _ (rInts_c _ _ (by first | omega | (simp; omega))) rfl rfl (by decide) (by decide) (by decide) rfl ?_)
                                  rintro _ rfl
                                  refine list_guard_y rfl rfl rfl rfl (by decide) rfl ?_
                                  refine id (op_q (by first | exact q_notd rfl (by decide) | exact q_not rfl (by decide)) ?_)
                                  refine list_cons rfl (op_q (q_pick rfl rfl (by decide)) ?_)
                                  refine list_nil ?_
                                  refine hK52 _ ?_; clear hK52 K52
                                  refine codeT.imp (σ' := [(2, .val (.bool _)), (8, .own 83 3 1 _ _), (9, .own 86 3 1 _ _), (10, .val (.bool _)), (13, .own 111 3 1 _ _), (21, .val (.int .i64 _)), (22, .val (.int .i64 _)), (23, .val (.bool _)), (31, .own 192 3 1 _ _), (36, .val (.str _)), (37, .val (.bool _)), (47, .own 277 3 1 _ _), (48, .val (.bool _)), (287, .val (.bool _))]) ?_ (imp_covers ⟨rfl, rfl, rfl, rfl, rfl, rfl, rfl, rfl, rfl, rfl, rfl, rfl, rfl, rfl, trivial⟩)
                                  refine code_cond_d rfl (fun h29 => ?_) (fun h29 => ?_)
                                  · skip
                                    (try simp only [Decidable.not_not] at h29)
                                    exfalso
                                    have hsev : RowP x0 := by assumption
                                    exact h29 (rr4 hsev)
                                  (try simp only [Decidable.not_not] at h29)
                                  refine code_skip ?_
                                  exact then_n (imp_covers ⟨rfl, rfl, rfl, rfl, rfl, rfl, rfl, rfl, rfl, rfl, rfl, trivial⟩)
                                simp only [Bool.false_eq_true, if_true, if_false, Decidable.not_not] at h28
                                exfalso
                                have hsev : RowP x0 := by assumption
                                exact h28 (rr3 hsev)
                              (try simp only [Decidable.not_not] at h27)
                              refine code_skip ?_
                              exact then_n (imp_covers ⟨rfl, rfl, rfl, rfl, rfl, rfl, rfl, rfl, rfl, rfl, rfl, trivial⟩)
                            refine codeT.imp (σ' := [(2, .val (.bool _)), (8, .own 83 3 1 _ _), (9, .own 86 3 1 _ _), (10, .val (.bool _)), (13, .own 111 3 1 _ _), (21, .val (.int .i64 _)), (22, .val (.int .i64 _)), (23, .val (.bool _))]) ?_ (imp_covers ⟨rfl, rfl, rfl, rfl, rfl, rfl, rfl, rfl, trivial⟩)
                            refine code_seq_same ?_ ?_
                            · skip
                              refine code_seq (fun K53 hK53 => ?_)
                              refine code_region ?_
                              refine list_cons rfl (op_q (q_move rfl (by decide)) ?_)
                              refine list_cons rfl (op_q (q_move rfl (by decide)) ?_)
                              refine list_guard_d rfl rfl rfl rfl (by decide) rfl (by decide) (fun h30 => ?_) (fun h30 => ?_)
                              · simp only [Bool.false_eq_true, if_true, if_false, Decidable.not_not] at h30
                                refine id (op_q (q_move rfl (by decide)) ?_)
                                refine list_guard_y rfl rfl rfl rfl (by decide) rfl ?_
                                refine id (op_q (by first | exact q_remI rfl rfl (by decide) (by omega) (by omega) | exact q_rem rfl rfl (by omega) (by decide)) ?_)
                                refine list_guard_y rfl rfl rfl rfl (by decide) rfl ?_
                                refine id (op_q (q_ne rfl rfl (by decide)) ?_)
                                refine list_cons rfl (op_q (q_pick rfl rfl (by decide)) ?_)
                                refine list_nil ?_
                                refine hK53 _ ?_; clear hK53 K53
                                refine code_cond_d rfl (fun h31 => ?_) (fun h31 => ?_)
                                · skip
                                  (try simp only [Decidable.not_not] at h31)
                                  refine code_seq (fun K54 hK54 => ?_)
                                  refine code_region ?_
                                  refine list_cons rfl (op_q (q_move rfl (by decide)) ?_)
                                  refine list_cons rfl (op_call _ (impl_TurnedNumber _) rfl rfl (by decide) (by decide) (by decide) rfl ?_)
                                  rintro _ rfl
                                  refine list_cons rfl (op_q (q_move rfl (by decide)) ?_)
                                  refine list_cons rfl (op_q (q_extract rfl rfl (by decide)) ?_)
                                  refine list_cons rfl (op_q (q_extract rfl rfl (by decide)) ?_)
                                  refine list_cons rfl (op_q (q_assign rfl (by decide)) ?_)
                                  refine list_cons rfl (op_q (q_assign rfl (by decide)) ?_)
                                  refine list_nil ?_
                                  refine hK54 _ ?_; clear hK54 K54
                                  refine codeT.imp (σ' := [(2, .val (.bool _)), (8, .own 83 3 1 _ _), (9, .own 86 3 1 _ _), (10, .val (.bool _)), (13, .own 111 3 1 _ _), (21, .val (.int .i64 _)), (22, .val (.int .i64 _)), (23, .val (.bool _)), (49, .val (.int .i64 _)), (50, .val (.bool _))]) ?_ (imp_covers ⟨rfl, rfl, rfl, rfl, rfl, rfl, rfl, rfl, rfl, rfl, trivial⟩)
                                  refine code_seq (fun K55 hK55 => ?_)
                                  refine code_region ?_
                                  refine list_cons rfl (op_q (q_move rfl (by decide)) ?_)
                                  refine list_cons rfl (op_q (by first | exact q_notd rfl (by decide) | exact q_not rfl (by decide)) ?_)
                                  refine list_cons rfl (op_q (q_move rfl (by decide)) ?_)
                                  refine list_guard_d rfl rfl rfl rfl (by decide) rfl (by decide) (fun h32 => ?_) (fun h32 => ?_)
                                  · simp only [Bool.false_eq_true, if_true, if_false, Decidable.not_not] at h32
                                    refine id (op_q (q_move rfl (by decide)) ?_)
                                    refine list_guard_y rfl rfl rfl rfl (by decide) rfl ?_
                                    refine id (op_q (q_move rfl (by decide)) ?_)
                                    refine list_guard_y rfl rfl rfl rfl (by decide) rfl ?_
                                    refine id (op_q (q_ne rfl rfl (by decide)) ?_)
                                    refine list_cons rfl (op_q (q_pick rfl rfl (by decide)) ?_)
                                    refine list_nil ?_
                                    refine hK55 _ ?_; clear hK55 K55
                                    refine code_cond_d rfl (fun h33 => ?_) (fun h33 => ?_)
                                    · skip
                                      (try simp only [Decidable.not_not] at h33)
                                      exfalso
                                      have hfour : TnP m := by assumption
                                      have hm10 : ¬ m % 10 = 0 := by assumption
                                      exact h33 (rr6 hfour hm10)
                                    (try simp only [Decidable.not_not] at h33)
                                    refine code_skip ?_
                                    exact then_n (imp_covers ⟨rfl, rfl, rfl, rfl, rfl, rfl, rfl, rfl, trivial⟩)
                                  simp only [Bool.false_eq_true, if_true, if_false, Decidable.not_not] at h32
                                  exfalso
                                  have hfour : TnP m := by assumption
                                  have hm10 : ¬ m % 10 = 0 := by assumption
                                  exact h32 (rr5 hfour hm10)
                                (try simp only [Decidable.not_not] at h31)
                                refine code_skip ?_
                                exact then_n (imp_covers ⟨rfl, rfl, rfl, rfl, rfl, rfl, rfl, rfl, trivial⟩)
                              simp only [Bool.false_eq_true, if_true, if_false, Decidable.not_not] at h30
                              refine list_guard_nT rfl rfl rfl rfl (by decide) (by decide) ?_
                              refine list_guard_nT rfl rfl rfl rfl (by decide) (by decide) ?_
                              refine list_cons rfl (op_q (q_pick rfl rfl (by decide)) ?_)
                              refine list_nil ?_
                              refine hK53 _ ?_; clear hK53 K53
                              refine code_cond_f rfl ?_
                              refine code_skip ?_
                              exact then_n (imp_covers ⟨rfl, rfl, rfl, rfl, rfl, rfl, rfl, rfl, trivial⟩)
                            refine code_seq (fun K56 hK56 => ?_)
                            refine code_seq (fun K57 hK57 => ?_)
                            refine code_region ?_
                            refine list_cons rfl (op_q (q_move rfl (by decide)) ?_)
                            refine list_cons rfl (op_q (by first | exact q_notd rfl (by decide) | exact q_not rfl (by decide)) ?_)
                            refine list_nil ?_
                            refine hK57 _ ?_; clear hK57 K57
                            refine code_cond_d rfl (fun h34 => ?_) (fun h34 => ?_)
                            · skip
                              (try simp only [Decidable.not_not] at h34)
                              refine code_seq (fun K58 hK58 => ?_)
                              refine code_region ?_
                              refine list_cons rfl (op_q (q_assign rfl (by decide)) ?_)
                              refine list_nil ?_
                              refine hK58 _ ?_; clear hK58 K58
                              refine code_ret ?_
                              refine then_r ?_; clear hK56 K56
                              refine ends_ret (cs := []) rfl rfl rfl rfl trivial ?_
                              first
                                | rfl
                                | rw [decide_eq_true (rr11 (r := r) (by assumption))]
                            (try simp only [Decidable.not_not] at h34)
                            refine code_skip ?_
                            refine hK56 _ ?_; clear hK56 K56
                            refine code_seq (fun K59 hK59 => ?_)
                            refine code_region ?_
                            refine list_cons rfl (op_q (q_move rfl (by decide)) ?_)
                            refine list_cons rfl (op_call _ (impl_TurnRow _ (by first | omega | (simp; omega))) rfl rfl (by decide) (by decide) (by decide) rfl ?_)
                            rintro _ rfl; have hl2b := turnI6 (if RowP r then turnL r else [])
                            refine list_cons rfl (op_q (q_move rfl (by decide)) ?_)
                            refine list_cons rfl (op_q (q_extract rfl rfl (by decide)) ?_)
                            refine list_cons rfl (op_q (q_extract rfl rfl (by decide)) ?_)
                            refine list_cons rfl (op_q (q_assign rfl (by decide)) ?_)
                            refine list_cons rfl (op_q (q_assign rfl (by decide)) ?_)
                            refine list_nil ?_
                            refine hK59 _ ?_; clear hK59 K59
                            refine codeT.imp (σ' := [(2, .val (.bool _)), (8, .own 83 3 1 _ _), (9, .own 86 3 1 _ _), (10, .val (.bool _)), (13, .own 111 3 1 _ _), (21, .val (.int .i64 _)), (22, .val (.int .i64 _)), (23, .val (.bool _)), (51, .own 310 3 1 _ _), (52, .val (.bool _))]) ?_ (imp_covers ⟨rfl, rfl, rfl, rfl, rfl, rfl, rfl, rfl, rfl, rfl, trivial⟩)
                            refine code_seq (fun K60 hK60 => ?_)
                            refine code_region ?_
                            refine list_cons rfl (op_q (q_move rfl (by decide)) ?_)
                            refine list_cons rfl (op_call _ (impl_MirrorRow _ (by first | omega | (simp; omega))) rfl rfl (by decide) (by decide) (by decide) rfl ?_)
                            rintro _ rfl; have hl3b := mirI6 (if RowP r then mirL r else [])
                            refine list_cons rfl (op_q (q_move rfl (by decide)) ?_)
                            refine list_cons rfl (op_q (q_extract rfl rfl (by decide)) ?_)
                            refine list_cons rfl (op_q (q_extract rfl rfl (by decide)) ?_)
                            refine list_cons rfl (op_q (q_assign rfl (by decide)) ?_)
                            refine list_cons rfl (op_q (q_assign rfl (by decide)) ?_)
                            refine list_nil ?_
                            refine hK60 _ ?_; clear hK60 K60
                            refine codeT.imp (σ' := [(2, .val (.bool _)), (8, .own 83 3 1 _ _), (9, .own 86 3 1 _ _), (10, .val (.bool _)), (13, .own 111 3 1 _ _), (21, .val (.int .i64 _)), (22, .val (.int .i64 _)), (23, .val (.bool _)), (51, .own 310 3 1 _ _), (52, .val (.bool _)), (53, .own 315 3 1 _ _), (54, .val (.bool _))]) ?_ (imp_covers ⟨rfl, rfl, rfl, rfl, rfl, rfl, rfl, rfl, rfl, rfl, rfl, rfl, trivial⟩)
                            refine code_seq (fun K61 hK61 => ?_)
                            refine code_region ?_
                            refine list_cons rfl (op_q (q_move rfl (by decide)) ?_)
                            refine list_cons rfl (op_call _ (impl_LitOf _ (by first | omega | (simp; omega))) rfl rfl (by decide) (by decide) (by decide) rfl ?_)
                            rintro _ rfl
                            refine list_cons rfl (op_q (q_move rfl (by decide)) ?_)
                            refine list_cons rfl (op_q (q_extract rfl rfl (by decide)) ?_)
                            refine list_cons rfl (op_q (q_extract rfl rfl (by decide)) ?_)
                            refine list_cons rfl (op_q (q_assign rfl (by decide)) ?_)
                            refine list_cons rfl (op_q (q_assign rfl (by decide)) ?_)
                            refine list_nil ?_
                            refine hK61 _ ?_; clear hK61 K61
                            refine codeT.imp (σ' := [(2, .val (.bool _)), (8, .own 83 3 1 _ _), (9, .own 86 3 1 _ _), (10, .val (.bool _)), (13, .own 111 3 1 _ _), (21, .val (.int .i64 _)), (22, .val (.int .i64 _)), (23, .val (.bool _)), (51, .own 310 3 1 _ _), (52, .val (.bool _)), (53, .own 315 3 1 _ _), (54, .val (.bool _)), (55, .val (.int .i64 _)), (56, .val (.bool _))]) ?_ (imp_covers ⟨rfl, rfl, rfl, rfl, rfl, rfl, rfl, rfl, rfl, rfl, rfl, rfl, rfl, rfl, trivial⟩)
                            refine code_seq (fun K62 hK62 => ?_)
                            refine code_region ?_
                            refine list_cons rfl (op_q (q_move rfl (by decide)) ?_)
                            refine list_cons rfl (op_call _ (impl_LitOf _ (by first | omega | (simp; omega))) rfl rfl (by decide) (by decide) (by decide) rfl ?_)
                            rintro _ rfl
                            refine list_cons rfl (op_q (q_move rfl (by decide)) ?_)
                            refine list_cons rfl (op_q (q_extract rfl rfl (by decide)) ?_)
                            refine list_cons rfl (op_q (q_extract rfl rfl (by decide)) ?_)
                            refine list_cons rfl (op_q (q_assign rfl (by decide)) ?_)
                            refine list_cons rfl (op_q (q_assign rfl (by decide)) ?_)
                            refine list_nil ?_
                            refine hK62 _ ?_; clear hK62 K62
                            refine codeT.imp (σ' := [(2, .val (.bool _)), (8, .own 83 3 1 _ _), (9, .own 86 3 1 _ _), (10, .val (.bool _)), (13, .own 111 3 1 _ _), (21, .val (.int .i64 _)), (22, .val (.int .i64 _)), (23, .val (.bool _)), (51, .own 310 3 1 _ _), (52, .val (.bool _)), (53, .own 315 3 1 _ _), (54, .val (.bool _)), (55, .val (.int .i64 _)), (56, .val (.bool _)), (57, .val (.int .i64 _)), (58, .val (.bool _))]) ?_ (imp_covers ⟨rfl, rfl, rfl, rfl, rfl, rfl, rfl, rfl, rfl, rfl, rfl, rfl, rfl, rfl, rfl, rfl, trivial⟩)
                            refine code_seq (fun K63 hK63 => ?_)
                            refine code_region ?_
                            refine list_cons rfl (op_q (q_move rfl (by decide)) ?_)
                            refine list_cons rfl (op_q (q_move rfl (by decide)) ?_)
                            refine list_guard_d rfl rfl rfl rfl (by decide) rfl (by decide) (fun h35 => ?_) (fun h35 => ?_)
                            · simp only [Bool.false_eq_true, if_true, if_false, Decidable.not_not] at h35
                              refine id (op_q (q_move rfl (by decide)) ?_)
                              refine list_cons rfl (op_q (q_pick rfl rfl (by decide)) ?_)
                              refine list_cons rfl (op_q (q_move rfl (by decide)) ?_)
                              refine list_guard_d rfl rfl rfl rfl (by decide) rfl (by decide) (fun h36 => ?_) (fun h36 => ?_)
                              · simp only [Bool.false_eq_true, if_true, if_false, Decidable.not_not] at h36
                                refine id (op_q (q_move rfl (by decide)) ?_)
                                refine list_cons rfl (op_q (q_pick rfl rfl (by decide)) ?_)
                                refine list_cons rfl (op_q (q_move rfl (by decide)) ?_)
                                refine list_guard_d rfl rfl rfl rfl (by decide) rfl (by decide) (fun h37 => ?_) (fun h37 => ?_)
                                · simp only [Bool.false_eq_true, if_true, if_false, Decidable.not_not] at h37
                                  refine id (op_q (q_move rfl (by decide)) ?_)
                                  refine list_cons rfl (op_q (q_pick rfl rfl (by decide)) ?_)
                                  refine list_cons rfl (op_q (q_move rfl (by decide)) ?_)
                                  refine list_guard_d rfl rfl rfl rfl (by decide) rfl (by decide) (fun h38 => ?_) (fun h38 => ?_)
                                  · simp only [Bool.false_eq_true, if_true, if_false, Decidable.not_not] at h38
                                    refine id (op_q (q_move rfl (by decide)) ?_)
                                    refine list_guard_y rfl rfl rfl rfl (by decide) rfl ?_
                                    refine id (op_q (q_move rfl (by decide)) ?_)
                                    refine list_guard_y rfl rfl rfl rfl (by decide) rfl ?_
                                    refine id (op_call _ (rInts_c _ _ (by first | omega | (simp; omega))) rfl rfl (by decide) (by decide) (by decide) rfl ?_)
                                    rintro _ rfl
                                    refine list_cons rfl (op_q (q_pick rfl rfl (by decide)) ?_)
                                    refine list_cons rfl (op_q (q_move rfl (by decide)) ?_)
                                    refine list_guard_d rfl rfl rfl rfl (by decide) rfl (by decide) (fun h39 => ?_) (fun h39 => ?_)
                                    · simp only [Bool.false_eq_true, if_true, if_false, Decidable.not_not] at h39
                                      refine id (op_q (q_move rfl (by decide)) ?_)
                                      refine list_guard_y rfl rfl rfl rfl (by decide) rfl ?_
                                      refine id (op_q (q_move rfl (by decide)) ?_)
                                      refine list_guard_y rfl rfl rfl rfl (by decide) rfl ?_
                                      refine id (op_call _ (rInts_c _ _ (by first | omega | (simp; omega))) rfl rfl (by decide) (by decide) (by decide) rfl ?_)
                                      rintro _ rfl
                                      refine list_cons rfl (op_q (q_pick rfl rfl (by decide)) ?_)
                                      refine list_cons rfl (op_q (q_move rfl (by decide)) ?_)
                                      refine list_guard_d rfl rfl rfl rfl (by decide) rfl (by decide) (fun h40 => ?_) (fun h40 => ?_)
                                      · simp only [Bool.false_eq_true, if_true, if_false, Decidable.not_not] at h40
                                        refine id (op_q (q_move rfl (by decide)) ?_)
                                        refine list_guard_y rfl rfl rfl rfl (by decide) rfl ?_
                                        refine id (op_q (q_move rfl (by decide)) ?_)
                                        refine list_guard_y rfl rfl rfl rfl (by decide) rfl ?_
                                        refine id (op_q (q_eq rfl rfl (by decide)) ?_)
                                        refine list_cons rfl (op_q (q_pick rfl rfl (by decide)) ?_)
                                        refine list_cons rfl (op_q (q_assign rfl (by decide)) ?_)
                                        refine list_nil ?_
                                        refine hK63 _ ?_; clear hK63 K63
                                        refine codeT.imp (σ' := [(2, .val (.bool _)), (8, .own 83 3 1 _ _), (9, .own 86 3 1 _ _), (10, .val (.bool _)), (13, .own 111 3 1 _ _), (21, .val (.int .i64 _)), (22, .val (.int .i64 _)), (23, .val (.bool _)), (51, .own 310 3 1 _ _), (52, .val (.bool _)), (53, .own 315 3 1 _ _), (54, .val (.bool _)), (55, .val (.int .i64 _)), (56, .val (.bool _)), (57, .val (.int .i64 _)), (58, .val (.bool _))]) ?_ (imp_covers ⟨rfl, rfl, rfl, rfl, rfl, rfl, rfl, rfl, rfl, rfl, rfl, rfl, rfl, rfl, rfl, rfl, trivial⟩)
                                        refine code_ret ?_
                                        refine ends_ret (cs := []) rfl rfl rfl rfl trivial ?_
                                        first
                                          | rfl
                                          | rw [decide_eq_true (rr11 (r := r) (by assumption))]
                                      simp only [Bool.false_eq_true, if_true, if_false, Decidable.not_not] at h40
                                      exfalso
                                      have hone : RowP r := by assumption
                                      exact h40 (rr10 hone)
                                    simp only [Bool.false_eq_true, if_true, if_false, Decidable.not_not] at h39
                                    exfalso
                                    have hone : RowP r := by assumption
                                    exact h39 (rr9 hone)
                                  simp only [Bool.false_eq_true, if_true, if_false, Decidable.not_not] at h38
                                  exfalso
                                  have hone : RowP r := by assumption
                                  exact h38 (rr7 hone)
                                simp only [Bool.false_eq_true, if_true, if_false, Decidable.not_not] at h37
                                exfalso
                                have hone : RowP r := by assumption
                                exact h37 hone
                              simp only [Bool.false_eq_true, if_true, if_false, Decidable.not_not] at h36
                              exfalso
                              have hone : RowP r := by assumption
                              exact h36 (rr8 hone)
                            simp only [Bool.false_eq_true, if_true, if_false, Decidable.not_not] at h35
                            exfalso
                            have hone : RowP r := by assumption
                            exact h35 (rr7 hone)
                          simp only [Bool.false_eq_true, if_true, if_false, Decidable.not_not] at h22
                          exfalso
                          first | exact absurd rfl h22 | exact h22 trivial | (simp at h22; done)
                        simp only [Bool.false_eq_true, if_true, if_false, Decidable.not_not] at h20
                        exfalso
                        first | exact absurd rfl h20 | exact h20 trivial | (simp at h20; done)
                      simp only [Bool.false_eq_true, if_true, if_false, Decidable.not_not] at h19
                      exfalso
                      first | exact absurd rfl h19 | exact h19 trivial | (simp at h19; done)
                    simp only [Bool.false_eq_true, if_true, if_false, Decidable.not_not] at h17
                    exfalso
                    first | exact absurd rfl h17 | exact h17 trivial | (simp at h17; done)
                  simp only [Bool.false_eq_true, if_true, if_false, Decidable.not_not] at h16
                  exfalso
                  first | exact absurd rfl h16 | exact h16 trivial | (simp at h16; done)
                simp only [Bool.false_eq_true, if_true, if_false, Decidable.not_not] at h14
                exfalso
                first | exact absurd rfl h14 | exact h14 trivial | (simp at h14; done)
              simp only [Bool.false_eq_true, if_true, if_false, Decidable.not_not] at h12
              exfalso
              first | exact absurd rfl h12 | exact h12 trivial | (simp at h12; done)
            simp only [Bool.false_eq_true, if_true, if_false, Decidable.not_not] at h10
            exfalso
            first | exact absurd rfl h10 | exact h10 trivial | (simp at h10; done)
          simp only [Bool.false_eq_true, if_true, if_false, Decidable.not_not] at h8
          exfalso
          first | exact absurd rfl h8 | exact h8 trivial | (simp at h8; done)
        simp only [Bool.false_eq_true, if_true, if_false, Decidable.not_not] at h7
        exfalso
        first | exact absurd rfl h7 | exact h7 trivial | (simp at h7; done)
      simp only [Bool.false_eq_true, if_true, if_false, Decidable.not_not] at h5
      exfalso
      first | exact absurd rfl h5 | exact h5 trivial | (simp at h5; done)
    simp only [Bool.false_eq_true, if_true, if_false, Decidable.not_not] at h4
    exfalso
    first | exact absurd rfl h4 | exact h4 trivial | (simp at h4; done)
  simp only [Bool.false_eq_true, if_true, if_false, Decidable.not_not] at h2
  exfalso
  first | exact absurd rfl h2 | exact h2 trivial | (simp at h2; done)

end Go.Proofs.YtafeflonhbgbkaaGreatDoor
