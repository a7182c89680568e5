/- Contracts of functions, walked over the pure layer; each says for which arguments. -/
import Derived.Test.YtjbbijlbenkgcaaDoorRows
import Derived.Test.YtjbbijlbenkgcaaDoorPwR
import Derived.Test.YtjbbijlbenkgcaaDoorTf
import Derived.Test.YtjbbijlbenkgcaaDoorSp
import Derived.Test.YtjbbijlbenkgcaaDoorS3
import Derived.Test.YtjbbijlbenkgcaaDoorS3b
import Derived.Test.YtjbbijlbenkgcaaDoorS3d
import Derived.Test.YtjbbijlbenkgcaaDoorShelf
import Derived.Test.YtjbbijlbenkgcaaDoorIm
import Derived.Test.YtjbbijlbenkgcaaDoorIm3f
import Derived.Test.YtjbbijlbenkgcaaDoorIm3g
namespace Go.Proofs.YtjbbijlbenkgcaaDoor.S3eTy
open Go.RowKit

def az (u : TypeId) : Nat := match u with | 42 => 2 | _ => 0

theorem sl_27 : SlTy Tryd.prog 27 42 2 16 [.int .i64 0, .int .i64 0] := slTy_of Tryd.underlying27 (z := .agg #[.int .i64 0, .int .i64 0]) (by kernel_rfl) rfl (by decide) (by decide) rfl
theorem agg_42 : AggTy Tryd.prog 42 2 := aggTy_of Tryd.underlying42 rfl (by kernel_rfl)
theorem sl_24 : SlTy Tryd.prog 24 3 1 8 [.int .i64 0] := slTy_of Tryd.underlying24 (z := .int .i64 0) (by kernel_rfl) rfl (by decide) (by decide) rfl
theorem one_3 : OneTy Tryd.prog 3 := oneTy_of Tryd.underlying3 rfl (by kernel_rfl)

end Go.Proofs.YtjbbijlbenkgcaaDoor.S3eTy
namespace Go.Proofs.YtjbbijlbenkgcaaDoor
open Go.RowKit S3eTy
set_option linter.unusedVariables false
set_option linter.unusedSimpArgs false

abbrev fA (fs : List (Int × Int)) (j : Nat) : Int × Int := fs.getD j (0, 0)
/-- The digits that show the cell at a place. -/
def chA (fs : List (Int × Int)) (l : List Int) (j : Nat) : List Int := digs (fA fs j).1 (fA fs j).2 (l.getD j 0)
def chK (fs : List (Int × Int)) (l : List Int) (k : Nat) : List (List Int) := (List.range k).map (chA fs l)
theorem chK_succ (fs : List (Int × Int)) (l : List Int) (k : Nat) : chK fs l (k + 1) = chK fs l k ++ [chA fs l k] := by
  unfold chK; rw [List.range_succ, List.map_append]; rfl
theorem chK_len (fs : List (Int × Int)) (l : List Int) (k : Nat) : (chK fs l k).length = k := by simp [chK]
theorem chK_at (fs : List (Int × Int)) (l : List Int) {j k : Nat} (h : j < k) : (chK fs l k).getD j [] = chA fs l j := by simp [chK, h]
theorem chA_len (fs : List (Int × Int)) (l : List Int) (j : Nat) : (chA fs l j).length ≤ 10 := digs_len _ _ _
def NumsP (fs : List (Int × Int)) (l : List Int) : Prop := FaultsP fs l ∧ 0 < l.length
instance (fs : List (Int × Int)) (l : List Int) : Decidable (NumsP fs l) := by unfold NumsP; infer_instance
def cntN (fs : List (Int × Int)) (l : List Int) : Nat → Nat
  | 0 => 1
  | k + 1 => cntN fs l k * (chA fs l k).length
theorem cntN_le (fs : List (Int × Int)) (l : List Int) : ∀ k, cntN fs l k ≤ 10 ^ k
  | 0 => Nat.le_refl _
  | k + 1 => by
    rw [Nat.pow_succ]; exact Nat.mul_le_mul (cntN_le fs l k) (chA_len fs l k)
theorem cntN_6 (fs : List (Int × Int)) (l : List Int) {k : Nat} (h : k ≤ 6) : cntN fs l k ≤ 1000000 := Nat.le_trans (cntN_le fs l k) (Nat.pow_le_pow_right (by decide) h)
theorem cntN_m (fs : List (Int × Int)) (l : List Int) {k : Nat} (h : k ≤ 6) : 0 ≤ (cntN fs l k : Int) * ((chA fs l k).length : Int) ∧ (cntN fs l k : Int) * ((chA fs l k).length : Int) ≤ 10000000 := by
  have h1 := cntN_6 fs l h
  have h2 := chA_len fs l k
  have h3 := Nat.mul_le_mul h1 h2
  rw [← Int.natCast_mul]
  generalize cntN fs l k * (chA fs l k).length = m at h3
  omega
def FirstP (fs : List (Int × Int)) (l : List Int) : Prop := NumsP fs l ∧ ∀ j, j < l.length → chA fs l j ≠ []
instance (fs : List (Int × Int)) (l : List Int) : Decidable (FirstP fs l) := by unfold FirstP; infer_instance
def firK (fs : List (Int × Int)) (l : List Int) (k : Nat) : List Int := (List.range k).map fun j => (chA fs l j).getD 0 0
theorem firK_succ (fs : List (Int × Int)) (l : List Int) (k : Nat) : firK fs l (k + 1) = firK fs l k ++ [(chA fs l k).getD 0 0] := by
  unfold firK; rw [List.range_succ, List.map_append]; rfl
theorem firK_len (fs : List (Int × Int)) (l : List Int) (k : Nat) : (firK fs l k).length = k := by simp [firK]

set_option maxRecDepth 4000 in
set_option maxHeartbeats 1000000 in
theorem spec_CountNumbers (fs : List (Int × Int)) (l : List Int) (hf : fs.length ≤ 4611686018427387904) (hl : l.length ≤ 4611686018427387904) : PCalls Tryd.prog 13 [.sl fs.length (fl fs), .sl l.length (l.map (.int .i64))] (· = [.val (.int .i64 (if NumsP fs l then (cntN fs l l.length : Int) else 0)), .val (.bool (decide (NumsP fs l)))]) := by
  refine pcalls_of_code (n := 36) az Tryd.func13 (by kernel_rfl) rfl rfl (Nat.le_of_ble_eq_true rfl) (by intro t u h; simp [Tryd.f13] at h) ?_
  have hfl := fl_len fs
  have hfla := fl_flat fs
  refine code_seq (fun K1 hK1 => ?_)
  refine code_region ?_
  refine list_cons rfl (op_q (q_assign rfl (by decide)) ?_)
  refine list_cons rfl (op_q (q_assign rfl (by decide)) ?_)
  refine list_nil ?_
  refine hK1 _ ?_; clear hK1 K1
  refine code_seq (fun K2 hK2 => ?_)
  refine code_seq (fun K3 hK3 => ?_)
  refine code_region ?_
  refine list_cons rfl (op_q (q_move rfl (by decide)) ?_)
  refine list_cons rfl (op_q (q_move rfl (by decide)) ?_)
  refine list_cons rfl (op_call _ (spec_l3Faults _ _ (by omega) (by omega)) rfl rfl (by decide) (by decide) (by decide) rfl ?_)
  rintro _ rfl
  refine list_cons rfl (op_q (by first | exact q_notd rfl (by decide) | exact q_not rfl (by decide)) ?_)
  refine list_cons rfl (op_q (q_move rfl (by decide)) ?_)
  refine list_guard_d rfl rfl rfl rfl (by decide) rfl (by decide) (fun h1 => ?_) (fun h1 => ?_)
  · simp only [Bool.false_eq_true, if_true, if_false, Decidable.not_not] at h1
    refine id (op_q (q_move rfl (by decide)) ?_)
    refine list_guard_y rfl rfl rfl rfl (by decide) rfl ?_
    refine id (op_q (q_len_sl Tryd.underlying24 rfl rfl (by decide)) ?_)
    refine list_guard_y rfl rfl rfl rfl (by decide) rfl ?_
    refine id (op_q (q_eq rfl rfl (by decide)) ?_)
    refine list_cons rfl (op_q (q_pick rfl rfl (by decide)) ?_)
    refine list_nil ?_
    refine hK3 _ ?_; clear hK3 K3
    refine codeT.imp (σ' := [(0, _), (1, _), (4, _), (5, _), (16, _)]) ?_ (imp_covers ⟨rfl, rfl, rfl, rfl, rfl, trivial⟩)
    refine code_cond_d rfl (fun h2 => ?_) (fun h2 => ?_)
    · skip
      (try simp only [Decidable.not_not] at h2)
      refine code_seq (fun K4 hK4 => ?_)
      refine code_region ?_
      refine list_cons rfl (op_q (q_assign rfl (by decide)) ?_)
      refine list_cons rfl (op_q (q_assign rfl (by decide)) ?_)
      refine list_nil ?_
      refine hK4 _ ?_; clear hK4 K4
      refine code_ret ?_
      refine then_r ?_; clear hK2 K2
      refine ends_ret (cs := []) rfl rfl rfl rfl trivial ?_
      rw [if_neg (fun k : NumsP fs l => by have := k.2; omega), decide_eq_false (fun k : NumsP fs l => by have := k.2; omega)]
    · skip
      (try simp only [Decidable.not_not] at h2)
      refine code_skip ?_
      refine hK2 _ ?_; clear hK2 K2
      refine code_seq (fun K5 hK5 => ?_)
      refine code_region ?_
      refine list_cons rfl (op_q (q_assign rfl (by decide)) ?_)
      refine list_nil ?_
      refine hK5 _ ?_; clear hK5 K5
      refine code_seq (fun K6 hK6 => ?_)
      refine code_seq (fun K7 hK7 => ?_)
      refine code_region ?_
      refine list_cons rfl (op_q (q_assign rfl (by decide)) ?_)
      refine list_nil ?_
      refine hK7 _ ?_; clear hK7 K7
      refine code_block ?_
      refine code_loop (X := Int × Bool × Int × Int) (fun x => [(0, .par 0 (.sl fs.length (fl fs))), (1, .par 1 (.sl l.length (l.map (.int .i64)))), (4, .val (.int .i64 x.1)), (5, .val (.bool x.2.1)), (6, .val (.int .i64 x.2.2.1)), (7, .val (.int .i64 x.2.2.2))]) (fun x => 0 ≤ x.2.2.2 ∧ x.2.2.2 ≤ (l.length : Int) ∧ x.2.2.1 = (cntN fs l x.2.2.2.toNat : Int)) (fun x => l.length - x.2.2.2.toNat) (_, _, _, _) (imp_covers ⟨rfl, rfl, rfl, rfl, rfl, rfl, trivial⟩) ?_ ?_
      · (try dsimp only)
        exact ⟨by omega, by omega, rfl⟩
      · intro x hI
        obtain ⟨t4, t5, many, i⟩ := x
        replace hI : 0 ≤ i ∧ i ≤ (l.length : Int) ∧ many = (cntN fs l i.toNat : Int) := hI
        show codeT _ _ _ [(0, .par 0 (.sl fs.length (fl fs))), (1, .par 1 (.sl l.length (l.map (.int .i64)))), (4, .val (.int .i64 t4)), (5, .val (.bool t5)), (6, .val (.int .i64 many)), (7, .val (.int .i64 i))] _
        obtain ⟨i1, i2, rfl⟩ := hI
        have hll := h1.1
        have hl6 := h1.2.1.1
        have hcl := chA_len fs l i.toNat
        have hcm : i.toNat ≤ 6 → 0 ≤ (cntN fs l i.toNat : Int) * (((digs (fs.getD i.toNat (0, 0)).fst (fs.getD i.toNat (0, 0)).snd (l.getD i.toNat 0)).length : Nat) : Int) ∧ (cntN fs l i.toNat : Int) * (((digs (fs.getD i.toNat (0, 0)).fst (fs.getD i.toNat (0, 0)).snd (l.getD i.toNat 0)).length : Nat) : Int) ≤ 10000000 := fun h => cntN_m fs l h
        replace hcm := hcm (by omega)
        refine code_seq (fun K8 hK8 => ?_)
        refine code_seq (fun K9 hK9 => ?_)
        refine code_region ?_
        refine list_cons rfl (op_q (q_move rfl (by decide)) ?_)
        refine list_cons rfl (op_q (q_move rfl (by decide)) ?_)
        refine list_cons rfl (op_q (q_len_sl Tryd.underlying24 rfl rfl (by decide)) ?_)
        refine list_cons rfl (op_q (q_lt rfl rfl (by decide)) ?_)
        refine list_nil ?_
        refine hK9 _ ?_; clear hK9 K9
        refine code_cond_d rfl (fun h3 => ?_) (fun h3 => ?_)
        · skip
          (try simp only [Decidable.not_not] at h3)
          refine code_skip ?_
          refine hK8 _ ?_; clear hK8 K8
          refine code_seq (fun K10 hK10 => ?_)
          refine code_block ?_
          refine any_start fun ob1_0 => ?_
          refine any_op (rd := [6]) ob1_0 rfl rfl rfl (anyT_quiet [(6, _)] ⟨rfl, trivial⟩ rfl (q_move rfl (by decide))) (fun ob1_1 => ?_)
          refine any_op (rd := [0]) ob1_1 rfl rfl rfl (anyT_quiet [(0, _)] ⟨rfl, trivial⟩ rfl (q_move rfl (by decide))) (fun ob1_2 => ?_)
          refine any_op (rd := [7]) ob1_2 rfl rfl rfl (anyT_quiet [(7, _)] ⟨rfl, trivial⟩ rfl (q_move rfl (by decide))) (fun ob1_3 => ?_)
          refine any_op (rd := [24, 25]) ob1_3 rfl rfl rfl (anyT_quiet [(24, _), (25, _)] ⟨rfl, rfl, trivial⟩ rfl (q_indexAddr_rd sl_27 rfl (.inl ⟨_, rfl, rfl⟩) rfl (by omega) (by omega) (by decide))) (fun ob1_4 => ?_)
          refine any_op (rd := [26]) ob1_4 rfl rfl rfl (anyT_quiet [(26, _)] ⟨rfl, trivial⟩ rfl (q_load_rd_aggE agg_42 rfl (.inl ⟨_, rfl⟩) (by first | decide | omega | exact Nat.le_refl _ | (simp; done) | (simp; omega)) (fl_at fs i.toNat (by omega)) rfl (by decide))) (fun ob1_5 => ?_)
          refine any_op (rd := [1]) ob1_5 rfl rfl rfl (anyT_quiet [(1, _)] ⟨rfl, trivial⟩ rfl (q_move rfl (by decide))) (fun ob1_6 => ?_)
          refine any_op (rd := [7]) ob1_6 rfl rfl rfl (anyT_quiet [(7, _)] ⟨rfl, trivial⟩ rfl (q_move rfl (by decide))) (fun ob1_7 => ?_)
          refine any_op (rd := [28, 29]) ob1_7 rfl rfl rfl (anyT_quiet [(28, _), (29, _)] ⟨rfl, rfl, trivial⟩ rfl (q_indexAddr_rd sl_24 rfl (.inl ⟨_, rfl, rfl⟩) rfl (by omega) (by omega) (by decide))) (fun ob1_8 => ?_)
          refine any_op (rd := [30]) ob1_8 rfl rfl rfl (anyT_quiet [(30, _)] ⟨rfl, trivial⟩ rfl (q_load_rd one_3 rfl (.inl ⟨_, (by first | rfl | exact congrArg (SV.rpar _) (drop_map1 _ 0 _ (by first | omega | (simp; omega)))), rfl⟩) (by decide))) (fun ob1_9 => ?_)
          refine any_op (rd := [27, 31]) ob1_9 rfl rfl rfl (fun σ hag hfr => by have e27 : σ.at 27 = some _ := (hag 27 (by decide)).trans rfl; have e31 : σ.at 31 = some _ := (hag 31 (by decide)).trans rfl; exact op_call _ (spec_l3Digits _ _ _ (by have := (h1.at (j := i.toNat) (by have := h1.1; omega)).b; omega) (by have := (h1.at (j := i.toNat) (by have := h1.1; omega)).b; omega)) (evs_cons e27 (evs_cons e31 evs_nil)) rfl (by decide) (by decide) (by decide) hfr (fun rs hR => by subst hR; rfl)) (fun ob1_10 => ?_)
          refine any_op (rd := [32]) ob1_10 rfl rfl rfl (anyT_quiet [(32, _)] ⟨rfl, trivial⟩ rfl (q_len_sl Tryd.underlying24 rfl rfl (by decide))) (fun ob1_11 => ?_)
          refine any_end [[], [], [], [1, 2], [1, 2, 3], [], [], [5, 6], [5, 6, 7], [1, 2, 3, 4, 5, 6, 7, 8], [1, 2, 3, 4, 5, 6, 7, 8, 9], [0, 1, 2, 3, 4, 5, 6, 7, 8, 9, 10], [0, 1, 2, 3, 4, 5, 6, 7, 8, 9, 10, 11]] ob1_11 (by kernel_rfl) (Nat.le_of_ble_eq_true rfl) (by decide) (by decide) (by kernel_rfl) (by kernel_rfl) (by kernel_rfl) (by kernel_rfl) (by kernel_rfl) ?_
          clear ob1_0 ob1_1 ob1_2 ob1_3 ob1_4 ob1_5 ob1_6 ob1_7 ob1_8 ob1_9 ob1_10 ob1_11
          refine listT.imp (σ' := [(0, _), (1, _), (4, _), (5, _), (6, _), (7, _), (17, _), (18, _), (19, _), (20, _), (23, _), (24, _), (25, _), (26, _), (27, _), (28, _), (29, _), (30, _), (31, _), (32, _), (33, _)]) ?_ (imp_covers ⟨rfl, rfl, rfl, rfl, rfl, rfl, rfl, rfl, rfl, rfl, rfl, rfl, rfl, rfl, rfl, rfl, rfl, rfl, rfl, rfl, rfl, trivial⟩)
          refine list_cons rfl (op_q (by first | exact q_mulI rfl rfl (by decide) (by omega) (by omega) | exact q_ib rfl rfl rfl (by decide)) ?_)
          refine list_cons rfl (op_q (q_assign rfl (by decide)) ?_)
          refine list_nil ?_
          refine blk_n ?_
          refine hK10 _ ?_; clear hK10 K10
          refine codeT.imp (σ' := [(0, _), (1, _), (4, _), (5, _), (6, _), (7, _)]) ?_ (imp_covers ⟨rfl, rfl, rfl, rfl, rfl, rfl, trivial⟩)
          refine code_region ?_
          refine list_cons rfl (op_q (q_move rfl (by decide)) ?_)
          refine list_cons rfl (op_q (by first | exact q_addI rfl rfl (by decide) (by omega) (by omega) | exact q_ib rfl rfl rfl (by decide)) ?_)
          refine list_cons rfl (op_q (q_assign rfl (by decide)) ?_)
          refine list_nil ?_
          refine then_n ⟨(_, _, _, _), imp_covers ⟨rfl, rfl, rfl, rfl, rfl, rfl, trivial⟩, ?_, ?_⟩
          · (try dsimp only)
            refine ⟨by omega, by omega, ?_⟩
            rw [show (i + 1).toNat = i.toNat + 1 by omega, cntN, Int.natCast_mul]; rfl
          · (try dsimp only); omega
        · skip
          (try simp only [Decidable.not_not] at h3)
          refine code_exit ?_
          refine then_x ?_; clear hK8 K8
          refine then_x ?_
          refine blk_hit ?_
          refine hK6 _ ?_; clear hK6 K6
          refine code_seq (fun K11 hK11 => ?_)
          refine code_region ?_
          refine list_cons rfl (op_q (q_move rfl (by decide)) ?_)
          refine list_cons rfl (op_q (q_assign rfl (by decide)) ?_)
          refine list_cons rfl (op_q (q_assign rfl (by decide)) ?_)
          refine list_nil ?_
          refine hK11 _ ?_; clear hK11 K11
          refine code_ret ?_
          refine ends_ret (cs := []) rfl rfl rfl rfl trivial ?_
          have hn : NumsP fs l := ⟨h1, by omega⟩
          rw [if_pos hn, decide_eq_true hn, show i.toNat = l.length by omega]
  · simp only [Bool.false_eq_true, if_true, if_false, Decidable.not_not] at h1
    refine list_guard_n rfl rfl rfl rfl (by decide) rfl ?_
    refine list_guard_n rfl rfl rfl rfl (by decide) rfl ?_
    refine list_cons rfl (op_q (q_pick rfl rfl (by decide)) ?_)
    refine list_nil ?_
    refine hK3 _ ?_; clear hK3 K3
    refine code_cond_t rfl ?_
    refine code_seq (fun K12 hK12 => ?_)
    refine code_region ?_
    refine list_cons rfl (op_q (q_assign rfl (by decide)) ?_)
    refine list_cons rfl (op_q (q_assign rfl (by decide)) ?_)
    refine list_nil ?_
    refine hK12 _ ?_; clear hK12 K12
    refine code_ret ?_
    refine then_r ?_; clear hK2 K2
    refine ends_ret (cs := []) rfl rfl rfl rfl trivial ?_
    rw [if_neg (fun k : NumsP fs l => h1 k.1), decide_eq_false (fun k : NumsP fs l => h1 k.1)]

set_option maxRecDepth 4000 in
set_option maxHeartbeats 1000000 in
theorem spec_FirstNumber (fs : List (Int × Int)) (l : List Int) (hf : fs.length ≤ 4611686018427387904) (hl : l.length ≤ 4611686018427387904) : PCalls Tryd.prog 15 [.sl fs.length (fl fs), .sl l.length (l.map (.int .i64))] (· = [.own 0 3 1 (if FirstP fs l then firK fs l l.length else []).length ((if FirstP fs l then firK fs l l.length else []).map (.int .i64)), .val (.bool (decide (FirstP fs l)))]) := by
  refine pcalls_of_code (n := 46) az Tryd.func15 (by kernel_rfl) rfl rfl (Nat.le_of_ble_eq_true rfl) (by intro t u h; simp [Tryd.f15] at h) ?_
  have hfl := fl_len fs
  have hfla := fl_flat fs
  refine code_seq (fun K1 hK1 => ?_)
  refine code_region ?_
  refine list_cons rfl (op_q (q_assign rfl (by decide)) ?_)
  refine list_cons rfl (op_q (q_assign rfl (by decide)) ?_)
  refine list_nil ?_
  refine hK1 _ ?_; clear hK1 K1
  refine code_seq (fun K2 hK2 => ?_)
  refine code_seq (fun K3 hK3 => ?_)
  refine code_region ?_
  refine list_cons rfl (op_q (q_move rfl (by decide)) ?_)
  refine list_cons rfl (op_q (q_move rfl (by decide)) ?_)
  refine list_cons rfl (op_call _ (spec_l3Faults _ _ (by omega) (by omega)) rfl rfl (by decide) (by decide) (by decide) rfl ?_)
  rintro _ rfl
  refine list_cons rfl (op_q (by first | exact q_notd rfl (by decide) | exact q_not rfl (by decide)) ?_)
  refine list_cons rfl (op_q (q_move rfl (by decide)) ?_)
  refine list_guard_d rfl rfl rfl rfl (by decide) rfl (by decide) (fun h1 => ?_) (fun h1 => ?_)
  · simp only [Bool.false_eq_true, if_true, if_false, Decidable.not_not] at h1
    refine id (op_q (q_move rfl (by decide)) ?_)
    refine list_guard_y rfl rfl rfl rfl (by decide) rfl ?_
    refine id (op_q (q_len_sl Tryd.underlying24 rfl rfl (by decide)) ?_)
    refine list_guard_y rfl rfl rfl rfl (by decide) rfl ?_
    refine id (op_q (q_eq rfl rfl (by decide)) ?_)
    refine list_cons rfl (op_q (q_pick rfl rfl (by decide)) ?_)
    refine list_nil ?_
    refine hK3 _ ?_; clear hK3 K3
    refine codeT.imp (σ' := [(0, _), (1, _), (4, _), (5, _), (17, _)]) ?_ (imp_covers ⟨rfl, rfl, rfl, rfl, rfl, trivial⟩)
    refine code_cond_d rfl (fun h2 => ?_) (fun h2 => ?_)
    · skip
      (try simp only [Decidable.not_not] at h2)
      refine code_seq (fun K4 hK4 => ?_)
      refine code_region ?_
      refine list_cons rfl (op_buildSlice sl_24 (parts := []) rfl rfl rfl (by decide) (by decide) (by decide) rfl ?_)
      refine list_cons rfl (op_q (q_assign rfl (by decide)) ?_)
      refine list_cons rfl (op_q (q_assign rfl (by decide)) ?_)
      refine list_nil ?_
      refine hK4 _ ?_; clear hK4 K4
      refine code_ret ?_
      refine then_r ?_; clear hK2 K2
      refine ends_ret (cs := []) rfl rfl rfl rfl trivial ?_
      rw [if_neg (fun k : FirstP fs l => by have := k.1.2; omega), decide_eq_false (fun k : FirstP fs l => by have := k.1.2; omega)]; rfl
    · skip
      (try simp only [Decidable.not_not] at h2)
      refine code_skip ?_
      refine hK2 _ ?_; clear hK2 K2
      refine code_seq (fun K5 hK5 => ?_)
      refine code_region ?_
      refine list_cons rfl (op_buildSlice sl_24 (parts := []) rfl rfl rfl (by decide) (by decide) (by decide) rfl ?_)
      refine list_cons rfl (op_q (q_assign rfl (by decide)) ?_)
      refine list_nil ?_
      refine hK5 _ ?_; clear hK5 K5
      refine code_seq (fun K6 hK6 => ?_)
      refine code_seq (fun K7 hK7 => ?_)
      refine code_region ?_
      refine list_cons rfl (op_q (q_assign rfl (by decide)) ?_)
      refine list_nil ?_
      refine hK7 _ ?_; clear hK7 K7
      refine code_block ?_
      refine code_loop (X := PV × Bool × Nat × List PV × Int) (fun x => [(0, .par 0 (.sl fs.length (fl fs))), (1, .par 1 (.sl l.length (l.map (.int .i64)))), (4, .val x.1), (5, .val (.bool x.2.1)), (6, .own 19 3 1 x.2.2.1 x.2.2.2.1), (7, .val (.int .i64 x.2.2.2.2))]) (fun x => 0 ≤ x.2.2.2.2 ∧ x.2.2.2.2 ≤ (l.length : Int) ∧ ∃ o : List Int, x.2.2.1 = o.length ∧ x.2.2.2.1 = o.map (.int .i64) ∧ o = firK fs l x.2.2.2.2.toNat ∧ ∀ j, j < x.2.2.2.2.toNat → chA fs l j ≠ []) (fun x => l.length - x.2.2.2.2.toNat) (_, _, _, _, _) (imp_covers ⟨rfl, rfl, rfl, rfl, rfl, rfl, trivial⟩) ?_ ?_
      · (try dsimp only)
        exact ⟨by omega, by omega, [], rfl, rfl, rfl, fun j hj => absurd hj (Nat.not_lt_zero j)⟩
      · intro x hI
        obtain ⟨t4_p, t5, out_n, out_c, i⟩ := x
        replace hI : 0 ≤ i ∧ i ≤ (l.length : Int) ∧ ∃ o : List Int, out_n = o.length ∧ out_c = o.map (.int .i64) ∧ o = firK fs l i.toNat ∧ ∀ j, j < i.toNat → chA fs l j ≠ [] := hI
        show codeT _ _ _ [(0, .par 0 (.sl fs.length (fl fs))), (1, .par 1 (.sl l.length (l.map (.int .i64)))), (4, .val t4_p), (5, .val (.bool t5)), (6, .own 19 3 1 out_n out_c), (7, .val (.int .i64 i))] _
        obtain ⟨i1, i2, o, rfl, rfl, i3, i4⟩ := hI
        have ho := firK_len fs l i.toNat
        rw [← i3] at ho
        have hll := h1.1
        have hl6 := h1.2.1.1
        have hcl := chA_len fs l i.toNat
        refine code_seq (fun K8 hK8 => ?_)
        refine code_seq (fun K9 hK9 => ?_)
        refine code_region ?_
        refine list_cons rfl (op_q (q_move rfl (by decide)) ?_)
        refine list_cons rfl (op_q (q_move rfl (by decide)) ?_)
        refine list_cons rfl (op_q (q_len_sl Tryd.underlying24 rfl rfl (by decide)) ?_)
        refine list_cons rfl (op_q (q_lt rfl rfl (by decide)) ?_)
        refine list_nil ?_
        refine hK9 _ ?_; clear hK9 K9
        refine code_cond_d rfl (fun h3 => ?_) (fun h3 => ?_)
        · skip
          (try simp only [Decidable.not_not] at h3)
          refine code_skip ?_
          refine hK8 _ ?_; clear hK8 K8
          refine code_seq (fun K10 hK10 => ?_)
          refine code_block ?_
          refine code_seq (fun K11 hK11 => ?_)
          refine any_start fun ob2_0 => ?_
          refine any_op (rd := [0]) ob2_0 rfl rfl rfl (anyT_quiet [(0, _)] ⟨rfl, trivial⟩ rfl (q_move rfl (by decide))) (fun ob2_1 => ?_)
          refine any_op (rd := [7]) ob2_1 rfl rfl rfl (anyT_quiet [(7, _)] ⟨rfl, trivial⟩ rfl (q_move rfl (by decide))) (fun ob2_2 => ?_)
          refine any_op (rd := [26, 27]) ob2_2 rfl rfl rfl (anyT_quiet [(26, _), (27, _)] ⟨rfl, rfl, trivial⟩ rfl (q_indexAddr_rd sl_27 rfl (.inl ⟨_, rfl, rfl⟩) rfl (by omega) (by omega) (by decide))) (fun ob2_3 => ?_)
          refine any_op (rd := [28]) ob2_3 rfl rfl rfl (anyT_quiet [(28, _)] ⟨rfl, trivial⟩ rfl (q_load_rd_aggE agg_42 rfl (.inl ⟨_, rfl⟩) (by first | decide | omega | exact Nat.le_refl _ | (simp; done) | (simp; omega)) (fl_at fs i.toNat (by omega)) rfl (by decide))) (fun ob2_4 => ?_)
          refine any_op (rd := [1]) ob2_4 rfl rfl rfl (anyT_quiet [(1, _)] ⟨rfl, trivial⟩ rfl (q_move rfl (by decide))) (fun ob2_5 => ?_)
          refine any_op (rd := [7]) ob2_5 rfl rfl rfl (anyT_quiet [(7, _)] ⟨rfl, trivial⟩ rfl (q_move rfl (by decide))) (fun ob2_6 => ?_)
          refine any_op (rd := [30, 31]) ob2_6 rfl rfl rfl (anyT_quiet [(30, _), (31, _)] ⟨rfl, rfl, trivial⟩ rfl (q_indexAddr_rd sl_24 rfl (.inl ⟨_, rfl, rfl⟩) rfl (by omega) (by omega) (by decide))) (fun ob2_7 => ?_)
          refine any_op (rd := [32]) ob2_7 rfl rfl rfl (anyT_quiet [(32, _)] ⟨rfl, trivial⟩ rfl (q_load_rd one_3 rfl (.inl ⟨_, (by first | rfl | exact congrArg (SV.rpar _) (drop_map1 _ 0 _ (by first | omega | (simp; omega)))), rfl⟩) (by decide))) (fun ob2_8 => ?_)
          refine any_end [[], [], [0, 1], [0, 1, 2], [], [], [4, 5], [4, 5, 6], [0, 1, 2, 3, 4, 5, 6, 7], [0, 1, 2, 3, 4, 5, 6, 7, 8]] ob2_8 (by kernel_rfl) (Nat.le_of_ble_eq_true rfl) (by decide) (by decide) (by kernel_rfl) (by kernel_rfl) (by kernel_rfl) (by kernel_rfl) (by kernel_rfl) ?_
          clear ob2_0 ob2_1 ob2_2 ob2_3 ob2_4 ob2_5 ob2_6 ob2_7 ob2_8
          refine listT.imp (σ' := [(0, _), (1, _), (4, _), (5, _), (6, _), (7, _), (20, _), (21, _), (22, _), (23, _), (26, _), (27, _), (28, _), (29, _), (30, _), (31, _), (32, _), (33, _)]) ?_ (imp_covers ⟨rfl, rfl, rfl, rfl, rfl, rfl, rfl, rfl, rfl, rfl, rfl, rfl, rfl, rfl, rfl, rfl, rfl, rfl, trivial⟩)
          refine list_cons rfl (op_call _ (spec_l3Digits _ _ _ (by have := (h1.at (j := i.toNat) (by have := h1.1; omega)).b; omega) (by have := (h1.at (j := i.toNat) (by have := h1.1; omega)).b; omega)) rfl rfl (by decide) (by decide) (by decide) rfl ?_)
          rintro _ rfl
          refine list_cons rfl (op_q (q_assign rfl (by decide)) ?_)
          refine list_nil ?_
          refine hK11 _ ?_; clear hK11 K11
          refine codeT.imp (σ' := [(0, _), (1, _), (4, _), (5, _), (6, _), (7, _), (8, _)]) ?_ (imp_covers ⟨rfl, rfl, rfl, rfl, rfl, rfl, rfl, trivial⟩)
          refine code_seq (fun K12 hK12 => ?_)
          refine code_seq (fun K13 hK13 => ?_)
          refine code_region ?_
          refine list_cons rfl (op_q (q_move rfl (by decide)) ?_)
          refine list_cons rfl (op_q (q_len_sl Tryd.underlying24 rfl rfl (by decide)) ?_)
          refine list_cons rfl (op_q (q_eq rfl rfl (by decide)) ?_)
          refine list_nil ?_
          refine hK13 _ ?_; clear hK13 K13
          refine code_cond_d rfl (fun h4 => ?_) (fun h4 => ?_)
          · skip
            (try simp only [Decidable.not_not] at h4)
            refine code_seq (fun K14 hK14 => ?_)
            refine code_region ?_
            refine list_cons rfl (op_buildSlice sl_24 (parts := []) rfl rfl rfl (by decide) (by decide) (by decide) rfl ?_)
            refine list_cons rfl (op_q (q_assign rfl (by decide)) ?_)
            refine list_cons rfl (op_q (q_assign rfl (by decide)) ?_)
            refine list_nil ?_
            refine hK14 _ ?_; clear hK14 K14
            refine code_ret ?_
            refine then_r ?_; clear hK12 K12
            refine blk_r ?_
            refine then_r ?_; clear hK10 K10
            refine then_r ?_
            refine blk_r ?_
            refine then_r ?_; clear hK6 K6
            refine ends_ret (cs := []) rfl rfl rfl rfl trivial ?_
            have hz : ¬ FirstP fs l := fun k => k.2 i.toNat (by omega) (List.eq_nil_of_length_eq_zero (by have h5 : ((chA fs l i.toNat).length : Int) = 0 := h4
                                                                                                          omega))
            rw [if_neg hz, decide_eq_false hz]; rfl
          · skip
            (try simp only [Decidable.not_not] at h4)
            refine code_skip ?_
            refine hK12 _ ?_; clear hK12 K12
            refine code_region ?_
            refine list_cons rfl (op_q (q_move rfl (by decide)) ?_)
            refine list_cons rfl (op_q (q_move rfl (by decide)) ?_)
            refine list_cons rfl (op_q (q_indexAddr_own sl_24 rfl rfl (by omega) (by omega) (by decide)) ?_)
            refine list_cons rfl (op_q (q_load one_3 8 rfl rfl rfl (by first | rfl | exact get_map1 _ 0 _ (by first | omega | (simp; omega))) (by decide)) ?_)
            refine list_cons rfl (op_buildSlice sl_24 (parts := [(0, .tmp 42)]) rfl rfl rfl (by decide) (by decide) (by decide) rfl ?_)
            refine list_cons rfl (op_append_gen sl_24 (l := 19) (.inl rfl) rfl rfl (l2 := none) (.inl ⟨rfl, (by first | rfl | exact flat_map _ (fun _ => rfl) _)⟩) (by first | rfl | simp | omega) (by omega) (by decide) (by decide) (by decide) ?_)
            refine list_cons rfl (op_q (q_assign rfl (by decide)) ?_)
            refine list_nil ?_
            refine blk_n ?_
            refine hK10 _ ?_; clear hK10 K10
            refine codeT.imp (σ' := [(0, _), (1, _), (4, _), (5, _), (6, _), (7, _), (8, _)]) ?_ (imp_covers ⟨rfl, rfl, rfl, rfl, rfl, rfl, rfl, trivial⟩)
            refine code_region ?_
            refine list_cons rfl (op_q (q_move rfl (by decide)) ?_)
            refine list_cons rfl (op_q (by first | exact q_addI rfl rfl (by decide) (by omega) (by omega) | exact q_ib rfl rfl rfl (by decide)) ?_)
            refine list_cons rfl (op_q (q_assign rfl (by decide)) ?_)
            refine list_nil ?_
            refine then_n ⟨(_, _, _, _, _), imp_covers ⟨rfl, rfl, rfl, rfl, rfl, rfl, trivial⟩, ?_, ?_⟩
            · (try dsimp only)
              refine ⟨by omega, by omega, o ++ [(chA fs l i.toNat).getD 0 0], by simp, ?_, ?_, fun j hj => ?_⟩
              · rw [List.map_append]; rfl
              · rw [show (i + 1).toNat = i.toNat + 1 by omega, firK_succ, ← i3]
              · by_cases e : j = i.toNat
                · subst e; intro k; exact h4 (by have k2 : (chA fs l i.toNat).length = 0 := by rw [k]; rfl
                                                 exact congrArg (fun n : Nat => (n : Int)) k2)
                · exact i4 j (by omega)
            · (try dsimp only); omega
        · skip
          (try simp only [Decidable.not_not] at h3)
          refine code_exit ?_
          refine then_x ?_; clear hK8 K8
          refine then_x ?_
          refine blk_hit ?_
          refine hK6 _ ?_; clear hK6 K6
          refine code_seq (fun K15 hK15 => ?_)
          refine code_region ?_
          refine list_cons rfl (op_q (q_move rfl (by decide)) ?_)
          refine list_cons rfl (op_q (q_assign rfl (by decide)) ?_)
          refine list_cons rfl (op_q (q_assign rfl (by decide)) ?_)
          refine list_nil ?_
          refine hK15 _ ?_; clear hK15 K15
          refine code_ret ?_
          refine ends_ret (cs := []) rfl rfl rfl rfl trivial ?_
          have hn : FirstP fs l := ⟨⟨h1, by omega⟩, fun j hj => i4 j (by omega)⟩
          rw [if_pos hn, decide_eq_true hn, show l.length = i.toNat by omega, ← i3]
  · simp only [Bool.false_eq_true, if_true, if_false, Decidable.not_not] at h1
    refine list_guard_n rfl rfl rfl rfl (by decide) rfl ?_
    refine list_guard_n rfl rfl rfl rfl (by decide) rfl ?_
    refine list_cons rfl (op_q (q_pick rfl rfl (by decide)) ?_)
    refine list_nil ?_
    refine hK3 _ ?_; clear hK3 K3
    refine code_cond_t rfl ?_
    refine code_seq (fun K16 hK16 => ?_)
    refine code_region ?_
    refine list_cons rfl (op_buildSlice sl_24 (parts := []) rfl rfl rfl (by decide) (by decide) (by decide) rfl ?_)
    refine list_cons rfl (op_q (q_assign rfl (by decide)) ?_)
    refine list_cons rfl (op_q (q_assign rfl (by decide)) ?_)
    refine list_nil ?_
    refine hK16 _ ?_; clear hK16 K16
    refine codeT.imp (σ' := [(0, _), (1, _), (4, _), (5, _)]) ?_ (imp_covers ⟨rfl, rfl, rfl, rfl, trivial⟩)
    refine code_ret ?_
    refine then_r ?_; clear hK2 K2
    refine ends_ret (cs := []) rfl rfl rfl rfl trivial ?_
    rw [if_neg (fun k : FirstP fs l => h1 k.1.1), decide_eq_false (fun k : FirstP fs l => h1 k.1.1)]; rfl

end Go.Proofs.YtjbbijlbenkgcaaDoor
namespace Go.Proofs.YtjbbijlbenkgcaaDoor.Im3hTy
open Go.RowKit

def az (u : TypeId) : Nat := match u with | 42 => 2 | _ => 0

theorem sl_86 : SlTy Tryd.prog 86 24 1 24 [.sl 0 []] := slTy_of Tryd.underlying86 (z := .slice none 0 0) (by kernel_rfl) rfl (by decide) (by decide) rfl
theorem sl_27 : SlTy Tryd.prog 27 42 2 16 [.int .i64 0, .int .i64 0] := slTy_of Tryd.underlying27 (z := .agg #[.int .i64 0, .int .i64 0]) (by kernel_rfl) rfl (by decide) (by decide) rfl
theorem agg_42 : AggTy Tryd.prog 42 2 := aggTy_of Tryd.underlying42 rfl (by kernel_rfl)
theorem zt_42 : ZeroTy Tryd.prog 42 [.int .i64 0, .int .i64 0] := zeroTy_of (z := .agg #[.int .i64 0, .int .i64 0]) (by kernel_rfl) rfl
theorem sl_24 : SlTy Tryd.prog 24 3 1 8 [.int .i64 0] := slTy_of Tryd.underlying24 (z := .int .i64 0) (by kernel_rfl) rfl (by decide) (by decide) rfl
theorem one_3 : OneTy Tryd.prog 3 := oneTy_of Tryd.underlying3 rfl (by kernel_rfl)
theorem one_24 : OneTy Tryd.prog 24 := oneTy_of Tryd.underlying24 rfl (by kernel_rfl)

end Go.Proofs.YtjbbijlbenkgcaaDoor.Im3hTy
namespace Go.Proofs.YtjbbijlbenkgcaaDoor
open Go.RowKit Im3hTy
set_option linter.unusedVariables false
set_option linter.unusedSimpArgs false

def chZ (fs : List (Int × Int)) (l : List Int) (k : Nat) : List PV := slI (chK fs l k) ++ List.replicate (l.length - k) (.sl 0 [])
theorem chZ_len (fs : List (Int × Int)) (l : List Int) {k : Nat} (h : k ≤ l.length) : (chZ fs l k).length = l.length := by
  unfold chZ; rw [List.length_append, slI_len, chK_len, List.length_replicate]; omega
theorem chZ_put (fs : List (Int × Int)) (l : List Int) {k : Nat} (h : k < l.length) : putAt (chZ fs l k) (k * 1) [.sl (chA fs l k).length ((chA fs l k).map (.int .i64))] = chZ fs l (k + 1) := by
  have e := put_map1 (fun p : PV => p) (chZ fs l k) (k := k) (v := .sl (chA fs l k).length ((chA fs l k).map (.int .i64))) (by rw [chZ_len fs l (by omega)]; omega)
  rw [List.map_id'] at e
  rw [e, List.map_id']
  unfold chZ
  rw [List.set_append_right _ _ (by rw [slI_len, chK_len]; omega), slI_len, chK_len, Nat.sub_self, show l.length - k = (l.length - (k + 1)) + 1 by omega, List.replicate_succ, List.set_cons_zero, chK_succ]
  unfold slI; rw [List.map_append, List.append_assoc]; rfl
theorem chZ_zero (fs : List (Int × Int)) (l : List Int) : zeros [PV.sl 0 []] l.length = chZ fs l 0 := by
  have := zeros_map1 (fun p : PV => p) (.sl 0 []) l.length
  rw [List.map_id'] at this
  rw [this]; simp [chZ, chK, slI]
theorem chZ_end (fs : List (Int × Int)) (l : List Int) : chZ fs l l.length = slI (chK fs l l.length) := by
  unfold chZ; simp
theorem slI_at (gs : List (List Int)) {j : Nat} (h : j < gs.length) : (slI gs)[j]? = some (.sl (gs.getD j []).length ((gs.getD j []).map (.int .i64))) := by
  unfold slI; simp [h]
def firZ (fs : List (Int × Int)) (l : List Int) (k : Nat) : List Int := firK fs l k ++ List.replicate (l.length - k) 0
theorem firZ_len (fs : List (Int × Int)) (l : List Int) {k : Nat} (h : k ≤ l.length) : (firZ fs l k).length = l.length := by
  unfold firZ; rw [List.length_append, firK_len, List.length_replicate]; omega
theorem firZ_put (fs : List (Int × Int)) (l : List Int) {k : Nat} (h : k < l.length) : putAt ((firZ fs l k).map (.int .i64)) (k * 1) [PV.int .i64 ((chA fs l k).getD 0 0)] = (firZ fs l (k + 1)).map (.int .i64) := by
  rw [put_map1 (PV.int .i64) _ (by rw [firZ_len fs l (by omega)]; omega)]
  congr 1
  unfold firZ
  rw [List.set_append_right _ _ (by rw [firK_len]; omega), firK_len, Nat.sub_self, show l.length - k = (l.length - (k + 1)) + 1 by omega, List.replicate_succ, List.set_cons_zero, firK_succ, List.append_assoc]
  rfl
theorem firZ_end (fs : List (Int × Int)) (l : List Int) : firZ fs l l.length = firK fs l l.length := by unfold firZ; simp

set_option maxRecDepth 4000 in
set_option maxHeartbeats 1000000 in
theorem impl_choicesOf (fs : List (Int × Int)) (l : List Int) (hf : fs.length ≤ 4611686018427387904) (hl : l.length ≤ 4611686018427387904) : PCalls Tryd.prog 81 [.sl fs.length (fl fs), .sl l.length (l.map (.int .i64))] (fun rs => (NumsP fs l ∧ rs = [.own 0 24 1 (chK fs l l.length).length (slI (chK fs l l.length)), .val (.bool true)]) ∨ (¬ NumsP fs l ∧ rs = [.val (.sl 0 []), .val (.bool false)])) := by
  refine pcalls_of_code (n := 53) az Tryd.func81 (by kernel_rfl) rfl rfl (Nat.le_of_ble_eq_true rfl) (by intro t u h; simp [Tryd.f81] at h) ?_
  have hfl := fl_len fs
  have hfla := fl_flat fs
  refine code_seq (fun K1 hK1 => ?_)
  refine code_region ?_
  refine list_cons rfl (op_q (q_assign rfl (by decide)) ?_)
  refine list_cons rfl (op_q (q_assign rfl (by decide)) ?_)
  refine list_nil ?_
  refine hK1 _ ?_; clear hK1 K1
  refine code_seq (fun K2 hK2 => ?_)
  refine code_seq (fun K3 hK3 => ?_)
  refine code_region ?_
  refine list_cons rfl (op_q (q_move rfl (by decide)) ?_)
  refine list_cons rfl (op_call _ (impl_IsRow _ (by first | omega | (simp; omega))) rfl rfl (by decide) (by decide) (by decide) rfl ?_)
  rintro _ rfl
  refine list_cons rfl (op_q (by first | exact q_notd rfl (by decide) | exact q_not rfl (by decide)) ?_)
  refine list_cons rfl (op_q (q_move rfl (by decide)) ?_)
  refine list_guard_d rfl rfl rfl rfl (by decide) rfl (by decide) (fun h1 => ?_) (fun h1 => ?_)
  · simp only [Bool.false_eq_true, if_true, if_false, Decidable.not_not] at h1
    (try simp only [Decidable.not_not] at h1); (try have qlh1 := (h1 : RowP l).1)
    refine id (op_q (q_move rfl (by decide)) ?_)
    refine list_guard_y rfl rfl rfl rfl (by decide) rfl ?_
    refine id (op_q (q_len_sl Tryd.underlying24 rfl rfl (by decide)) ?_)
    refine list_guard_y rfl rfl rfl rfl (by decide) rfl ?_
    refine id (op_q (q_eq rfl rfl (by decide)) ?_)
    refine list_cons rfl (op_q (q_pick rfl rfl (by decide)) ?_)
    refine list_cons rfl (op_q (q_move rfl (by decide)) ?_)
    refine list_guard_d rfl rfl rfl rfl (by decide) rfl (by decide) (fun h2 => ?_) (fun h2 => ?_)
    · simp only [Bool.false_eq_true, if_true, if_false, Decidable.not_not] at h2
      (try simp only [Decidable.not_not] at h2); (try have qlh2 := (h2 : RowP l).1)
      refine id (op_q (q_move rfl (by decide)) ?_)
      refine list_guard_y rfl rfl rfl rfl (by decide) rfl ?_
      refine id (op_q (q_len_sl Tryd.underlying27 rfl rfl (by decide)) ?_)
      refine list_guard_y rfl rfl rfl rfl (by decide) rfl ?_
      refine id (op_q (q_move rfl (by decide)) ?_)
      refine list_guard_y rfl rfl rfl rfl (by decide) rfl ?_
      refine id (op_q (q_len_sl Tryd.underlying24 rfl rfl (by decide)) ?_)
      refine list_guard_y rfl rfl rfl rfl (by decide) rfl ?_
      refine id (op_q (q_ne rfl rfl (by decide)) ?_)
      refine list_cons rfl (op_q (q_pick rfl rfl (by decide)) ?_)
      refine list_nil ?_
      refine hK3 _ ?_; clear hK3 K3
      refine codeT.imp (σ' := [(0, _), (1, _), (4, _), (5, _), (25, _)]) ?_ (imp_covers ⟨rfl, rfl, rfl, rfl, rfl, trivial⟩)
      refine code_cond_d rfl (fun h3 => ?_) (fun h3 => ?_)
      · skip
        (try simp only [Decidable.not_not] at h3); (try have qlh3 := (h3 : RowP l).1)
        refine code_seq (fun K4 hK4 => ?_)
        refine code_region ?_
        refine list_cons rfl (op_q (q_assign rfl (by decide)) ?_)
        refine list_cons rfl (op_q (q_assign rfl (by decide)) ?_)
        refine list_nil ?_
        refine hK4 _ ?_; clear hK4 K4
        refine code_ret ?_
        refine then_r ?_; clear hK2 K2
        refine ends_ret (cs := []) rfl rfl rfl rfl trivial ?_
        exact .inr ⟨fun k => h3 (by have := k.1.1; omega), rfl⟩
      · skip
        (try simp only [Decidable.not_not] at h3); (try have qlh3 := (h3 : RowP l).1)
        refine code_skip ?_
        refine hK2 _ ?_; clear hK2 K2
        refine code_seq (fun K5 hK5 => ?_)
        refine code_region ?_
        refine list_cons rfl (op_q (q_move rfl (by decide)) ?_)
        refine list_cons rfl (op_q (q_len_sl Tryd.underlying24 rfl rfl (by decide)) ?_)
        refine list_cons rfl (op_make sl_86 rfl rfl (by omega) (by decide) (by decide) rfl ?_)
        refine list_cons rfl (op_q (q_assign rfl (by decide)) ?_)
        refine list_nil ?_
        refine hK5 _ ?_; clear hK5 K5
        refine code_seq (fun K6 hK6 => ?_)
        refine code_seq (fun K7 hK7 => ?_)
        refine code_region ?_
        refine list_cons rfl (op_q (q_move rfl (by decide)) ?_)
        refine list_cons rfl (op_q (q_len_sl Tryd.underlying27 rfl rfl (by decide)) ?_)
        refine list_cons rfl (op_q (q_move rfl (by decide)) ?_)
        refine list_nil ?_
        refine hK7 _ ?_; clear hK7 K7
        refine code_block ?_
        refine code_loop (X := PV × Bool × Nat × List PV × Int) (fun x => [(0, .par 0 (.sl fs.length (fl fs))), (1, .par 1 (.sl l.length (l.map (.int .i64)))), (4, .val x.1), (5, .val (.bool x.2.1)), (6, .own 28 24 1 x.2.2.1 x.2.2.2.1), (29, .par 0 (.sl fs.length (fl fs))), (30, .val (.int .i64 fs.length)), (31, .val (.int .i64 x.2.2.2.2))]) (fun x => 0 ≤ x.2.2.2.2 ∧ x.2.2.2.2 ≤ (fs.length : Int) ∧ x.2.2.1 = l.length ∧ x.2.2.2.1 = chZ fs l x.2.2.2.2.toNat ∧ ∀ j, j < x.2.2.2.2.toNat → FaultP (fs.getD j (0, 0)).1 (fs.getD j (0, 0)).2) (fun x => fs.length - x.2.2.2.2.toNat) (_, _, _, _, _) (imp_covers ⟨rfl, rfl, rfl, rfl, rfl, rfl, rfl, rfl, trivial⟩) ?_ ?_
        · (try dsimp only)
          exact ⟨by omega, by omega, rfl, chZ_zero fs l, fun j hj => absurd hj (Nat.not_lt_zero j)⟩
        · intro x hI
          obtain ⟨t4_p, t5, choices_n, choices_c, t31⟩ := x
          replace hI : 0 ≤ t31 ∧ t31 ≤ (fs.length : Int) ∧ choices_n = l.length ∧ choices_c = chZ fs l t31.toNat ∧ ∀ j, j < t31.toNat → FaultP (fs.getD j (0, 0)).1 (fs.getD j (0, 0)).2 := hI
          show codeT _ _ _ [(0, .par 0 (.sl fs.length (fl fs))), (1, .par 1 (.sl l.length (l.map (.int .i64)))), (4, .val t4_p), (5, .val (.bool t5)), (6, .own 28 24 1 choices_n choices_c), (29, .par 0 (.sl fs.length (fl fs))), (30, .val (.int .i64 fs.length)), (31, .val (.int .i64 t31))] _
          obtain ⟨i1, i2, rfl, rfl, i5⟩ := hI
          have hzl := chZ_len fs l (k := t31.toNat) (by omega)
          refine code_seq (fun K8 hK8 => ?_)
          refine code_region ?_
          refine list_cons rfl (op_q (q_lt rfl rfl (by decide)) ?_)
          refine list_nil ?_
          refine hK8 _ ?_; clear hK8 K8
          refine code_seq (fun K9 hK9 => ?_)
          refine code_cond_d rfl (fun h4 => ?_) (fun h4 => ?_)
          · skip
            (try simp only [Decidable.not_not] at h4); (try have qlh4 := (h4 : RowP l).1)
            refine code_skip ?_
            refine hK9 _ ?_; clear hK9 K9
            refine code_seq (fun K10 hK10 => ?_)
            refine code_block ?_
            refine code_seq (fun K11 hK11 => ?_)
            refine code_region ?_
            refine list_cons rfl (op_q (q_move rfl (by decide)) ?_)
            refine list_cons rfl (op_q (q_indexAddr_rd sl_27 rfl (.inl ⟨_, rfl, rfl⟩) rfl (by omega) (by omega) (by decide)) ?_)
            refine list_cons rfl (op_q (q_load_rd_aggE agg_42 rfl (.inl ⟨_, rfl⟩) (by first | decide | omega | exact Nat.le_refl _ | (simp; done) | (simp; omega)) (fl_at fs t31.toNat (by omega)) rfl (by decide)) ?_)
            refine list_cons rfl (op_alloc zt_42 (by decide) (by decide) rfl ?_)
            refine list_cons rfl (op_q (q_assign rfl (by decide)) ?_)
            refine list_cons rfl (op_store (agg_42).2 8 [8] (by intro t ht; simp only [List.mem_cons, List.not_mem_nil, or_false] at ht; subst ht; rfl) (.inr ⟨rfl, _, rfl⟩) rfl rfl rfl rfl (by first | rfl | exact flat_part (flat_map _ (fun _ => rfl) _) _ _ | exact flat_map _ (fun _ => rfl) _) (by first | rfl | (simp [PV.cells]; done)) (by first | decide | omega | (simp; omega)) (by decide) rfl ?_)
            refine list_nil ?_
            refine hK11 _ ?_; clear hK11 K11
            refine codeT.imp (σ' := [(0, _), (1, _), (4, _), (5, _), (6, _), (7, _), (8, _), (29, _), (30, _), (31, _)]) ?_ (imp_covers ⟨rfl, rfl, rfl, rfl, rfl, rfl, rfl, rfl, rfl, rfl, trivial⟩)
            refine code_seq (fun K12 hK12 => ?_)
            refine any_start fun ob1_0 => ?_
            refine any_op (rd := [8]) ob1_0 rfl rfl rfl (anyT_quiet [(8, _)] ⟨rfl, trivial⟩ rfl (q_load_agg agg_42 8 (.inr ⟨rfl, _, rfl⟩) rfl rfl (by first | decide | omega | exact Nat.le_refl _ | (simp; done) | (simp; omega)) (by first | rfl | exact flat_part (flat_map _ (fun _ => rfl) _) _ _) (by decide))) (fun ob1_1 => ?_)
            refine any_op (rd := [1]) ob1_1 rfl rfl rfl (anyT_quiet [(1, _)] ⟨rfl, trivial⟩ rfl (q_move rfl (by decide))) (fun ob1_2 => ?_)
            refine any_op (rd := [7]) ob1_2 rfl rfl rfl (anyT_quiet [(7, _)] ⟨rfl, trivial⟩ rfl (q_move rfl (by decide))) (fun ob1_3 => ?_)
            refine any_op (rd := [38, 39]) ob1_3 rfl rfl rfl (anyT_quiet [(38, _), (39, _)] ⟨rfl, rfl, trivial⟩ rfl (q_indexAddr_rd sl_24 rfl (.inl ⟨_, rfl, rfl⟩) rfl (by omega) (by omega) (by decide))) (fun ob1_4 => ?_)
            refine any_op (rd := [40]) ob1_4 rfl rfl rfl (anyT_quiet [(40, _)] ⟨rfl, trivial⟩ rfl (q_load_rd one_3 rfl (.inl ⟨_, (by first | rfl | exact congrArg (SV.rpar _) (drop_map1 _ 0 _ (by first | omega | (simp; omega)))), rfl⟩) (by decide))) (fun ob1_5 => ?_)
            refine any_op (rd := [37, 41]) ob1_5 rfl rfl rfl (fun σ hag hfr => by have e37 : σ.at 37 = some _ := (hag 37 (by decide)).trans rfl; have e41 : σ.at 41 = some _ := (hag 41 (by decide)).trans rfl; exact op_call _ (impl_DigitsShown _ _ _) (evs_cons e37 (evs_cons e41 evs_nil)) rfl (by decide) (by decide) (by decide) hfr (fun rs hR => by subst hR; rfl)) (fun ob1_6 => ?_)
            refine any_op (rd := [42]) ob1_6 rfl rfl rfl (anyT_quiet [(42, _)] ⟨rfl, trivial⟩ rfl (q_move rfl (by decide))) (fun ob1_7 => ?_)
            refine any_op (rd := [36]) ob1_7 rfl rfl rfl (anyT_quiet [(36, _)] ⟨rfl, trivial⟩ rfl (q_extract rfl rfl (by decide))) (fun ob1_8 => ?_)
            refine any_op (rd := [36]) ob1_8 rfl rfl rfl (anyT_quiet [(36, _)] ⟨rfl, trivial⟩ rfl (q_extract rfl rfl (by decide))) (fun ob1_9 => ?_)
            refine any_op (rd := [43]) ob1_9 rfl rfl rfl (anyT_quiet [(43, _)] ⟨rfl, trivial⟩ rfl (q_assign rfl (by decide))) (fun ob1_10 => ?_)
            refine any_end [[], [], [], [1, 2], [1, 2, 3], [0, 1, 2, 3, 4], [0, 1, 2, 3, 4, 5], [0, 1, 2, 3, 4, 5, 6], [0, 1, 2, 3, 4, 5, 6], [0, 1, 2, 3, 4, 5, 6, 7], [0, 1, 2, 3, 4, 5, 6, 7, 8, 9]] ob1_10 (by kernel_rfl) (Nat.le_of_ble_eq_true rfl) (by decide) (by decide) (by kernel_rfl) (by kernel_rfl) (by kernel_rfl) (by kernel_rfl) (by kernel_rfl) ?_
            clear ob1_0 ob1_1 ob1_2 ob1_3 ob1_4 ob1_5 ob1_6 ob1_7 ob1_8 ob1_9 ob1_10
            refine listT.imp (σ' := [(0, _), (1, _), (4, _), (5, _), (6, _), (7, _), (8, _), (9, _), (29, _), (30, _), (31, _), (36, _), (37, _), (38, _), (39, _), (40, _), (41, _), (42, _), (43, _), (44, _)]) ?_ (imp_covers ⟨rfl, rfl, rfl, rfl, rfl, rfl, rfl, rfl, rfl, rfl, rfl, rfl, rfl, rfl, rfl, rfl, rfl, rfl, rfl, rfl, trivial⟩)
            refine list_cons rfl (op_q (q_assign rfl (by decide)) ?_)
            refine list_nil ?_
            refine hK12 _ ?_; clear hK12 K12
            refine codeT.imp (σ' := [(0, _), (1, _), (4, _), (5, _), (6, _), (7, _), (8, _), (9, _), (10, _), (29, _), (30, _), (31, _)]) ?_ (imp_covers ⟨rfl, rfl, rfl, rfl, rfl, rfl, rfl, rfl, rfl, rfl, rfl, rfl, trivial⟩)
            refine code_seq (fun K13 hK13 => ?_)
            refine code_seq (fun K14 hK14 => ?_)
            refine code_region ?_
            refine list_cons rfl (op_q (q_move rfl (by decide)) ?_)
            refine list_cons rfl (op_q (by first | exact q_notd rfl (by decide) | exact q_not rfl (by decide)) ?_)
            refine list_nil ?_
            refine hK14 _ ?_; clear hK14 K14
            refine code_cond_d rfl (fun h5 => ?_) (fun h5 => ?_)
            · skip
              (try simp only [Decidable.not_not] at h5); (try have qlh5 := (h5 : RowP l).1)
              refine code_seq (fun K15 hK15 => ?_)
              refine code_region ?_
              refine list_cons rfl (op_q (q_assign rfl (by decide)) ?_)
              refine list_cons rfl (op_q (q_assign rfl (by decide)) ?_)
              refine list_nil ?_
              refine hK15 _ ?_; clear hK15 K15
              refine code_ret ?_
              refine then_r ?_; clear hK13 K13
              refine blk_r ?_
              refine then_r ?_; clear hK10 K10
              refine then_r ?_
              refine blk_r ?_
              refine then_r ?_; clear hK6 K6
              refine ends_ret (cs := []) rfl rfl rfl rfl trivial ?_
              exact .inr ⟨fun k => h5 ⟨k.1.at (by omega), k.1.2.1.at (by omega)⟩, rfl⟩
            · skip
              (try simp only [Decidable.not_not] at h5); (try have qlh5 := (h5 : RowP l).1)
              refine code_skip ?_
              refine hK13 _ ?_; clear hK13 K13
              refine code_region ?_
              refine list_cons rfl (op_q (q_move rfl (by decide)) ?_)
              refine list_cons rfl (op_q (q_move rfl (by decide)) ?_)
              refine list_cons rfl (op_q (q_move rfl (by decide)) ?_)
              refine list_cons rfl (op_q (q_indexAddr_own sl_86 rfl rfl (by omega) (by omega) (by decide)) ?_)
              refine list_cons rfl (opT.impY ?_ (imp_absorb (l := 28) (q := 42) (h := 6) (y := 49) (by decide) (by decide) rfl rfl (by intro e; have := congrArg List.length e; rw [hzl] at this; have t0 : l.length = 0 := this; omega) rfl))
              refine op_storeI (one_24).2 6 [6, 47] (by intro t ht; simp only [List.mem_cons, List.not_mem_nil, or_false] at ht; rcases ht with rfl | rfl <;> rfl) (.inl rfl) rfl rfl rfl (.inr rfl) rfl (by first | decide | omega | (simp; omega)) (by decide) rfl ?_
              refine list_nil ?_
              refine blk_n ?_
              refine hK10 _ ?_; clear hK10 K10
              refine codeT.imp (σ' := [(0, _), (1, _), (4, _), (5, _), (6, _), (7, _), (8, _), (9, _), (10, _), (29, _), (30, _), (31, _)]) ?_ (imp_covers ⟨rfl, rfl, rfl, rfl, rfl, rfl, rfl, rfl, rfl, rfl, rfl, rfl, trivial⟩)
              refine code_region ?_
              refine list_cons rfl (op_q (by first | exact q_addI rfl rfl (by decide) (by omega) (by omega) | exact q_ib rfl rfl rfl (by decide)) ?_)
              refine list_cons rfl (op_q (q_move rfl (by decide)) ?_)
              refine list_nil ?_
              refine then_n ⟨(_, _, _, _, _), imp_covers ⟨rfl, rfl, rfl, rfl, rfl, rfl, rfl, rfl, trivial⟩, ?_, ?_⟩
              · (try dsimp only)
                simp only [if_pos h5]
                refine ⟨by omega, by omega, by trivial, ?_, fun j hj => ?_⟩
                · rw [show (t31 + 1).toNat = t31.toNat + 1 by omega]
                  exact chZ_put fs l (by omega)
                · by_cases e : j = t31.toNat
                  · subst e; exact (h5).1
                  · exact i5 j (by omega)
              · (try dsimp only); omega
          · skip
            (try simp only [Decidable.not_not] at h4); (try have qlh4 := (h4 : RowP l).1)
            refine code_exit ?_
            refine then_x ?_; clear hK9 K9
            refine then_x ?_
            refine blk_hit ?_
            refine hK6 _ ?_; clear hK6 K6
            refine code_seq (fun K16 hK16 => ?_)
            refine code_region ?_
            refine list_cons rfl (op_q (q_move rfl (by decide)) ?_)
            refine list_cons rfl (op_q (q_assign rfl (by decide)) ?_)
            refine list_cons rfl (op_q (q_assign rfl (by decide)) ?_)
            refine list_nil ?_
            refine hK16 _ ?_; clear hK16 K16
            refine code_ret ?_
            refine ends_ret (cs := []) rfl rfl rfl rfl trivial ?_
            exact .inl ⟨⟨FaultsP.of (by omega) h1 (fun j hj => i5 j (by omega)), by omega⟩, by rw [chK_len, show t31.toNat = l.length by omega, chZ_end]⟩
    · simp only [Bool.false_eq_true, if_true, if_false, Decidable.not_not] at h2
      (try simp only [Decidable.not_not] at h2); (try have qlh2 := (h2 : RowP l).1)
      refine list_guard_n rfl rfl rfl rfl (by decide) rfl ?_
      refine list_guard_n rfl rfl rfl rfl (by decide) rfl ?_
      refine list_guard_n rfl rfl rfl rfl (by decide) rfl ?_
      refine list_guard_n rfl rfl rfl rfl (by decide) rfl ?_
      refine list_cons rfl (op_q (q_pick rfl rfl (by decide)) ?_)
      refine list_nil ?_
      refine hK3 _ ?_; clear hK3 K3
      refine codeT.imp (σ' := [(0, _), (1, _), (4, _), (5, _), (25, _)]) ?_ (imp_covers ⟨rfl, rfl, rfl, rfl, rfl, trivial⟩)
      refine code_cond_t rfl ?_
      refine code_seq (fun K17 hK17 => ?_)
      refine code_region ?_
      refine list_cons rfl (op_q (q_assign rfl (by decide)) ?_)
      refine list_cons rfl (op_q (q_assign rfl (by decide)) ?_)
      refine list_nil ?_
      refine hK17 _ ?_; clear hK17 K17
      refine code_ret ?_
      refine then_r ?_; clear hK2 K2
      refine ends_ret (cs := []) rfl rfl rfl rfl trivial ?_
      exact .inr ⟨fun k => by have := k.2; omega, rfl⟩
  · simp only [Bool.false_eq_true, if_true, if_false, Decidable.not_not] at h1
    (try simp only [Decidable.not_not] at h1); (try have qlh1 := (h1 : RowP l).1)
    refine list_guard_n rfl rfl rfl rfl (by decide) rfl ?_
    refine list_guard_n rfl rfl rfl rfl (by decide) rfl ?_
    refine list_cons rfl (op_q (q_pick rfl rfl (by decide)) ?_)
    refine list_cons rfl (op_q (q_move rfl (by decide)) ?_)
    refine list_guard_n rfl rfl rfl rfl (by decide) rfl ?_
    refine list_guard_n rfl rfl rfl rfl (by decide) rfl ?_
    refine list_guard_n rfl rfl rfl rfl (by decide) rfl ?_
    refine list_guard_n rfl rfl rfl rfl (by decide) rfl ?_
    refine list_guard_n rfl rfl rfl rfl (by decide) rfl ?_
    refine list_cons rfl (op_q (q_pick rfl rfl (by decide)) ?_)
    refine list_nil ?_
    refine hK3 _ ?_; clear hK3 K3
    refine code_cond_t rfl ?_
    refine code_seq (fun K18 hK18 => ?_)
    refine code_region ?_
    refine list_cons rfl (op_q (q_assign rfl (by decide)) ?_)
    refine list_cons rfl (op_q (q_assign rfl (by decide)) ?_)
    refine list_nil ?_
    refine hK18 _ ?_; clear hK18 K18
    refine codeT.imp (σ' := [(0, _), (1, _), (4, _), (5, _)]) ?_ (imp_covers ⟨rfl, rfl, rfl, rfl, trivial⟩)
    refine code_ret ?_
    refine then_r ?_; clear hK2 K2
    refine ends_ret (cs := []) rfl rfl rfl rfl trivial ?_
    exact .inr ⟨fun k => h1 k.1.2.1, rfl⟩

theorem impl_choicesOf_ok (fs : List (Int × Int)) (l : List Int) (hf : fs.length ≤ 4611686018427387904) (hl : l.length ≤ 4611686018427387904) (hN : NumsP fs l) : PCalls Tryd.prog 81 [.sl fs.length (fl fs), .sl l.length (l.map (.int .i64))] (· = [.own 0 24 1 (chK fs l l.length).length (slI (chK fs l l.length)), .val (.bool true)]) :=
  (impl_choicesOf fs l hf hl).mono fun rs h => h.elim (fun k => k.2) (fun k => absurd hN k.1)
theorem impl_choicesOf_bad (fs : List (Int × Int)) (l : List Int) (hf : fs.length ≤ 4611686018427387904) (hl : l.length ≤ 4611686018427387904) (hN : ¬ NumsP fs l) : PCalls Tryd.prog 81 [.sl fs.length (fl fs), .sl l.length (l.map (.int .i64))] (· = [.val (.sl 0 []), .val (.bool false)]) :=
  (impl_choicesOf fs l hf hl).mono fun rs h => h.elim (fun k => absurd k.1 hN) (fun k => k.2)

set_option maxRecDepth 4000 in
theorem impl_CountNumbers_ok (fs : List (Int × Int)) (l : List Int) (hf : fs.length ≤ 4611686018427387904) (hl : l.length ≤ 4611686018427387904) (hN : NumsP fs l) : PCalls Tryd.prog 12 [.sl fs.length (fl fs), .sl l.length (l.map (.int .i64))] (· = [.val (.int .i64 (if NumsP fs l then (cntN fs l l.length : Int) else 0)), .val (.bool (decide (NumsP fs l)))]) := by
  refine pcalls_of_code (n := 31) az Tryd.func12 (by kernel_rfl) rfl rfl (Nat.le_of_ble_eq_true rfl) (by intro t u h; simp [Tryd.f12] at h) ?_
  have hfl := fl_len fs
  have hfla := fl_flat fs
  have hll := hN.1.1
  have hl6 := hN.1.2.1.1
  have hkl := chK_len fs l l.length
  have hks := slI_len (chK fs l l.length)
  refine code_seq (fun K1 hK1 => ?_)
  refine code_region ?_
  refine list_cons rfl (op_q (q_assign rfl (by decide)) ?_)
  refine list_cons rfl (op_q (q_assign rfl (by decide)) ?_)
  refine list_nil ?_
  refine hK1 _ ?_; clear hK1 K1
  refine code_seq (fun K2 hK2 => ?_)
  refine code_region ?_
  refine list_cons rfl (op_q (q_move rfl (by decide)) ?_)
  refine list_cons rfl (op_q (q_move rfl (by decide)) ?_)
  refine list_cons rfl (op_call _ (impl_choicesOf_ok _ _ hf hl hN) rfl rfl (by decide) (by decide) (by decide) rfl ?_)
  rintro _ rfl
  refine list_cons rfl (op_q (q_move rfl (by decide)) ?_)
  refine list_cons rfl (op_q (q_extract rfl rfl (by decide)) ?_)
  refine list_cons rfl (op_q (q_extract rfl rfl (by decide)) ?_)
  refine list_cons rfl (op_q (q_assign rfl (by decide)) ?_)
  refine list_cons rfl (op_q (q_assign rfl (by decide)) ?_)
  refine list_nil ?_
  refine hK2 _ ?_; clear hK2 K2
  refine codeT.imp (σ' := [(0, _), (1, _), (4, _), (5, _), (6, _), (7, _)]) ?_ (imp_covers ⟨rfl, rfl, rfl, rfl, rfl, rfl, trivial⟩)
  refine code_seq (fun K3 hK3 => ?_)
  refine code_seq (fun K4 hK4 => ?_)
  refine code_region ?_
  refine list_cons rfl (op_q (q_move rfl (by decide)) ?_)
  refine list_cons rfl (op_q (by first | exact q_notd rfl (by decide) | exact q_not rfl (by decide)) ?_)
  refine list_nil ?_
  refine hK4 _ ?_; clear hK4 K4
  refine code_cond_f rfl ?_
  refine code_skip ?_
  refine hK3 _ ?_; clear hK3 K3
  refine code_seq (fun K5 hK5 => ?_)
  refine code_region ?_
  refine list_cons rfl (op_q (q_assign rfl (by decide)) ?_)
  refine list_nil ?_
  refine hK5 _ ?_; clear hK5 K5
  refine code_seq (fun K6 hK6 => ?_)
  refine code_seq (fun K7 hK7 => ?_)
  refine code_region ?_
  refine list_cons rfl (op_q (q_move rfl (by decide)) ?_)
  refine list_cons rfl (op_q (q_len_sl Tryd.underlying86 rfl rfl (by decide)) ?_)
  refine list_cons rfl (op_q (q_move rfl (by decide)) ?_)
  refine list_nil ?_
  refine hK7 _ ?_; clear hK7 K7
  refine code_block ?_
  refine code_loop (X := Int × Bool × Bool × Int × Int) (fun x => [(0, .par 0 (.sl fs.length (fl fs))), (1, .par 1 (.sl l.length (l.map (.int .i64)))), (4, .val (.int .i64 x.1)), (5, .val (.bool x.2.1)), (6, .own 14 24 1 (chK fs l l.length).length (slI (chK fs l l.length))), (7, .val (.bool x.2.2.1)), (8, .val (.int .i64 x.2.2.2.1)), (19, .own 14 24 1 (chK fs l l.length).length (slI (chK fs l l.length))), (20, .val (.int .i64 (chK fs l l.length).length)), (21, .val (.int .i64 x.2.2.2.2))]) (fun x => 0 ≤ x.2.2.2.2 ∧ x.2.2.2.2 ≤ (l.length : Int) ∧ x.2.2.2.1 = (cntN fs l x.2.2.2.2.toNat : Int)) (fun x => l.length - x.2.2.2.2.toNat) (_, _, _, _, _) (imp_covers ⟨rfl, rfl, rfl, rfl, rfl, rfl, rfl, rfl, rfl, rfl, trivial⟩) ?_ ?_
  · (try dsimp only)
    exact ⟨by omega, by omega, rfl⟩
  · intro x hI
    obtain ⟨t4, t5, ok, count, t21⟩ := x
    replace hI : 0 ≤ t21 ∧ t21 ≤ (l.length : Int) ∧ count = (cntN fs l t21.toNat : Int) := hI
    show codeT _ _ _ [(0, .par 0 (.sl fs.length (fl fs))), (1, .par 1 (.sl l.length (l.map (.int .i64)))), (4, .val (.int .i64 t4)), (5, .val (.bool t5)), (6, .own 14 24 1 (chK fs l l.length).length (slI (chK fs l l.length))), (7, .val (.bool ok)), (8, .val (.int .i64 count)), (19, .own 14 24 1 (chK fs l l.length).length (slI (chK fs l l.length))), (20, .val (.int .i64 (chK fs l l.length).length)), (21, .val (.int .i64 t21))] _
    obtain ⟨i1, i2, rfl⟩ := hI
    have hcm := cntN_m fs l (k := t21.toNat) (by omega)
    refine code_seq (fun K8 hK8 => ?_)
    refine code_region ?_
    refine list_cons rfl (op_q (q_lt rfl rfl (by decide)) ?_)
    refine list_nil ?_
    refine hK8 _ ?_; clear hK8 K8
    refine code_seq (fun K9 hK9 => ?_)
    refine code_cond_d rfl (fun h1 => ?_) (fun h1 => ?_)
    · skip
      (try simp only [Decidable.not_not] at h1)
      refine code_skip ?_
      refine hK9 _ ?_; clear hK9 K9
      refine code_seq (fun K10 hK10 => ?_)
      refine code_block ?_
      refine code_seq (fun K11 hK11 => ?_)
      refine code_region ?_
      refine list_cons rfl (op_q (q_indexAddr_own sl_86 rfl rfl (by omega) (by omega) (by decide)) ?_)
      refine list_cons rfl (op_q (q_load one_24 6 rfl rfl rfl (by first | rfl | (rw [Nat.mul_one, slI_at _ (by omega), chK_at fs l (by omega)]) | exact congrArg (SV.rbor _) (drop_map1 _ 0 _ (by first | omega | (simp; omega)))) (by decide)) ?_)
      refine list_cons rfl (op_q (q_assign rfl (by decide)) ?_)
      refine list_nil ?_
      refine hK11 _ ?_; clear hK11 K11
      refine code_region ?_
      refine list_cons rfl (op_q (q_move rfl (by decide)) ?_)
      refine list_cons rfl (op_q (q_move rfl (by decide)) ?_)
      refine list_cons rfl (op_q (q_len_sl Tryd.underlying24 rfl rfl (by decide)) ?_)
      refine list_cons rfl (op_q (by first | exact q_mulI rfl rfl (by decide) (by omega) (by omega) | exact q_ib rfl rfl rfl (by decide)) ?_)
      refine list_cons rfl (op_q (q_assign rfl (by decide)) ?_)
      refine list_nil ?_
      refine blk_n ?_
      refine hK10 _ ?_; clear hK10 K10
      refine codeT.imp (σ' := [(0, _), (1, _), (4, _), (5, _), (6, _), (7, _), (8, _), (10, _), (19, _), (20, _), (21, _)]) ?_ (imp_covers ⟨rfl, rfl, rfl, rfl, rfl, rfl, rfl, rfl, rfl, rfl, rfl, trivial⟩)
      refine code_region ?_
      refine list_cons rfl (op_q (by first | exact q_addI rfl rfl (by decide) (by omega) (by omega) | exact q_ib rfl rfl rfl (by decide)) ?_)
      refine list_cons rfl (op_q (q_move rfl (by decide)) ?_)
      refine list_nil ?_
      refine then_n ⟨(_, _, _, _, _), imp_covers ⟨rfl, rfl, rfl, rfl, rfl, rfl, rfl, rfl, rfl, rfl, trivial⟩, ?_, ?_⟩
      · (try dsimp only)
        refine ⟨by omega, by omega, ?_⟩
        rw [show (t21 + 1).toNat = t21.toNat + 1 by omega, cntN, Int.natCast_mul]
      · (try dsimp only); omega
    · skip
      (try simp only [Decidable.not_not] at h1)
      refine code_exit ?_
      refine then_x ?_; clear hK9 K9
      refine then_x ?_
      refine blk_hit ?_
      refine hK6 _ ?_; clear hK6 K6
      refine code_seq (fun K12 hK12 => ?_)
      refine code_region ?_
      refine list_cons rfl (op_q (q_move rfl (by decide)) ?_)
      refine list_cons rfl (op_q (q_assign rfl (by decide)) ?_)
      refine list_cons rfl (op_q (q_assign rfl (by decide)) ?_)
      refine list_nil ?_
      refine hK12 _ ?_; clear hK12 K12
      refine code_ret ?_
      refine ends_ret (cs := []) rfl rfl rfl rfl trivial ?_
      rw [if_pos hN, decide_eq_true hN, show t21.toNat = l.length by omega]

set_option maxRecDepth 4000 in
theorem impl_CountNumbers_bad (fs : List (Int × Int)) (l : List Int) (hf : fs.length ≤ 4611686018427387904) (hl : l.length ≤ 4611686018427387904) (hN : ¬ NumsP fs l) : PCalls Tryd.prog 12 [.sl fs.length (fl fs), .sl l.length (l.map (.int .i64))] (· = [.val (.int .i64 (if NumsP fs l then (cntN fs l l.length : Int) else 0)), .val (.bool (decide (NumsP fs l)))]) := by
  refine pcalls_of_code (n := 31) az Tryd.func12 (by kernel_rfl) rfl rfl (Nat.le_of_ble_eq_true rfl) (by intro t u h; simp [Tryd.f12] at h) ?_
  have hfl := fl_len fs
  have hfla := fl_flat fs
  refine code_seq (fun K1 hK1 => ?_)
  refine code_region ?_
  refine list_cons rfl (op_q (q_assign rfl (by decide)) ?_)
  refine list_cons rfl (op_q (q_assign rfl (by decide)) ?_)
  refine list_nil ?_
  refine hK1 _ ?_; clear hK1 K1
  refine code_seq (fun K2 hK2 => ?_)
  refine code_region ?_
  refine list_cons rfl (op_q (q_move rfl (by decide)) ?_)
  refine list_cons rfl (op_q (q_move rfl (by decide)) ?_)
  refine list_cons rfl (op_call _ (impl_choicesOf_bad _ _ hf hl hN) rfl rfl (by decide) (by decide) (by decide) rfl ?_)
  rintro _ rfl
  refine list_cons rfl (op_q (q_move rfl (by decide)) ?_)
  refine list_cons rfl (op_q (q_extract rfl rfl (by decide)) ?_)
  refine list_cons rfl (op_q (q_extract rfl rfl (by decide)) ?_)
  refine list_cons rfl (op_q (q_assign rfl (by decide)) ?_)
  refine list_cons rfl (op_q (q_assign rfl (by decide)) ?_)
  refine list_nil ?_
  refine hK2 _ ?_; clear hK2 K2
  refine codeT.imp (σ' := [(0, _), (1, _), (4, _), (5, _), (6, _), (7, _)]) ?_ (imp_covers ⟨rfl, rfl, rfl, rfl, rfl, rfl, trivial⟩)
  refine code_seq (fun K3 hK3 => ?_)
  refine code_seq (fun K4 hK4 => ?_)
  refine code_region ?_
  refine list_cons rfl (op_q (q_move rfl (by decide)) ?_)
  refine list_cons rfl (op_q (by first | exact q_notd rfl (by decide) | exact q_not rfl (by decide)) ?_)
  refine list_nil ?_
  refine hK4 _ ?_; clear hK4 K4
  refine code_cond_t rfl ?_
  refine code_seq (fun K5 hK5 => ?_)
  refine code_region ?_
  refine list_cons rfl (op_q (q_assign rfl (by decide)) ?_)
  refine list_cons rfl (op_q (q_assign rfl (by decide)) ?_)
  refine list_nil ?_
  refine hK5 _ ?_; clear hK5 K5
  refine code_ret ?_
  refine then_r ?_; clear hK3 K3
  refine ends_ret (cs := []) rfl rfl rfl rfl trivial ?_
  rw [if_neg hN, decide_eq_false hN]

theorem impl_CountNumbers (fs : List (Int × Int)) (l : List Int) (hf : fs.length ≤ 4611686018427387904) (hl : l.length ≤ 4611686018427387904) : PCalls Tryd.prog 12 [.sl fs.length (fl fs), .sl l.length (l.map (.int .i64))] (· = [.val (.int .i64 (if NumsP fs l then (cntN fs l l.length : Int) else 0)), .val (.bool (decide (NumsP fs l)))]) := by
  by_cases hN : NumsP fs l
  · exact impl_CountNumbers_ok fs l hf hl hN
  · exact impl_CountNumbers_bad fs l hf hl hN

set_option maxRecDepth 4000 in
theorem impl_FirstNumber_ok (fs : List (Int × Int)) (l : List Int) (hf : fs.length ≤ 4611686018427387904) (hl : l.length ≤ 4611686018427387904) (hN : NumsP fs l) : PCalls Tryd.prog 14 [.sl fs.length (fl fs), .sl l.length (l.map (.int .i64))] (· = [.own 0 3 1 (if FirstP fs l then firK fs l l.length else []).length ((if FirstP fs l then firK fs l l.length else []).map (.int .i64)), .val (.bool (decide (FirstP fs l)))]) := by
  refine pcalls_of_code (n := 42) az Tryd.func14 (by kernel_rfl) rfl rfl (Nat.le_of_ble_eq_true rfl) (by intro t u h; simp [Tryd.f14] at h) ?_
  have hfl := fl_len fs
  have hfla := fl_flat fs
  have hll := hN.1.1
  have hl6 := hN.1.2.1.1
  have hkl := chK_len fs l l.length
  have hks := slI_len (chK fs l l.length)
  refine code_seq (fun K1 hK1 => ?_)
  refine code_region ?_
  refine list_cons rfl (op_q (q_assign rfl (by decide)) ?_)
  refine list_cons rfl (op_q (q_assign rfl (by decide)) ?_)
  refine list_nil ?_
  refine hK1 _ ?_; clear hK1 K1
  refine code_seq (fun K2 hK2 => ?_)
  refine code_region ?_
  refine list_cons rfl (op_q (q_move rfl (by decide)) ?_)
  refine list_cons rfl (op_q (q_move rfl (by decide)) ?_)
  refine list_cons rfl (op_call _ (impl_choicesOf_ok _ _ hf hl hN) rfl rfl (by decide) (by decide) (by decide) rfl ?_)
  rintro _ rfl
  refine list_cons rfl (op_q (q_move rfl (by decide)) ?_)
  refine list_cons rfl (op_q (q_extract rfl rfl (by decide)) ?_)
  refine list_cons rfl (op_q (q_extract rfl rfl (by decide)) ?_)
  refine list_cons rfl (op_q (q_assign rfl (by decide)) ?_)
  refine list_cons rfl (op_q (q_assign rfl (by decide)) ?_)
  refine list_nil ?_
  refine hK2 _ ?_; clear hK2 K2
  refine codeT.imp (σ' := [(0, _), (1, _), (4, _), (5, _), (6, _), (7, _)]) ?_ (imp_covers ⟨rfl, rfl, rfl, rfl, rfl, rfl, trivial⟩)
  refine code_seq (fun K3 hK3 => ?_)
  refine code_seq (fun K4 hK4 => ?_)
  refine code_region ?_
  refine list_cons rfl (op_q (q_move rfl (by decide)) ?_)
  refine list_cons rfl (op_q (by first | exact q_notd rfl (by decide) | exact q_not rfl (by decide)) ?_)
  refine list_nil ?_
  refine hK4 _ ?_; clear hK4 K4
  refine code_cond_f rfl ?_
  refine code_skip ?_
  refine hK3 _ ?_; clear hK3 K3
  refine code_seq (fun K5 hK5 => ?_)
  refine code_region ?_
  refine list_cons rfl (op_q (q_move rfl (by decide)) ?_)
  refine list_cons rfl (op_q (q_len_sl Tryd.underlying86 rfl rfl (by decide)) ?_)
  refine list_cons rfl (op_make sl_24 rfl rfl (by omega) (by decide) (by decide) rfl ?_)
  refine list_cons rfl (op_q (q_assign rfl (by decide)) ?_)
  refine list_nil ?_
  refine hK5 _ ?_; clear hK5 K5
  refine code_seq (fun K6 hK6 => ?_)
  refine code_seq (fun K7 hK7 => ?_)
  refine code_region ?_
  refine list_cons rfl (op_q (q_move rfl (by decide)) ?_)
  refine list_cons rfl (op_q (q_len_sl Tryd.underlying86 rfl rfl (by decide)) ?_)
  refine list_cons rfl (op_q (q_move rfl (by decide)) ?_)
  refine list_nil ?_
  refine hK7 _ ?_; clear hK7 K7
  refine code_block ?_
  refine code_loop (X := PV × Bool × Bool × Nat × List PV × Int) (fun x => [(0, .par 0 (.sl fs.length (fl fs))), (1, .par 1 (.sl l.length (l.map (.int .i64)))), (4, .val x.1), (5, .val (.bool x.2.1)), (6, .own 14 24 1 (chK fs l l.length).length (slI (chK fs l l.length))), (7, .val (.bool x.2.2.1)), (8, .own 22 3 1 x.2.2.2.1 x.2.2.2.2.1), (23, .own 14 24 1 (chK fs l l.length).length (slI (chK fs l l.length))), (24, .val (.int .i64 (chK fs l l.length).length)), (25, .val (.int .i64 x.2.2.2.2.2))]) (fun x => 0 ≤ x.2.2.2.2.2 ∧ x.2.2.2.2.2 ≤ (l.length : Int) ∧ x.2.2.2.1 = l.length ∧ x.2.2.2.2.1 = (firZ fs l x.2.2.2.2.2.toNat).map (.int .i64) ∧ ∀ j, j < x.2.2.2.2.2.toNat → chA fs l j ≠ []) (fun x => l.length - x.2.2.2.2.2.toNat) (_, _, _, _, _, _) (imp_covers ⟨rfl, rfl, rfl, rfl, rfl, rfl, rfl, rfl, rfl, rfl, trivial⟩) ?_ ?_
  · (try dsimp only)
    refine ⟨by omega, by omega, by omega, ?_, fun j hj => absurd hj (Nat.not_lt_zero j)⟩
    rw [chK_len]
    exact (zeros_map1 (PV.int .i64) 0 l.length).trans (by simp [firZ, firK])
  · intro x hI
    obtain ⟨t4_p, t5, ok, first_n, first_c, t25⟩ := x
    replace hI : 0 ≤ t25 ∧ t25 ≤ (l.length : Int) ∧ first_n = l.length ∧ first_c = (firZ fs l t25.toNat).map (.int .i64) ∧ ∀ j, j < t25.toNat → chA fs l j ≠ [] := hI
    show codeT _ _ _ [(0, .par 0 (.sl fs.length (fl fs))), (1, .par 1 (.sl l.length (l.map (.int .i64)))), (4, .val t4_p), (5, .val (.bool t5)), (6, .own 14 24 1 (chK fs l l.length).length (slI (chK fs l l.length))), (7, .val (.bool ok)), (8, .own 22 3 1 first_n first_c), (23, .own 14 24 1 (chK fs l l.length).length (slI (chK fs l l.length))), (24, .val (.int .i64 (chK fs l l.length).length)), (25, .val (.int .i64 t25))] _
    obtain ⟨i1, i2, rfl, rfl, i5⟩ := hI
    have hzl := firZ_len fs l (k := t25.toNat) (by omega)
    refine code_seq (fun K8 hK8 => ?_)
    refine code_region ?_
    refine list_cons rfl (op_q (q_lt rfl rfl (by decide)) ?_)
    refine list_nil ?_
    refine hK8 _ ?_; clear hK8 K8
    refine code_seq (fun K9 hK9 => ?_)
    refine code_cond_d rfl (fun h1 => ?_) (fun h1 => ?_)
    · skip
      (try simp only [Decidable.not_not] at h1)
      refine code_skip ?_
      refine hK9 _ ?_; clear hK9 K9
      refine code_seq (fun K10 hK10 => ?_)
      refine code_block ?_
      refine code_seq (fun K11 hK11 => ?_)
      refine code_region ?_
      refine list_cons rfl (op_q (q_move rfl (by decide)) ?_)
      refine list_cons rfl (op_q (q_indexAddr_own sl_86 rfl rfl (by omega) (by omega) (by decide)) ?_)
      refine list_cons rfl (op_q (q_load one_24 6 rfl rfl rfl (by first | rfl | (rw [Nat.mul_one, slI_at _ (by omega), chK_at fs l (by omega)]) | exact congrArg (SV.rbor _) (drop_map1 _ 0 _ (by first | omega | (simp; omega)))) (by decide)) ?_)
      refine list_cons rfl (op_q (q_assign rfl (by decide)) ?_)
      refine list_cons rfl (op_q (q_assign rfl (by decide)) ?_)
      refine list_nil ?_
      refine hK11 _ ?_; clear hK11 K11
      refine code_seq (fun K12 hK12 => ?_)
      refine code_seq (fun K13 hK13 => ?_)
      refine code_region ?_
      refine list_cons rfl (op_q (q_move rfl (by decide)) ?_)
      refine list_cons rfl (op_q (q_len_sl Tryd.underlying24 rfl rfl (by decide)) ?_)
      refine list_cons rfl (op_q (q_eq rfl rfl (by decide)) ?_)
      refine list_nil ?_
      refine hK13 _ ?_; clear hK13 K13
      refine code_cond_d rfl (fun h2 => ?_) (fun h2 => ?_)
      · skip
        (try simp only [Decidable.not_not] at h2)
        refine code_seq (fun K14 hK14 => ?_)
        refine code_region ?_
        refine list_cons rfl (op_buildSlice sl_24 (parts := []) rfl rfl rfl (by decide) (by decide) (by decide) rfl ?_)
        refine list_cons rfl (op_q (q_assign rfl (by decide)) ?_)
        refine list_cons rfl (op_q (q_assign rfl (by decide)) ?_)
        refine list_nil ?_
        refine hK14 _ ?_; clear hK14 K14
        refine codeT.imp (σ' := [(0, _), (1, _), (4, _), (5, _), (6, _), (7, _), (8, _), (9, _), (10, _), (23, _), (24, _), (25, _)]) ?_ (imp_covers ⟨rfl, rfl, rfl, rfl, rfl, rfl, rfl, rfl, rfl, rfl, rfl, rfl, trivial⟩)
        refine code_ret ?_
        refine then_r ?_; clear hK12 K12
        refine blk_r ?_
        refine then_r ?_; clear hK10 K10
        refine then_r ?_
        refine blk_r ?_
        refine then_r ?_; clear hK6 K6
        refine ends_ret (cs := []) rfl rfl rfl rfl trivial ?_
        have hz : ¬ FirstP fs l := fun k => k.2 t25.toNat (by omega) (List.eq_nil_of_length_eq_zero (by omega))
        rw [if_neg hz, decide_eq_false hz]; rfl
      · skip
        (try simp only [Decidable.not_not] at h2)
        refine code_skip ?_
        refine hK12 _ ?_; clear hK12 K12
        refine codeT.imp (σ' := [(0, _), (1, _), (4, _), (5, _), (6, _), (7, _), (8, _), (9, _), (10, _), (23, _), (24, _), (25, _)]) ?_ (imp_covers ⟨rfl, rfl, rfl, rfl, rfl, rfl, rfl, rfl, rfl, rfl, rfl, rfl, trivial⟩)
        refine code_region ?_
        refine list_cons rfl (op_q (q_move rfl (by decide)) ?_)
        refine list_cons rfl (op_q (q_move rfl (by decide)) ?_)
        refine list_cons rfl (op_q (q_move rfl (by decide)) ?_)
        refine list_cons rfl (op_q (q_indexAddr_rd sl_24 rfl (.inr ⟨_, rfl, rfl⟩) rfl (by omega) (by omega) (by decide)) ?_)
        refine list_cons rfl (op_q (q_load_rd one_3 rfl (.inr ⟨_, (by first | rfl | (rw [Nat.mul_one, slI_at _ (by omega), chK_at fs l (by omega)]) | exact congrArg (SV.rbor _) (drop_map1 _ 0 _ (by first | omega | (simp; omega)))), rfl⟩) (by decide)) ?_)
        refine list_cons rfl (op_q (q_indexAddr_own sl_24 rfl rfl (by omega) (by omega) (by decide)) ?_)
        refine list_cons rfl (op_store (one_3).2 8 [8, 34] (by intro t ht; simp only [List.mem_cons, List.not_mem_nil, or_false] at ht; rcases ht with rfl | rfl <;> rfl) (.inl rfl) rfl rfl rfl rfl rfl rfl (by first | decide | omega | exact Nat.le_refl _ | (simp; done) | (simp; omega)) (by decide) rfl ?_)
        refine list_nil ?_
        refine blk_n ?_
        refine hK10 _ ?_; clear hK10 K10
        refine codeT.imp (σ' := [(0, _), (1, _), (4, _), (5, _), (6, _), (7, _), (8, _), (9, _), (10, _), (23, _), (24, _), (25, _)]) ?_ (imp_covers ⟨rfl, rfl, rfl, rfl, rfl, rfl, rfl, rfl, rfl, rfl, rfl, rfl, trivial⟩)
        refine code_region ?_
        refine list_cons rfl (op_q (by first | exact q_addI rfl rfl (by decide) (by omega) (by omega) | exact q_ib rfl rfl rfl (by decide)) ?_)
        refine list_cons rfl (op_q (q_move rfl (by decide)) ?_)
        refine list_nil ?_
        refine then_n ⟨(_, _, _, _, _, _), imp_covers ⟨rfl, rfl, rfl, rfl, rfl, rfl, rfl, rfl, rfl, rfl, trivial⟩, ?_, ?_⟩
        · (try dsimp only)
          have hne : chA fs l t25.toNat ≠ [] := fun k => h2 (by rw [k]; rfl)
          refine ⟨by omega, by omega, rfl, ?_, fun j hj => ?_⟩
          · rw [show (t25 + 1).toNat = t25.toNat + 1 by omega]
            exact firZ_put fs l (by omega)
          · by_cases e : j = t25.toNat
            · subst e; exact hne
            · exact i5 j (by omega)
        · (try dsimp only); omega
    · skip
      (try simp only [Decidable.not_not] at h1)
      refine code_exit ?_
      refine then_x ?_; clear hK9 K9
      refine then_x ?_
      refine blk_hit ?_
      refine hK6 _ ?_; clear hK6 K6
      refine code_seq (fun K15 hK15 => ?_)
      refine code_region ?_
      refine list_cons rfl (op_q (q_move rfl (by decide)) ?_)
      refine list_cons rfl (op_q (q_assign rfl (by decide)) ?_)
      refine list_cons rfl (op_q (q_assign rfl (by decide)) ?_)
      refine list_nil ?_
      refine hK15 _ ?_; clear hK15 K15
      refine code_ret ?_
      refine ends_ret (cs := []) rfl rfl rfl rfl trivial ?_
      have hn : FirstP fs l := ⟨hN, fun j hj => i5 j (by omega)⟩
      rw [if_pos hn, decide_eq_true hn, firK_len, show t25.toNat = l.length by omega, firZ_end]

set_option maxRecDepth 4000 in
theorem impl_FirstNumber_bad (fs : List (Int × Int)) (l : List Int) (hf : fs.length ≤ 4611686018427387904) (hl : l.length ≤ 4611686018427387904) (hN : ¬ NumsP fs l) : PCalls Tryd.prog 14 [.sl fs.length (fl fs), .sl l.length (l.map (.int .i64))] (· = [.own 0 3 1 (if FirstP fs l then firK fs l l.length else []).length ((if FirstP fs l then firK fs l l.length else []).map (.int .i64)), .val (.bool (decide (FirstP fs l)))]) := by
  refine pcalls_of_code (n := 42) az Tryd.func14 (by kernel_rfl) rfl rfl (Nat.le_of_ble_eq_true rfl) (by intro t u h; simp [Tryd.f14] at h) ?_
  have hfl := fl_len fs
  have hfla := fl_flat fs
  refine code_seq (fun K1 hK1 => ?_)
  refine code_region ?_
  refine list_cons rfl (op_q (q_assign rfl (by decide)) ?_)
  refine list_cons rfl (op_q (q_assign rfl (by decide)) ?_)
  refine list_nil ?_
  refine hK1 _ ?_; clear hK1 K1
  refine code_seq (fun K2 hK2 => ?_)
  refine code_region ?_
  refine list_cons rfl (op_q (q_move rfl (by decide)) ?_)
  refine list_cons rfl (op_q (q_move rfl (by decide)) ?_)
  refine list_cons rfl (op_call _ (impl_choicesOf_bad _ _ hf hl hN) rfl rfl (by decide) (by decide) (by decide) rfl ?_)
  rintro _ rfl
  refine list_cons rfl (op_q (q_move rfl (by decide)) ?_)
  refine list_cons rfl (op_q (q_extract rfl rfl (by decide)) ?_)
  refine list_cons rfl (op_q (q_extract rfl rfl (by decide)) ?_)
  refine list_cons rfl (op_q (q_assign rfl (by decide)) ?_)
  refine list_cons rfl (op_q (q_assign rfl (by decide)) ?_)
  refine list_nil ?_
  refine hK2 _ ?_; clear hK2 K2
  refine codeT.imp (σ' := [(0, _), (1, _), (4, _), (5, _), (6, _), (7, _)]) ?_ (imp_covers ⟨rfl, rfl, rfl, rfl, rfl, rfl, trivial⟩)
  refine code_seq (fun K3 hK3 => ?_)
  refine code_seq (fun K4 hK4 => ?_)
  refine code_region ?_
  refine list_cons rfl (op_q (q_move rfl (by decide)) ?_)
  refine list_cons rfl (op_q (by first | exact q_notd rfl (by decide) | exact q_not rfl (by decide)) ?_)
  refine list_nil ?_
  refine hK4 _ ?_; clear hK4 K4
  refine code_cond_t rfl ?_
  refine code_seq (fun K5 hK5 => ?_)
  refine code_region ?_
  refine list_cons rfl (op_buildSlice sl_24 (parts := []) rfl rfl rfl (by decide) (by decide) (by decide) rfl ?_)
  refine list_cons rfl (op_q (q_assign rfl (by decide)) ?_)
  refine list_cons rfl (op_q (q_assign rfl (by decide)) ?_)
  refine list_nil ?_
  refine hK5 _ ?_; clear hK5 K5
  refine code_ret ?_
  refine then_r ?_; clear hK3 K3
  refine ends_ret (cs := []) rfl rfl rfl rfl trivial ?_
  rw [if_neg (fun k : FirstP fs l => hN k.1), decide_eq_false (fun k : FirstP fs l => hN k.1)]; rfl

theorem impl_FirstNumber (fs : List (Int × Int)) (l : List Int) (hf : fs.length ≤ 4611686018427387904) (hl : l.length ≤ 4611686018427387904) : PCalls Tryd.prog 14 [.sl fs.length (fl fs), .sl l.length (l.map (.int .i64))] (· = [.own 0 3 1 (if FirstP fs l then firK fs l l.length else []).length ((if FirstP fs l then firK fs l l.length else []).map (.int .i64)), .val (.bool (decide (FirstP fs l)))]) := by
  by_cases hN : NumsP fs l
  · exact impl_FirstNumber_ok fs l hf hl hN
  · exact impl_FirstNumber_bad fs l hf hl hN

end Go.Proofs.YtjbbijlbenkgcaaDoor
