/- Contracts of functions, walked over the pure layer; each says for which arguments. -/
import Derived.Test.YtilpfcpjmfchbaaDoorLATy
import Derived.Test.YtilpfcpjmfchbaaDoorTf
import Derived.Test.YtilpfcpjmfchbaaDoorSp
import Derived.Test.YtilpfcpjmfchbaaDoorShelf
import Derived.Test.YtilpfcpjmfchbaaDoorS4
import Derived.Test.YtilpfcpjmfchbaaDoorIm
import Derived.Test.YtilpfcpjmfchbaaDoorW4s
namespace Go.Proofs.YtilpfcpjmfchbaaDoor
open Go.RowKit LATy
set_option linter.unusedVariables false
set_option linter.unusedSimpArgs false

set_option maxRecDepth 4000 in
theorem eqIntA7_c (l : List Int) (hl : l.length = 7) : PCalls Tryd.prog 36 [.agg (l.map (.int .i64)), .agg (l.map (.int .i64))] (· = [.val (.bool true)]) := by
  refine pcalls_of_code (n := 17) az Tryd.func36 (by kernel_rfl) rfl rfl (Nat.le_of_ble_eq_true rfl) (by intro t u h; simp [Tryd.f36] at h) ?_
  have hfl := flat_map (PV.int .i64) (fun _ => rfl) l
  rw [show inits false 0 [.agg (l.map (.int .i64)), .agg (l.map (.int .i64))] = [(0, SV.val (.agg (l.map (.int .i64)))), (1, SV.val (.agg (l.map (.int .i64))))] from by simp [inits, PV.start, PV.flat, hfl]]
  refine code_seq (fun K1 hK1 => ?_)
  refine code_region ?_
  refine list_cons rfl (op_box rfl (.inl ⟨rfl, hfl⟩) (by decide) (by decide) rfl ?_)
  refine list_cons rfl (op_box rfl (.inl ⟨rfl, hfl⟩) (by decide) (by decide) rfl ?_)
  refine list_cons rfl (op_q (q_assign rfl (by decide)) ?_)
  refine list_nil ?_
  refine hK1 _ ?_; clear hK1 K1
  refine code_seq (fun K2 hK2 => ?_)
  refine code_seq (fun K3 hK3 => ?_)
  refine code_region ?_
  refine list_cons rfl (op_q (q_assign rfl (by decide)) ?_)
  refine list_nil ?_
  refine hK3 _ ?_; clear hK3 K3
  refine code_block ?_
  refine code_loop (X := Bool × Int) (fun x => [(0, .val (.agg (l.map (.int .i64)))), (1, .val (.agg (l.map (.int .i64)))), (2, .box 2 50 (l.map (.int .i64))), (3, .box 3 50 (l.map (.int .i64))), (4, .val (.bool x.1)), (5, .val (.int .i64 x.2))]) (fun x => 0 ≤ x.2 ∧ x.2 ≤ 7) (fun x => (7 - x.2).toNat) (_, _) (imp_covers ⟨rfl, rfl, rfl, rfl, rfl, rfl, trivial⟩) ?_ ?_
  · (try dsimp only)
    exact ⟨by omega, by omega⟩
  · intro x hI
    obtain ⟨t4, i⟩ := x
    replace hI : 0 ≤ i ∧ i ≤ 7 := hI
    show codeT _ _ _ [(0, .val (.agg (l.map (.int .i64)))), (1, .val (.agg (l.map (.int .i64)))), (2, .box 2 50 (l.map (.int .i64))), (3, .box 3 50 (l.map (.int .i64))), (4, .val (.bool t4)), (5, .val (.int .i64 i))] _
    obtain ⟨i1, i2⟩ := hI
    refine code_seq (fun K4 hK4 => ?_)
    refine code_seq (fun K5 hK5 => ?_)
    refine code_region ?_
    refine list_cons rfl (op_q (q_move rfl (by decide)) ?_)
    refine list_cons rfl (op_q (q_lt rfl rfl (by decide)) ?_)
    refine list_nil ?_
    refine hK5 _ ?_; clear hK5 K5
    refine code_cond_d rfl (fun h1 => ?_) (fun h1 => ?_)
    · skip
      (try simp only [Decidable.not_not] at h1)
      refine code_skip ?_
      refine hK4 _ ?_; clear hK4 K4
      refine code_seq (fun K6 hK6 => ?_)
      refine code_block ?_
      refine code_seq (fun K7 hK7 => ?_)
      refine code_draw (by kernel_rfl) (by kernel_rfl) ?_
      refine draw_q rfl (q_move rfl (by decide)) ?_
      refine draw_q rfl (q_indexAddr_arr arr_50 rfl rfl rfl (by omega) (by omega) (by decide)) ?_
      refine draw_q rfl (q_load one_3 2 rfl rfl rfl (get_map1 (PV.int .i64) 0 l (by omega)) (by decide)) ?_
      refine draw_q rfl (q_move rfl (by decide)) ?_
      refine draw_q rfl (q_indexAddr_arr arr_50 rfl rfl rfl (by omega) (by omega) (by decide)) ?_
      refine draw_q rfl (q_load one_3 3 rfl rfl rfl (get_map1 (PV.int .i64) 0 l (by omega)) (by decide)) ?_
      refine draw_q rfl (q_ne rfl rfl (by decide)) ?_
      refine draw_nil ?_
      refine hK7 _ ?_; clear hK7 K7
      refine codeT.imp (σ' := [(0, _), (1, _), (2, _), (3, _), (4, _), (5, _), (16, _)]) ?_ (imp_covers ⟨rfl, rfl, rfl, rfl, rfl, rfl, rfl, trivial⟩)
      refine code_cond_d rfl (fun h2 => ?_) (fun h2 => ?_)
      · skip
        (try simp only [Decidable.not_not] at h2)
        exfalso
        exact absurd rfl h2
      · skip
        (try simp only [Decidable.not_not] at h2)
        refine code_skip ?_
        refine blk_n ?_
        refine hK6 _ ?_; clear hK6 K6
        refine code_region ?_
        refine list_cons rfl (op_q (q_move rfl (by decide)) ?_)
        refine list_cons rfl (op_q (by first | exact q_addI rfl rfl (by decide) (by omega) (by omega) | exact q_ib rfl rfl rfl (by decide)) ?_)
        refine list_cons rfl (op_q (q_assign rfl (by decide)) ?_)
        refine list_nil ?_
        refine then_n ⟨(_, _), imp_covers ⟨rfl, rfl, rfl, rfl, rfl, rfl, trivial⟩, ?_, ?_⟩
        · (try dsimp only)
          exact ⟨by omega, by omega⟩
        · (try dsimp only); omega
    · skip
      (try simp only [Decidable.not_not] at h1)
      refine code_exit ?_
      refine then_x ?_; clear hK4 K4
      refine then_x ?_
      refine blk_hit ?_
      refine hK2 _ ?_; clear hK2 K2
      refine code_seq (fun K8 hK8 => ?_)
      refine code_region ?_
      refine list_cons rfl (op_q (q_assign rfl (by decide)) ?_)
      refine list_nil ?_
      refine hK8 _ ?_; clear hK8 K8
      refine code_ret ?_
      refine ends_ret (cs := []) rfl rfl rfl rfl trivial ?_
      rfl

theorem get7 (l : List Int) {j b m : Nat} (h : j * 7 + b < l.length) (hm : b < m) : (((l.map (PV.int .i64)).drop (j * 7)).drop (b * 1)) = PV.int .i64 (l.getD (j * 7 + b) 0) :: ((l.map (PV.int .i64)).drop (j * 7)).drop (b * 1 + 1) := by
  rw [List.drop_drop, List.drop_drop, Nat.mul_one, ← Nat.add_assoc, List.drop_eq_getElem_cons (by simpa using h)]
  simp [h]

set_option maxRecDepth 4000 in
theorem eqIntA7S_c (l : List Int) (m : Nat) (hl : l.length = m * 7) (hm : m ≤ 1048576) : PCalls Tryd.prog 16 [.sl m (l.map (.int .i64)), .sl m (l.map (.int .i64))] (· = [.val (.bool true)]) := by
  refine pcalls_of_code (n := 27) az Tryd.func16 (by kernel_rfl) rfl rfl (Nat.le_of_ble_eq_true rfl) (by intro t u h; simp [Tryd.f16] at h) ?_
  have hfl := flat_map (PV.int .i64) (fun _ => rfl) l
  refine code_seq (fun K1 hK1 => ?_)
  refine code_region ?_
  refine list_cons rfl (op_q (q_assign rfl (by decide)) ?_)
  refine list_nil ?_
  refine hK1 _ ?_; clear hK1 K1
  refine code_seq (fun K2 hK2 => ?_)
  refine code_seq (fun K3 hK3 => ?_)
  refine code_region ?_
  refine list_cons rfl (op_q (q_move rfl (by decide)) ?_)
  refine list_cons rfl (op_q (q_len_sl Tryd.underlying31 rfl rfl (by decide)) ?_)
  refine list_cons rfl (op_q (q_move rfl (by decide)) ?_)
  refine list_cons rfl (op_q (q_len_sl Tryd.underlying31 rfl rfl (by decide)) ?_)
  refine list_cons rfl (op_q (q_ne rfl rfl (by decide)) ?_)
  refine list_nil ?_
  refine hK3 _ ?_; clear hK3 K3
  refine code_cond_d rfl (fun h1 => ?_) (fun h1 => ?_)
  · skip
    (try simp only [Decidable.not_not] at h1)
    refine code_seq (fun K4 hK4 => ?_)
    refine code_region ?_
    refine list_cons rfl (op_q (q_assign rfl (by decide)) ?_)
    refine list_nil ?_
    refine hK4 _ ?_; clear hK4 K4
    refine code_ret ?_
    refine then_r ?_; clear hK2 K2
    refine ends_ret (cs := []) rfl rfl rfl rfl trivial ?_
    first
      | rfl
      | exact absurd rfl h1
  · skip
    (try simp only [Decidable.not_not] at h1)
    refine code_skip ?_
    refine hK2 _ ?_; clear hK2 K2
    refine code_seq (fun K5 hK5 => ?_)
    refine code_seq (fun K6 hK6 => ?_)
    refine code_region ?_
    refine list_cons rfl (op_q (q_assign rfl (by decide)) ?_)
    refine list_nil ?_
    refine hK6 _ ?_; clear hK6 K6
    refine code_block ?_
    refine code_loop (X := Bool × Int) (fun x => [(0, .par 0 (.sl m (l.map (.int .i64)))), (1, .par 1 (.sl m (l.map (.int .i64)))), (4, .val (.bool x.1)), (5, .val (.int .i64 x.2))]) (fun x => 0 ≤ x.2 ∧ x.2 ≤ m) (fun x => m - x.2.toNat) (_, _) (imp_covers ⟨rfl, rfl, rfl, rfl, trivial⟩) ?_ ?_
    · (try dsimp only)
      exact ⟨by omega, by omega⟩
    · intro x hI
      obtain ⟨t4, i⟩ := x
      replace hI : 0 ≤ i ∧ i ≤ m := hI
      show codeT _ _ _ [(0, .par 0 (.sl m (l.map (.int .i64)))), (1, .par 1 (.sl m (l.map (.int .i64)))), (4, .val (.bool t4)), (5, .val (.int .i64 i))] _
      obtain ⟨i1, i2⟩ := hI
      refine code_seq (fun K7 hK7 => ?_)
      refine code_seq (fun K8 hK8 => ?_)
      refine code_region ?_
      refine list_cons rfl (op_q (q_move rfl (by decide)) ?_)
      refine list_cons rfl (op_q (q_move rfl (by decide)) ?_)
      refine list_cons rfl (op_q (q_len_sl Tryd.underlying31 rfl rfl (by decide)) ?_)
      refine list_cons rfl (op_q (q_lt rfl rfl (by decide)) ?_)
      refine list_nil ?_
      refine hK8 _ ?_; clear hK8 K8
      refine code_cond_d rfl (fun h2 => ?_) (fun h2 => ?_)
      · skip
        (try simp only [Decidable.not_not] at h2)
        refine code_skip ?_
        refine hK7 _ ?_; clear hK7 K7
        refine code_seq (fun K9 hK9 => ?_)
        refine code_block ?_
        refine code_seq (fun K10 hK10 => ?_)
        refine code_draw (by kernel_rfl) (by kernel_rfl) ?_
        refine draw_q rfl (q_move rfl (by decide)) ?_
        refine draw_q rfl (q_move rfl (by decide)) ?_
        refine draw_q rfl (q_indexAddr_rd sl_31 rfl (.inl ⟨_, rfl, rfl⟩) rfl (by omega) (by omega) (by decide)) ?_
        refine draw_q rfl (q_load_rd_agg agg_50 rfl (.inl ⟨_, rfl⟩) (by first | decide | omega | exact Nat.le_refl _ | (simp; done) | (simp; omega)) (by first | rfl | exact flat_part (by assumption) _ _) (by decide)) ?_
        refine draw_q rfl (q_move rfl (by decide)) ?_
        refine draw_q rfl (q_move rfl (by decide)) ?_
        refine draw_q rfl (q_indexAddr_rd sl_31 rfl (.inl ⟨_, rfl, rfl⟩) rfl (by omega) (by omega) (by decide)) ?_
        refine draw_q rfl (q_load_rd_agg agg_50 rfl (.inl ⟨_, rfl⟩) (by first | decide | omega | exact Nat.le_refl _ | (simp; done) | (simp; omega)) (by first | rfl | exact flat_part (by assumption) _ _) (by decide)) ?_
        refine draw_call _ ((by rw [← List.map_drop, ← List.map_take]; exact eqIntA7_c _ (by simp; omega))) rfl rfl rfl (by decide) ?_
        refine draw_q rfl (by first | exact q_notd rfl (by decide) | exact q_not rfl (by decide)) ?_
        refine draw_nil ?_
        refine hK10 _ ?_; clear hK10 K10
        refine codeT.imp (σ' := [(0, _), (1, _), (4, _), (5, _), (26, _)]) ?_ (imp_covers ⟨rfl, rfl, rfl, rfl, rfl, trivial⟩)
        refine code_cond_f rfl ?_
        refine code_skip ?_
        refine blk_n ?_
        refine hK9 _ ?_; clear hK9 K9
        refine code_region ?_
        refine list_cons rfl (op_q (q_move rfl (by decide)) ?_)
        refine list_cons rfl (op_q (by first | exact q_addI rfl rfl (by decide) (by omega) (by omega) | exact q_ib rfl rfl rfl (by decide)) ?_)
        refine list_cons rfl (op_q (q_assign rfl (by decide)) ?_)
        refine list_nil ?_
        refine then_n ⟨(_, _), imp_covers ⟨rfl, rfl, rfl, rfl, trivial⟩, ?_, ?_⟩
        · (try dsimp only)
          exact ⟨by omega, by omega⟩
        · (try dsimp only); omega
      · skip
        (try simp only [Decidable.not_not] at h2)
        refine code_exit ?_
        refine then_x ?_; clear hK7 K7
        refine then_x ?_
        refine blk_hit ?_
        refine hK5 _ ?_; clear hK5 K5
        refine code_seq (fun K11 hK11 => ?_)
        refine code_region ?_
        refine list_cons rfl (op_q (q_assign rfl (by decide)) ?_)
        refine list_nil ?_
        refine hK11 _ ?_; clear hK11 K11
        refine code_ret ?_
        refine ends_ret (cs := []) rfl rfl rfl rfl trivial ?_
        first
          | rfl
          | exact absurd rfl h2

set_option maxRecDepth 4000 in
theorem heldIntA7S_c (n : Nat) (k : Int) (hl : n ≤ 1048576) (p0 : -1099511627776 ≤ k) (p1 : k ≤ 1099511627776) : PCalls Tryd.prog 18 [.sl n ((markI (n * 7) k).map (.int .i64)), .int .i64 k] (· = [.val (.int .i64 (k + n * 7))]) := by
  refine pcalls_of_code (n := 28) az Tryd.func18 (by kernel_rfl) rfl rfl (Nat.le_of_ble_eq_true rfl) (by intro t u h; simp [Tryd.f18] at h) ?_
  have hL := markI_len (n * 7) k
  have hfl := flat_map (PV.int .i64) (fun _ => rfl) (markI (n * 7) k)
  refine code_seq (fun K1 hK1 => ?_)
  refine code_region ?_
  refine list_cons rfl (op_q (q_assign rfl (by decide)) ?_)
  refine list_nil ?_
  refine hK1 _ ?_; clear hK1 K1
  refine code_seq (fun K2 hK2 => ?_)
  refine code_seq (fun K3 hK3 => ?_)
  refine code_region ?_
  refine list_cons rfl (op_q (q_assign rfl (by decide)) ?_)
  refine list_nil ?_
  refine hK3 _ ?_; clear hK3 K3
  refine code_block ?_
  refine code_loop (X := Int × Int × Int) (fun x => [(0, .par 0 (.sl n ((markI (n * 7) k).map (.int .i64)))), (1, .val (.int .i64 x.1)), (4, .val (.int .i64 x.2.1)), (5, .val (.int .i64 x.2.2))]) (fun x => 0 ≤ x.2.2 ∧ x.2.2 ≤ n ∧ x.1 = k + x.2.2 * 7) (fun x => n - x.2.2.toNat) (_, _, _) (imp_covers ⟨rfl, rfl, rfl, rfl, trivial⟩) ?_ ?_
  · (try dsimp only)
    exact ⟨by omega, by omega, by omega⟩
  · intro x hI
    obtain ⟨k_, t4, i⟩ := x
    replace hI : 0 ≤ i ∧ i ≤ n ∧ k_ = k + i * 7 := hI
    show codeT _ _ _ [(0, .par 0 (.sl n ((markI (n * 7) k).map (.int .i64)))), (1, .val (.int .i64 k_)), (4, .val (.int .i64 t4)), (5, .val (.int .i64 i))] _
    obtain ⟨i1, i2, rfl⟩ := hI
    refine code_seq (fun K4 hK4 => ?_)
    refine code_seq (fun K5 hK5 => ?_)
    refine code_region ?_
    refine list_cons rfl (op_q (q_move rfl (by decide)) ?_)
    refine list_cons rfl (op_q (q_move rfl (by decide)) ?_)
    refine list_cons rfl (op_q (q_len_sl Tryd.underlying31 rfl rfl (by decide)) ?_)
    refine list_cons rfl (op_q (q_lt rfl rfl (by decide)) ?_)
    refine list_nil ?_
    refine hK5 _ ?_; clear hK5 K5
    refine code_cond_d rfl (fun h1 => ?_) (fun h1 => ?_)
    · skip
      (try simp only [Decidable.not_not] at h1)
      refine code_skip ?_
      refine hK4 _ ?_; clear hK4 K4
      refine code_seq (fun K6 hK6 => ?_)
      refine code_block ?_
      refine code_seq (fun K7 hK7 => ?_)
      refine code_region ?_
      refine list_cons rfl (op_q (q_assign rfl (by decide)) ?_)
      refine list_nil ?_
      refine hK7 _ ?_; clear hK7 K7
      refine code_block ?_
      refine code_loop (X := Int × Int × Int) (fun x => [(0, .par 0 (.sl n ((markI (n * 7) k).map (.int .i64)))), (1, .val (.int .i64 x.1)), (4, .val (.int .i64 x.2.1)), (5, .val (.int .i64 i)), (6, .val (.int .i64 x.2.2))]) (fun x => 0 ≤ x.2.2 ∧ x.2.2 ≤ 7 ∧ x.1 = k + i * 7 + x.2.2) (fun x => (7 - x.2.2).toNat) (_, _, _) (imp_covers ⟨rfl, rfl, rfl, rfl, rfl, trivial⟩) ?_ ?_
      · (try dsimp only)
        exact ⟨by omega, by omega, by omega⟩
      · intro x hI
        obtain ⟨k_, t4, j⟩ := x
        replace hI : 0 ≤ j ∧ j ≤ 7 ∧ k_ = k + i * 7 + j := hI
        show codeT _ _ _ [(0, .par 0 (.sl n ((markI (n * 7) k).map (.int .i64)))), (1, .val (.int .i64 k_)), (4, .val (.int .i64 t4)), (5, .val (.int .i64 i)), (6, .val (.int .i64 j))] _
        obtain ⟨j1, j2, rfl⟩ := hI
        refine code_seq (fun K8 hK8 => ?_)
        refine code_seq (fun K9 hK9 => ?_)
        refine code_region ?_
        refine list_cons rfl (op_q (q_move rfl (by decide)) ?_)
        refine list_cons rfl (op_q (q_lt rfl rfl (by decide)) ?_)
        refine list_nil ?_
        refine hK9 _ ?_; clear hK9 K9
        refine code_cond_d rfl (fun h2 => ?_) (fun h2 => ?_)
        · skip
          (try simp only [Decidable.not_not] at h2)
          refine code_skip ?_
          refine hK8 _ ?_; clear hK8 K8
          refine code_seq (fun K10 hK10 => ?_)
          refine code_block ?_
          refine code_seq (fun K11 hK11 => ?_)
          refine code_seq (fun K12 hK12 => ?_)
          refine code_region ?_
          refine list_cons rfl (op_q (q_move rfl (by decide)) ?_)
          refine list_cons rfl (op_q (q_move rfl (by decide)) ?_)
          refine list_cons rfl (op_q (q_move rfl (by decide)) ?_)
          refine list_cons rfl (op_q (q_indexAddr_rd sl_31 rfl (.inl ⟨_, rfl, rfl⟩) rfl (by omega) (by omega) (by decide)) ?_)
          refine list_cons rfl (op_q (q_indexAddr_arr arr_50 rfl rfl rfl (by omega) (by omega) (by decide)) ?_)
          refine list_cons rfl (op_q (q_load_rd one_3 rfl (.inl ⟨_, (congrArg (SV.rpar _) (get7 _ (m := 7) (by rw [hL]; omega) (by omega))), rfl⟩) (by decide)) ?_)
          refine list_cons rfl (op_q (q_move rfl (by decide)) ?_)
          refine list_cons rfl (op_q (q_ne rfl rfl (by decide)) ?_)
          refine list_nil ?_
          refine hK12 _ ?_; clear hK12 K12
          refine codeT.imp (σ' := [(0, _), (1, _), (4, _), (5, _), (6, _), (24, _)]) ?_ (imp_covers ⟨rfl, rfl, rfl, rfl, rfl, rfl, trivial⟩)
          refine code_cond_d rfl (fun h3 => ?_) (fun h3 => ?_)
          · skip
            (try simp only [Decidable.not_not] at h3)
            refine code_seq (fun K13 hK13 => ?_)
            refine code_region ?_
            refine list_cons rfl (op_q (q_assign rfl (by decide)) ?_)
            refine list_nil ?_
            refine hK13 _ ?_; clear hK13 K13
            refine code_ret ?_
            refine then_r ?_; clear hK11 K11
            refine blk_r ?_
            refine then_r ?_; clear hK10 K10
            refine then_r ?_
            refine blk_r ?_
            refine blk_r ?_
            refine then_r ?_; clear hK6 K6
            refine then_r ?_
            refine blk_r ?_
            refine then_r ?_; clear hK2 K2
            refine ends_ret (cs := []) rfl rfl rfl rfl trivial ?_
            first
              | (rw [show i = n by omega]; done)
              | (exfalso
                 refine h3 ?_
                 rw [markI_get (n * 7) k (by omega)]
                 omega)
          · skip
            (try simp only [Decidable.not_not] at h3)
            refine code_skip ?_
            refine hK11 _ ?_; clear hK11 K11
            refine code_region ?_
            refine list_cons rfl (op_q (q_move rfl (by decide)) ?_)
            refine list_cons rfl (op_q (by first | exact q_addI rfl rfl (by decide) (by omega) (by omega) | exact q_ib rfl rfl rfl (by decide)) ?_)
            refine list_cons rfl (op_q (q_assign rfl (by decide)) ?_)
            refine list_nil ?_
            refine blk_n ?_
            refine hK10 _ ?_; clear hK10 K10
            refine code_region ?_
            refine list_cons rfl (op_q (q_move rfl (by decide)) ?_)
            refine list_cons rfl (op_q (by first | exact q_addI rfl rfl (by decide) (by omega) (by omega) | exact q_ib rfl rfl rfl (by decide)) ?_)
            refine list_cons rfl (op_q (q_assign rfl (by decide)) ?_)
            refine list_nil ?_
            refine then_n ⟨(_, _, _), imp_covers ⟨rfl, rfl, rfl, rfl, rfl, trivial⟩, ?_, ?_⟩
            · (try dsimp only)
              exact ⟨by omega, by omega, by omega⟩
            · (try dsimp only); omega
        · skip
          (try simp only [Decidable.not_not] at h2)
          refine code_exit ?_
          refine then_x ?_; clear hK8 K8
          refine then_x ?_
          refine blk_hit ?_
          refine blk_n ?_
          refine hK6 _ ?_; clear hK6 K6
          refine code_region ?_
          refine list_cons rfl (op_q (q_move rfl (by decide)) ?_)
          refine list_cons rfl (op_q (by first | exact q_addI rfl rfl (by decide) (by omega) (by omega) | exact q_ib rfl rfl rfl (by decide)) ?_)
          refine list_cons rfl (op_q (q_assign rfl (by decide)) ?_)
          refine list_nil ?_
          refine then_n ⟨(_, _, _), imp_covers ⟨rfl, rfl, rfl, rfl, trivial⟩, ?_, ?_⟩
          · (try dsimp only)
            exact ⟨by omega, by omega, by omega⟩
          · (try dsimp only); omega
    · skip
      (try simp only [Decidable.not_not] at h1)
      refine code_exit ?_
      refine then_x ?_; clear hK4 K4
      refine then_x ?_
      refine blk_hit ?_
      refine hK2 _ ?_; clear hK2 K2
      refine code_seq (fun K14 hK14 => ?_)
      refine code_region ?_
      refine list_cons rfl (op_q (q_move rfl (by decide)) ?_)
      refine list_cons rfl (op_q (q_assign rfl (by decide)) ?_)
      refine list_nil ?_
      refine hK14 _ ?_; clear hK14 K14
      refine code_ret ?_
      refine ends_ret (cs := []) rfl rfl rfl rfl trivial ?_
      first
        | (rw [show i = n by omega]; done)
        | (exfalso
           refine h1 ?_
           rw [markI_get (n * 7) k (by omega)]
           omega)

set_option maxRecDepth 4000 in
theorem markIntA7S_c (l : List Int) (m : Nat) (k : Int) (hll : l.length = m * 7) (hl : m ≤ 1048576) (p0 : -1099511627776 ≤ k) (p1 : k ≤ 1099511627776) : MCalls Tryd.prog 17 false (some (.own 50 7 m (l.map (.int .i64)))) [.int .i64 k] fun rs cs => rs = [.val (.int .i64 (k + m * 7))] ∧ cs = (markI (m * 7) k).map (.int .i64) := by
  refine mcalls_of_code (n := 26) az Tryd.func17 (by kernel_rfl) rfl rfl (Nat.le_of_ble_eq_true rfl) (by intro t u h; simp [Tryd.f17] at h) ?_
  refine code_seq (fun K1 hK1 => ?_)
  refine code_region ?_
  refine list_cons rfl (op_q (q_assign rfl (by decide)) ?_)
  refine list_nil ?_
  refine hK1 _ ?_; clear hK1 K1
  refine code_seq (fun K2 hK2 => ?_)
  refine code_seq (fun K3 hK3 => ?_)
  refine code_region ?_
  refine list_cons rfl (op_q (q_assign rfl (by decide)) ?_)
  refine list_nil ?_
  refine hK3 _ ?_; clear hK3 K3
  refine code_block ?_
  refine code_loop (X := Nat × List PV × Int × Int × Int) (fun x => [(0, .own 2000 50 7 x.1 x.2.1), (1, .val (.int .i64 x.2.2.1)), (4, .val (.int .i64 x.2.2.2.1)), (5, .val (.int .i64 x.2.2.2.2))]) (fun x => 0 ≤ x.2.2.2.2 ∧ x.2.2.2.2 ≤ m ∧ x.2.2.1 = k + x.2.2.2.2 * 7 ∧ m = x.1 ∧ x.2.1 = (markI (x.2.2.2.2.toNat * 7) k ++ l.drop (x.2.2.2.2.toNat * 7)).map (.int .i64)) (fun x => m - x.2.2.2.2.toNat) (_, _, _, _, _) (imp_covers ⟨rfl, rfl, rfl, rfl, trivial⟩) ?_ ?_
  · (try dsimp only)
    exact ⟨by omega, by omega, by omega, rfl, rfl⟩
  · intro x hI
    obtain ⟨a_n, a_c, k_, t4, i⟩ := x
    replace hI : 0 ≤ i ∧ i ≤ m ∧ k_ = k + i * 7 ∧ m = a_n ∧ a_c = (markI (i.toNat * 7) k ++ l.drop (i.toNat * 7)).map (.int .i64) := hI
    show codeT _ _ _ [(0, .own 2000 50 7 a_n a_c), (1, .val (.int .i64 k_)), (4, .val (.int .i64 t4)), (5, .val (.int .i64 i))] _
    obtain ⟨i1, i2, rfl, rfl, rfl⟩ := hI
    refine code_seq (fun K4 hK4 => ?_)
    refine code_seq (fun K5 hK5 => ?_)
    refine code_region ?_
    refine list_cons rfl (op_q (q_move rfl (by decide)) ?_)
    refine list_cons rfl (op_q (q_move rfl (by decide)) ?_)
    refine list_cons rfl (op_q (q_len_sl Tryd.underlying31 rfl rfl (by decide)) ?_)
    refine list_cons rfl (op_q (q_lt rfl rfl (by decide)) ?_)
    refine list_nil ?_
    refine hK5 _ ?_; clear hK5 K5
    refine code_cond_d rfl (fun h1 => ?_) (fun h1 => ?_)
    · skip
      (try simp only [Decidable.not_not] at h1)
      refine code_skip ?_
      refine hK4 _ ?_; clear hK4 K4
      refine code_seq (fun K6 hK6 => ?_)
      refine code_block ?_
      refine code_seq (fun K7 hK7 => ?_)
      refine code_region ?_
      refine list_cons rfl (op_q (q_assign rfl (by decide)) ?_)
      refine list_nil ?_
      refine hK7 _ ?_; clear hK7 K7
      refine code_block ?_
      refine code_loop (X := Nat × List PV × Int × Int × Int) (fun x => [(0, .own 2000 50 7 x.1 x.2.1), (1, .val (.int .i64 x.2.2.1)), (4, .val (.int .i64 x.2.2.2.1)), (5, .val (.int .i64 i)), (6, .val (.int .i64 x.2.2.2.2))]) (fun x => 0 ≤ x.2.2.2.2 ∧ x.2.2.2.2 ≤ 7 ∧ x.2.2.1 = k + i * 7 + x.2.2.2.2 ∧ m = x.1 ∧ x.2.1 = (markI (i.toNat * 7 + x.2.2.2.2.toNat) k ++ l.drop (i.toNat * 7 + x.2.2.2.2.toNat)).map (.int .i64)) (fun x => (7 - x.2.2.2.2).toNat) (_, _, _, _, _) (imp_covers ⟨rfl, rfl, rfl, rfl, rfl, trivial⟩) ?_ ?_
      · (try dsimp only)
        exact ⟨by omega, by omega, by omega, rfl, rfl⟩
      · intro x hI
        obtain ⟨a_n, a_c, k_, t4, j⟩ := x
        replace hI : 0 ≤ j ∧ j ≤ 7 ∧ k_ = k + i * 7 + j ∧ m = a_n ∧ a_c = (markI (i.toNat * 7 + j.toNat) k ++ l.drop (i.toNat * 7 + j.toNat)).map (.int .i64) := hI
        show codeT _ _ _ [(0, .own 2000 50 7 a_n a_c), (1, .val (.int .i64 k_)), (4, .val (.int .i64 t4)), (5, .val (.int .i64 i)), (6, .val (.int .i64 j))] _
        obtain ⟨j1, j2, rfl, rfl, rfl⟩ := hI
        refine code_seq (fun K8 hK8 => ?_)
        refine code_seq (fun K9 hK9 => ?_)
        refine code_region ?_
        refine list_cons rfl (op_q (q_move rfl (by decide)) ?_)
        refine list_cons rfl (op_q (q_lt rfl rfl (by decide)) ?_)
        refine list_nil ?_
        refine hK9 _ ?_; clear hK9 K9
        refine code_cond_d rfl (fun h2 => ?_) (fun h2 => ?_)
        · skip
          (try simp only [Decidable.not_not] at h2)
          refine code_skip ?_
          refine hK8 _ ?_; clear hK8 K8
          refine code_seq (fun K10 hK10 => ?_)
          refine code_block ?_
          refine code_seq (fun K11 hK11 => ?_)
          refine code_region ?_
          refine list_cons rfl (op_q (q_move rfl (by decide)) ?_)
          refine list_cons rfl (op_q (q_move rfl (by decide)) ?_)
          refine list_cons rfl (op_q (q_move rfl (by decide)) ?_)
          refine list_cons rfl (op_q (q_move rfl (by decide)) ?_)
          refine list_cons rfl (op_q (q_indexAddr_own sl_31 rfl rfl (by omega) (by omega) (by decide)) ?_)
          refine list_cons rfl (op_q (q_indexAddr_arr arr_50 rfl rfl rfl (by omega) (by omega) (by decide)) ?_)
          refine list_cons rfl (op_store (one_3).2 0 [0, 17] (by intro t ht; simp only [List.mem_cons, List.not_mem_nil, or_false] at ht; rcases ht with rfl | rfl <;> rfl) (.inl rfl) rfl rfl rfl rfl rfl rfl (by simp [markI]; omega) (by decide) rfl ?_)
          refine list_nil ?_
          refine hK11 _ ?_; clear hK11 K11
          refine codeT.imp (σ' := [(0, _), (1, _), (4, _), (5, _), (6, _)]) ?_ (imp_covers ⟨rfl, rfl, rfl, rfl, rfl, trivial⟩)
          refine code_region ?_
          refine list_cons rfl (op_q (q_move rfl (by decide)) ?_)
          refine list_cons rfl (op_q (by first | exact q_addI rfl rfl (by decide) (by omega) (by omega) | exact q_ib rfl rfl rfl (by decide)) ?_)
          refine list_cons rfl (op_q (q_assign rfl (by decide)) ?_)
          refine list_nil ?_
          refine blk_n ?_
          refine hK10 _ ?_; clear hK10 K10
          refine code_region ?_
          refine list_cons rfl (op_q (q_move rfl (by decide)) ?_)
          refine list_cons rfl (op_q (by first | exact q_addI rfl rfl (by decide) (by omega) (by omega) | exact q_ib rfl rfl rfl (by decide)) ?_)
          refine list_cons rfl (op_q (q_assign rfl (by decide)) ?_)
          refine list_nil ?_
          refine then_n ⟨(_, _, _, _, _), imp_covers ⟨rfl, rfl, rfl, rfl, rfl, trivial⟩, ?_, ?_⟩
          · (try dsimp only)
            refine ⟨by omega, by omega, by omega, rfl, ?_⟩
            have hp := markI_fill l k (j := i.toNat * 7 + j.toNat) (by omega)
            rw [show (i.toNat * 7 + j.toNat) * 1 = i.toNat * 7 + j.toNat * 1 by omega, show k + ((i.toNat * 7 + j.toNat : Nat) : Int) = k + i * 7 + j by omega] at hp
            rw [show i.toNat * 7 + (j + 1).toNat = i.toNat * 7 + j.toNat + 1 by omega]
            exact hp
          · (try dsimp only); omega
        · skip
          (try simp only [Decidable.not_not] at h2)
          refine code_exit ?_
          refine then_x ?_; clear hK8 K8
          refine then_x ?_
          refine blk_hit ?_
          refine blk_n ?_
          refine hK6 _ ?_; clear hK6 K6
          refine code_region ?_
          refine list_cons rfl (op_q (q_move rfl (by decide)) ?_)
          refine list_cons rfl (op_q (by first | exact q_addI rfl rfl (by decide) (by omega) (by omega) | exact q_ib rfl rfl rfl (by decide)) ?_)
          refine list_cons rfl (op_q (q_assign rfl (by decide)) ?_)
          refine list_nil ?_
          refine then_n ⟨(_, _, _, _, _), imp_covers ⟨rfl, rfl, rfl, rfl, trivial⟩, ?_, ?_⟩
          · (try dsimp only)
            exact ⟨by omega, by omega, by omega, rfl, by rw [show (i + 1).toNat * 7 = i.toNat * 7 + j.toNat by omega]⟩
          · (try dsimp only); omega
    · skip
      (try simp only [Decidable.not_not] at h1)
      refine code_exit ?_
      refine then_x ?_; clear hK4 K4
      refine then_x ?_
      refine blk_hit ?_
      refine hK2 _ ?_; clear hK2 K2
      refine code_seq (fun K12 hK12 => ?_)
      refine code_region ?_
      refine list_cons rfl (op_q (q_move rfl (by decide)) ?_)
      refine list_cons rfl (op_q (q_assign rfl (by decide)) ?_)
      refine list_nil ?_
      refine hK12 _ ?_; clear hK12 K12
      refine code_ret ?_
      refine ends_ret (cs := _) rfl rfl rfl rfl rfl ?_
      exact ⟨by rw [show i = m by omega], by rw [show i.toNat * 7 = m * 7 by omega, ← hll, List.drop_length, List.append_nil]⟩

end Go.Proofs.YtilpfcpjmfchbaaDoor
