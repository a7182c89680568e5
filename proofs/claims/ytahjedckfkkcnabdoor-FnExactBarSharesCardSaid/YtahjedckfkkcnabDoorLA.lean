/- Contracts of functions, walked over the pure layer; each says for which arguments. -/
import Derived.Test.YtahjedckfkkcnabDoorLATy
import Derived.Test.YtahjedckfkkcnabDoorTf
import Derived.Test.YtahjedckfkkcnabDoorSp
namespace Go.Proofs.YtahjedckfkkcnabDoor
open Go.RowKit LATy
set_option linter.unusedVariables false
set_option linter.unusedSimpArgs false

set_option maxRecDepth 4000 in
theorem eqIntA10_c (l : List Int) (hl : l.length = 10) : PCalls Tryd.prog 37 [.agg (l.map (.int .i64)), .agg (l.map (.int .i64))] (· = [.val (.bool true)]) := by
  refine pcalls_of_code (n := 17) az Tryd.func37 (by kernel_rfl) rfl rfl (Nat.le_of_ble_eq_true rfl) (by intro t u h; simp [Tryd.f37] at h) ?_
  have hfl := flat_map (PV.int .i64) (fun _ => rfl) l
  rw [show inits false 0 [.agg (l.map (.int .i64)), .agg (l.map (.int .i64))] = [(0, SV.val (.agg (l.map (.int .i64)))), (1, SV.val (.agg (l.map (.int .i64))))] from by simp [inits, PV.start, PV.flat, hfl]]
  refine code_seq (fun K1 hK1 => ?_)
  refine code_region ?_
  refine list_cons rfl (op_box rfl (.inl ⟨rfl, hfl⟩) (by decide) (by decide) rfl ?_)
  refine list_cons rfl (op_box rfl (.inl ⟨rfl, hfl⟩) (by decide) (by decide) rfl ?_)
  refine list_cons rfl (op_q (q_assign rfl (by decide)) ?_)
  refine list_nil ?_
  refine hK1 _ ?_; clear hK1 K1
  refine code_seq (fun K2 hK2 => ?_)
  refine code_seq (fun K3 hK3 => ?_)
  refine code_region ?_
  refine list_cons rfl (op_q (q_assign rfl (by decide)) ?_)
  refine list_nil ?_
  refine hK3 _ ?_; clear hK3 K3
  refine code_block ?_
  refine code_loop (X := Bool × Int) (fun x => [(0, .val (.agg (l.map (.int .i64)))), (1, .val (.agg (l.map (.int .i64)))), (2, .box 2 22 (l.map (.int .i64))), (3, .box 3 22 (l.map (.int .i64))), (4, .val (.bool x.1)), (5, .val (.int .i64 x.2))]) (fun x => 0 ≤ x.2 ∧ x.2 ≤ 10) (fun x => (10 - x.2).toNat) (_, _) (imp_covers ⟨rfl, rfl, rfl, rfl, rfl, rfl, trivial⟩) ?_ ?_
  · (try dsimp only)
    exact ⟨by omega, by omega⟩
  · intro x hI
    obtain ⟨t4, i⟩ := x
    replace hI : 0 ≤ i ∧ i ≤ 10 := hI
    show codeT _ _ _ [(0, .val (.agg (l.map (.int .i64)))), (1, .val (.agg (l.map (.int .i64)))), (2, .box 2 22 (l.map (.int .i64))), (3, .box 3 22 (l.map (.int .i64))), (4, .val (.bool t4)), (5, .val (.int .i64 i))] _
    obtain ⟨i1, i2⟩ := hI
    refine code_seq (fun K4 hK4 => ?_)
    refine code_seq (fun K5 hK5 => ?_)
    refine code_region ?_
    refine list_cons rfl (op_q (q_move rfl (by decide)) ?_)
    refine list_cons rfl (op_q (q_lt rfl rfl (by decide)) ?_)
    refine list_nil ?_
    refine hK5 _ ?_; clear hK5 K5
    refine code_cond_d rfl (fun h1 => ?_) (fun h1 => ?_)
    · skip
      (try simp only [Decidable.not_not] at h1)
      refine code_skip ?_
      refine hK4 _ ?_; clear hK4 K4
      refine code_seq (fun K6 hK6 => ?_)
      refine code_block ?_
      refine code_seq (fun K7 hK7 => ?_)
      refine code_draw (by kernel_rfl) (by kernel_rfl) ?_
      refine draw_q rfl (q_move rfl (by decide)) ?_
      refine draw_q rfl (q_indexAddr_arr arr_22 rfl rfl rfl (by omega) (by omega) (by decide)) ?_
      refine draw_q rfl (q_load one_3 2 rfl rfl rfl (get_map1 (PV.int .i64) 0 l (by omega)) (by decide)) ?_
      refine draw_q rfl (q_move rfl (by decide)) ?_
      refine draw_q rfl (q_indexAddr_arr arr_22 rfl rfl rfl (by omega) (by omega) (by decide)) ?_
      refine draw_q rfl (q_load one_3 3 rfl rfl rfl (get_map1 (PV.int .i64) 0 l (by omega)) (by decide)) ?_
      refine draw_q rfl (q_ne rfl rfl (by decide)) ?_
      refine draw_nil ?_
      refine hK7 _ ?_; clear hK7 K7
      refine codeT.imp (σ' := [(0, _), (1, _), (2, _), (3, _), (4, _), (5, _), (16, _)]) ?_ (imp_covers ⟨rfl, rfl, rfl, rfl, rfl, rfl, rfl, trivial⟩)
      refine code_cond_d rfl (fun h2 => ?_) (fun h2 => ?_)
      · skip
        (try simp only [Decidable.not_not] at h2)
        exfalso
        exact absurd rfl h2
      · skip
        (try simp only [Decidable.not_not] at h2)
        refine code_skip ?_
        refine blk_n ?_
        refine hK6 _ ?_; clear hK6 K6
        refine code_region ?_
        refine list_cons rfl (op_q (q_move rfl (by decide)) ?_)
        refine list_cons rfl (op_q (by first | exact q_addI rfl rfl (by decide) (by omega) (by omega) | exact q_ib rfl rfl rfl (by decide)) ?_)
        refine list_cons rfl (op_q (q_assign rfl (by decide)) ?_)
        refine list_nil ?_
        refine then_n ⟨(_, _), imp_covers ⟨rfl, rfl, rfl, rfl, rfl, rfl, trivial⟩, ?_, ?_⟩
        · (try dsimp only)
          exact ⟨by omega, by omega⟩
        · (try dsimp only); omega
    · skip
      (try simp only [Decidable.not_not] at h1)
      refine code_exit ?_
      refine then_x ?_; clear hK4 K4
      refine then_x ?_
      refine blk_hit ?_
      refine hK2 _ ?_; clear hK2 K2
      refine code_seq (fun K8 hK8 => ?_)
      refine code_region ?_
      refine list_cons rfl (op_q (q_assign rfl (by decide)) ?_)
      refine list_nil ?_
      refine hK8 _ ?_; clear hK8 K8
      refine code_ret ?_
      refine ends_ret (cs := []) rfl rfl rfl rfl trivial ?_
      rfl

set_option maxRecDepth 4000 in
theorem eqIntA7_c (l : List Int) (hl : l.length = 7) : PCalls Tryd.prog 15 [.agg (l.map (.int .i64)), .agg (l.map (.int .i64))] (· = [.val (.bool true)]) := by
  refine pcalls_of_code (n := 17) az Tryd.func15 (by kernel_rfl) rfl rfl (Nat.le_of_ble_eq_true rfl) (by intro t u h; simp [Tryd.f15] at h) ?_
  have hfl := flat_map (PV.int .i64) (fun _ => rfl) l
  rw [show inits false 0 [.agg (l.map (.int .i64)), .agg (l.map (.int .i64))] = [(0, SV.val (.agg (l.map (.int .i64)))), (1, SV.val (.agg (l.map (.int .i64))))] from by simp [inits, PV.start, PV.flat, hfl]]
  refine code_seq (fun K1 hK1 => ?_)
  refine code_region ?_
  refine list_cons rfl (op_box rfl (.inl ⟨rfl, hfl⟩) (by decide) (by decide) rfl ?_)
  refine list_cons rfl (op_box rfl (.inl ⟨rfl, hfl⟩) (by decide) (by decide) rfl ?_)
  refine list_cons rfl (op_q (q_assign rfl (by decide)) ?_)
  refine list_nil ?_
  refine hK1 _ ?_; clear hK1 K1
  refine code_seq (fun K2 hK2 => ?_)
  refine code_seq (fun K3 hK3 => ?_)
  refine code_region ?_
  refine list_cons rfl (op_q (q_assign rfl (by decide)) ?_)
  refine list_nil ?_
  refine hK3 _ ?_; clear hK3 K3
  refine code_block ?_
  refine code_loop (X := Bool × Int) (fun x => [(0, .val (.agg (l.map (.int .i64)))), (1, .val (.agg (l.map (.int .i64)))), (2, .box 2 27 (l.map (.int .i64))), (3, .box 3 27 (l.map (.int .i64))), (4, .val (.bool x.1)), (5, .val (.int .i64 x.2))]) (fun x => 0 ≤ x.2 ∧ x.2 ≤ 7) (fun x => (7 - x.2).toNat) (_, _) (imp_covers ⟨rfl, rfl, rfl, rfl, rfl, rfl, trivial⟩) ?_ ?_
  · (try dsimp only)
    exact ⟨by omega, by omega⟩
  · intro x hI
    obtain ⟨t4, i⟩ := x
    replace hI : 0 ≤ i ∧ i ≤ 7 := hI
    show codeT _ _ _ [(0, .val (.agg (l.map (.int .i64)))), (1, .val (.agg (l.map (.int .i64)))), (2, .box 2 27 (l.map (.int .i64))), (3, .box 3 27 (l.map (.int .i64))), (4, .val (.bool t4)), (5, .val (.int .i64 i))] _
    obtain ⟨i1, i2⟩ := hI
    refine code_seq (fun K4 hK4 => ?_)
    refine code_seq (fun K5 hK5 => ?_)
    refine code_region ?_
    refine list_cons rfl (op_q (q_move rfl (by decide)) ?_)
    refine list_cons rfl (op_q (q_lt rfl rfl (by decide)) ?_)
    refine list_nil ?_
    refine hK5 _ ?_; clear hK5 K5
    refine code_cond_d rfl (fun h1 => ?_) (fun h1 => ?_)
    · skip
      (try simp only [Decidable.not_not] at h1)
      refine code_skip ?_
      refine hK4 _ ?_; clear hK4 K4
      refine code_seq (fun K6 hK6 => ?_)
      refine code_block ?_
      refine code_seq (fun K7 hK7 => ?_)
      refine code_draw (by kernel_rfl) (by kernel_rfl) ?_
      refine draw_q rfl (q_move rfl (by decide)) ?_
      refine draw_q rfl (q_indexAddr_arr arr_27 rfl rfl rfl (by omega) (by omega) (by decide)) ?_
      refine draw_q rfl (q_load one_3 2 rfl rfl rfl (get_map1 (PV.int .i64) 0 l (by omega)) (by decide)) ?_
      refine draw_q rfl (q_move rfl (by decide)) ?_
      refine draw_q rfl (q_indexAddr_arr arr_27 rfl rfl rfl (by omega) (by omega) (by decide)) ?_
      refine draw_q rfl (q_load one_3 3 rfl rfl rfl (get_map1 (PV.int .i64) 0 l (by omega)) (by decide)) ?_
      refine draw_q rfl (q_ne rfl rfl (by decide)) ?_
      refine draw_nil ?_
      refine hK7 _ ?_; clear hK7 K7
      refine codeT.imp (σ' := [(0, _), (1, _), (2, _), (3, _), (4, _), (5, _), (16, _)]) ?_ (imp_covers ⟨rfl, rfl, rfl, rfl, rfl, rfl, rfl, trivial⟩)
      refine code_cond_d rfl (fun h2 => ?_) (fun h2 => ?_)
      · skip
        (try simp only [Decidable.not_not] at h2)
        exfalso
        exact absurd rfl h2
      · skip
        (try simp only [Decidable.not_not] at h2)
        refine code_skip ?_
        refine blk_n ?_
        refine hK6 _ ?_; clear hK6 K6
        refine code_region ?_
        refine list_cons rfl (op_q (q_move rfl (by decide)) ?_)
        refine list_cons rfl (op_q (by first | exact q_addI rfl rfl (by decide) (by omega) (by omega) | exact q_ib rfl rfl rfl (by decide)) ?_)
        refine list_cons rfl (op_q (q_assign rfl (by decide)) ?_)
        refine list_nil ?_
        refine then_n ⟨(_, _), imp_covers ⟨rfl, rfl, rfl, rfl, rfl, rfl, trivial⟩, ?_, ?_⟩
        · (try dsimp only)
          exact ⟨by omega, by omega⟩
        · (try dsimp only); omega
    · skip
      (try simp only [Decidable.not_not] at h1)
      refine code_exit ?_
      refine then_x ?_; clear hK4 K4
      refine then_x ?_
      refine blk_hit ?_
      refine hK2 _ ?_; clear hK2 K2
      refine code_seq (fun K8 hK8 => ?_)
      refine code_region ?_
      refine list_cons rfl (op_q (q_assign rfl (by decide)) ?_)
      refine list_nil ?_
      refine hK8 _ ?_; clear hK8 K8
      refine code_ret ?_
      refine ends_ret (cs := []) rfl rfl rfl rfl trivial ?_
      rfl

set_option maxRecDepth 4000 in
theorem eqIntA10A10_c (l : List Int) (hl : l.length = 100) : PCalls Tryd.prog 12 [.agg (l.map (.int .i64)), .agg (l.map (.int .i64))] (· = [.val (.bool true)]) := by
  refine pcalls_of_code (n := 18) az Tryd.func12 (by kernel_rfl) rfl rfl (Nat.le_of_ble_eq_true rfl) (by intro t u h; simp [Tryd.f12] at h) ?_
  have hfl := flat_map (PV.int .i64) (fun _ => rfl) l
  rw [show inits false 0 [.agg (l.map (.int .i64)), .agg (l.map (.int .i64))] = [(0, SV.val (.agg (l.map (.int .i64)))), (1, SV.val (.agg (l.map (.int .i64))))] from by simp [inits, PV.start, PV.flat, hfl]]
  refine code_seq (fun K1 hK1 => ?_)
  refine code_region ?_
  refine list_cons rfl (op_box rfl (.inl ⟨rfl, hfl⟩) (by decide) (by decide) rfl ?_)
  refine list_cons rfl (op_box rfl (.inl ⟨rfl, hfl⟩) (by decide) (by decide) rfl ?_)
  refine list_cons rfl (op_q (q_assign rfl (by decide)) ?_)
  refine list_nil ?_
  refine hK1 _ ?_; clear hK1 K1
  refine code_seq (fun K2 hK2 => ?_)
  refine code_seq (fun K3 hK3 => ?_)
  refine code_region ?_
  refine list_cons rfl (op_q (q_assign rfl (by decide)) ?_)
  refine list_nil ?_
  refine hK3 _ ?_; clear hK3 K3
  refine code_block ?_
  refine code_loop (X := Bool × Int) (fun x => [(0, .val (.agg (l.map (.int .i64)))), (1, .val (.agg (l.map (.int .i64)))), (2, .box 2 23 (l.map (.int .i64))), (3, .box 3 23 (l.map (.int .i64))), (4, .val (.bool x.1)), (5, .val (.int .i64 x.2))]) (fun x => 0 ≤ x.2 ∧ x.2 ≤ 10) (fun x => (10 - x.2).toNat) (_, _) (imp_covers ⟨rfl, rfl, rfl, rfl, rfl, rfl, trivial⟩) ?_ ?_
  · (try dsimp only)
    exact ⟨by omega, by omega⟩
  · intro x hI
    obtain ⟨t4, i⟩ := x
    replace hI : 0 ≤ i ∧ i ≤ 10 := hI
    show codeT _ _ _ [(0, .val (.agg (l.map (.int .i64)))), (1, .val (.agg (l.map (.int .i64)))), (2, .box 2 23 (l.map (.int .i64))), (3, .box 3 23 (l.map (.int .i64))), (4, .val (.bool t4)), (5, .val (.int .i64 i))] _
    obtain ⟨i1, i2⟩ := hI
    refine code_seq (fun K4 hK4 => ?_)
    refine code_seq (fun K5 hK5 => ?_)
    refine code_region ?_
    refine list_cons rfl (op_q (q_move rfl (by decide)) ?_)
    refine list_cons rfl (op_q (q_lt rfl rfl (by decide)) ?_)
    refine list_nil ?_
    refine hK5 _ ?_; clear hK5 K5
    refine code_cond_d rfl (fun h1 => ?_) (fun h1 => ?_)
    · skip
      (try simp only [Decidable.not_not] at h1)
      refine code_skip ?_
      refine hK4 _ ?_; clear hK4 K4
      refine code_seq (fun K6 hK6 => ?_)
      refine code_block ?_
      refine code_seq (fun K7 hK7 => ?_)
      refine code_draw (by kernel_rfl) (by kernel_rfl) ?_
      refine draw_q rfl (q_move rfl (by decide)) ?_
      refine draw_q rfl (q_indexAddr_arr arr_23 rfl rfl rfl (by omega) (by omega) (by decide)) ?_
      refine draw_q rfl (q_load_agg agg_22 2 (.inl rfl) rfl rfl (by simp; omega) (by first | rfl | exact flat_part (flat_map _ (fun _ => rfl) _) _ _) (by decide)) ?_
      refine draw_q rfl (q_move rfl (by decide)) ?_
      refine draw_q rfl (q_indexAddr_arr arr_23 rfl rfl rfl (by omega) (by omega) (by decide)) ?_
      refine draw_q rfl (q_load_agg agg_22 3 (.inl rfl) rfl rfl (by simp; omega) (by first | rfl | exact flat_part (flat_map _ (fun _ => rfl) _) _ _) (by decide)) ?_
      refine draw_call _ ((by rw [← List.map_drop, ← List.map_take]; exact eqIntA10_c _ (by simp; omega))) rfl rfl rfl (by decide) ?_
      refine draw_q rfl (by first | exact q_notd rfl (by decide) | exact q_not rfl (by decide)) ?_
      refine draw_nil ?_
      refine hK7 _ ?_; clear hK7 K7
      refine codeT.imp (σ' := [(0, _), (1, _), (2, _), (3, _), (4, _), (5, _), (17, _)]) ?_ (imp_covers ⟨rfl, rfl, rfl, rfl, rfl, rfl, rfl, trivial⟩)
      refine code_cond_f rfl ?_
      refine code_skip ?_
      refine blk_n ?_
      refine hK6 _ ?_; clear hK6 K6
      refine code_region ?_
      refine list_cons rfl (op_q (q_move rfl (by decide)) ?_)
      refine list_cons rfl (op_q (by first | exact q_addI rfl rfl (by decide) (by omega) (by omega) | exact q_ib rfl rfl rfl (by decide)) ?_)
      refine list_cons rfl (op_q (q_assign rfl (by decide)) ?_)
      refine list_nil ?_
      refine then_n ⟨(_, _), imp_covers ⟨rfl, rfl, rfl, rfl, rfl, rfl, trivial⟩, ?_, ?_⟩
      · (try dsimp only)
        exact ⟨by omega, by omega⟩
      · (try dsimp only); omega
    · skip
      (try simp only [Decidable.not_not] at h1)
      refine code_exit ?_
      refine then_x ?_; clear hK4 K4
      refine then_x ?_
      refine blk_hit ?_
      refine hK2 _ ?_; clear hK2 K2
      refine code_seq (fun K8 hK8 => ?_)
      refine code_region ?_
      refine list_cons rfl (op_q (q_assign rfl (by decide)) ?_)
      refine list_nil ?_
      refine hK8 _ ?_; clear hK8 K8
      refine code_ret ?_
      refine ends_ret (cs := []) rfl rfl rfl rfl trivial ?_
      rfl

end Go.Proofs.YtahjedckfkkcnabDoor
