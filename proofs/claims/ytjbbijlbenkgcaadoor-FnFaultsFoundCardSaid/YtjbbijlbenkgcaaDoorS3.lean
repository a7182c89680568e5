/- Contracts of functions, walked over the pure layer; each says for which arguments. -/
import Derived.Test.YtjbbijlbenkgcaaDoorS3Ty
import Derived.Test.YtjbbijlbenkgcaaDoorTf
import Derived.Test.YtjbbijlbenkgcaaDoorSp
namespace Go.Proofs.YtjbbijlbenkgcaaDoor
open Go.RowKit S3Ty
set_option linter.unusedVariables false
set_option linter.unusedSimpArgs false

def FaultP (fx fy : Int) : Prop := (0 ≤ fx ∧ fx ≤ 127) ∧ (0 ≤ fy ∧ fy ≤ 127) ∧ fx.toNat &&& fy.toNat = 0
instance (fx fy : Int) : Decidable (FaultP fx fy) := by unfold FaultP; infer_instance
def shB (fx fy c : Nat) : Nat := (c - (c &&& fx)) ||| fy
def shF (fx fy c : Int) : Int := ((shB fx.toNat fy.toNat c.toNat : Nat) : Int)
theorem shF_cell {fx fy c : Int} (hy : 0 ≤ fy ∧ fy ≤ 127) (hc : 0 ≤ c ∧ c ≤ 127) : 0 ≤ shF fx fy c ∧ shF fx fy c ≤ 127 := by
  have h := @Nat.or_lt_two_pow (c.toNat - (c.toNat &&& fx.toNat)) fy.toNat 7 (by omega) (by omega)
  unfold shF shB
  omega
theorem FaultP.b {fx fy : Int} (h : FaultP fx fy) : 0 ≤ fx ∧ fx ≤ 127 ∧ 0 ≤ fy ∧ fy ≤ 127 := by
  have h1 := h.1
  have h2 := h.2.1
  omega
theorem or7b {fx fy : Int} (hx : 0 ≤ fx ∧ fx ≤ 127) (hy : 0 ≤ fy ∧ fy ≤ 127) : 0 ≤ ((fx.toNat ||| fy.toNat : Nat) : Int) ∧ ((fx.toNat ||| fy.toNat : Nat) : Int) ≤ 127 := by
  have h := @Nat.or_lt_two_pow fx.toNat fy.toNat 7 (by omega) (by omega)
  omega

/-- The digits below k that show a cell. -/
def digsK (fx fy c : Int) (k : Nat) : List Int := ((List.range k).filter fun (d : Nat) => shF fx fy (digT.getD d 0) = c).map fun (d : Nat) => (d : Int)
theorem digsK_succ (fx fy c : Int) (k : Nat) : digsK fx fy c (k + 1) = digsK fx fy c k ++ if shF fx fy (digT.getD k 0) = c then [(k : Int)] else [] := by
  unfold digsK
  rw [List.range_succ, List.filter_append, List.map_append]
  congr 1
  rw [List.filter_cons]
  by_cases h : shF fx fy (digT.getD k 0) = c
  · rw [if_pos (decide_eq_true h), if_pos h]; rfl
  · rw [if_neg (fun e => h (of_decide_eq_true e)), if_neg h]; rfl
theorem digsK_len (fx fy c : Int) (k : Nat) : (digsK fx fy c k).length ≤ k := by
  unfold digsK
  rw [List.length_map]
  exact Nat.le_trans (List.length_filter_le _ _) (by simp)
def digs (fx fy c : Int) : List Int := digsK fx fy c 10
theorem digs_len (fx fy c : Int) : (digs fx fy c).length ≤ 10 := digsK_len fx fy c 10

set_option maxRecDepth 4000 in
theorem spec_l3Fault (fx fy : Int) : PCalls Tryd.prog 75 [.agg [.int .i64 fx, .int .i64 fy]] (· = [.val (.bool (decide (FaultP fx fy)))]) := by
  refine pcalls_of_code (n := 19) az Tryd.func75 (by kernel_rfl) rfl rfl (Nat.le_of_ble_eq_true rfl) (by intro t u h; simp [Tryd.f75] at h) ?_
  refine code_seq (fun K1 hK1 => ?_)
  refine code_region ?_
  refine list_cons rfl (op_box rfl (.inl ⟨rfl, rfl⟩) (by decide) (by decide) rfl ?_)
  refine list_cons rfl (op_q (q_assign rfl (by decide)) ?_)
  refine list_nil ?_
  refine hK1 _ ?_; clear hK1 K1
  refine code_seq (fun K2 hK2 => ?_)
  refine code_region ?_
  refine list_cons rfl (op_q (q_fieldAddr fi_42_0 rfl rfl (by decide)) ?_)
  refine list_cons rfl (op_q (q_load one_3 1 rfl rfl rfl (by first | rfl | exact get_map1 _ 0 _ (by first | omega | (simp; omega))) (by decide)) ?_)
  refine list_cons rfl (op_call _ (spec_l2Cell _) rfl rfl (by decide) (by decide) (by decide) rfl ?_)
  rintro _ rfl
  refine list_cons rfl (op_q (q_move rfl (by decide)) ?_)
  refine list_guard_d rfl rfl rfl rfl (by decide) rfl (by decide) (fun h1 => ?_) (fun h1 => ?_)
  · simp only [Bool.false_eq_true, if_true, if_false, Decidable.not_not] at h1
    refine id (op_q (q_fieldAddr fi_42_1 rfl rfl (by decide)) ?_)
    refine list_guard_y rfl rfl rfl rfl (by decide) rfl ?_
    refine id (op_q (q_load one_3 1 rfl rfl rfl (by first | rfl | exact get_map1 _ 0 _ (by first | omega | (simp; omega))) (by decide)) ?_)
    refine list_guard_y rfl rfl rfl rfl (by decide) rfl ?_
    refine id (op_call _ (spec_l2Cell _) rfl rfl (by decide) (by decide) (by decide) rfl ?_)
    rintro _ rfl
    refine list_cons rfl (op_q (q_pick rfl rfl (by decide)) ?_)
    refine list_cons rfl (op_q (q_move rfl (by decide)) ?_)
    refine list_guard_d rfl rfl rfl rfl (by decide) rfl (by decide) (fun h2 => ?_) (fun h2 => ?_)
    · simp only [Bool.false_eq_true, if_true, if_false, Decidable.not_not] at h2
      refine id (op_q (q_fieldAddr fi_42_0 rfl rfl (by decide)) ?_)
      refine list_guard_y rfl rfl rfl rfl (by decide) rfl ?_
      refine id (op_q (q_load one_3 1 rfl rfl rfl (by first | rfl | exact get_map1 _ 0 _ (by first | omega | (simp; omega))) (by decide)) ?_)
      refine list_guard_y rfl rfl rfl rfl (by decide) rfl ?_
      refine id (op_q (q_fieldAddr fi_42_1 rfl rfl (by decide)) ?_)
      refine list_guard_y rfl rfl rfl rfl (by decide) rfl ?_
      refine id (op_q (q_load one_3 1 rfl rfl rfl (by first | rfl | exact get_map1 _ 0 _ (by first | omega | (simp; omega))) (by decide)) ?_)
      refine list_guard_y rfl rfl rfl rfl (by decide) rfl ?_
      refine id (op_q (by first | exact q_andI rfl rfl (by decide) (by omega) (by omega) (by omega) (by omega) | exact q_ib rfl rfl rfl (by decide)) ?_)
      refine list_guard_y rfl rfl rfl rfl (by decide) rfl ?_
      refine id (op_q (q_eq rfl rfl (by decide)) ?_)
      refine list_cons rfl (op_q (q_pick rfl rfl (by decide)) ?_)
      refine list_cons rfl (op_q (q_assign rfl (by decide)) ?_)
      refine list_nil ?_
      refine hK2 _ ?_; clear hK2 K2
      refine codeT.imp (σ' := [(0, _), (1, _), (2, _)]) ?_ (imp_covers ⟨rfl, rfl, rfl, trivial⟩)
      refine code_ret ?_
      refine ends_ret (cs := []) rfl rfl rfl rfl trivial ?_
      congr 3
      exact decide_eq_decide.mpr ⟨fun k => ⟨h1, h2, by omega⟩, fun k => by have := k.2.2; omega⟩
    · simp only [Bool.false_eq_true, if_true, if_false, Decidable.not_not] at h2
      refine list_guard_n rfl rfl rfl rfl (by decide) rfl ?_
      refine list_guard_n rfl rfl rfl rfl (by decide) rfl ?_
      refine list_guard_n rfl rfl rfl rfl (by decide) rfl ?_
      refine list_guard_n rfl rfl rfl rfl (by decide) rfl ?_
      refine list_guard_n rfl rfl rfl rfl (by decide) rfl ?_
      refine list_cons rfl (op_q (q_pick rfl rfl (by decide)) ?_)
      refine list_cons rfl (op_q (q_assign rfl (by decide)) ?_)
      refine list_nil ?_
      refine hK2 _ ?_; clear hK2 K2
      refine codeT.imp (σ' := [(0, _), (1, _), (2, _)]) ?_ (imp_covers ⟨rfl, rfl, rfl, trivial⟩)
      refine code_ret ?_
      refine ends_ret (cs := []) rfl rfl rfl rfl trivial ?_
      rw [decide_eq_false (fun k => h2 k.2.1)]
  · simp only [Bool.false_eq_true, if_true, if_false, Decidable.not_not] at h1
    refine list_guard_n rfl rfl rfl rfl (by decide) rfl ?_
    refine list_guard_n rfl rfl rfl rfl (by decide) rfl ?_
    refine list_cons rfl (op_q (q_pick rfl rfl (by decide)) ?_)
    refine list_cons rfl (op_q (q_move rfl (by decide)) ?_)
    refine list_guard_n rfl rfl rfl rfl (by decide) rfl ?_
    refine list_guard_n rfl rfl rfl rfl (by decide) rfl ?_
    refine list_guard_n rfl rfl rfl rfl (by decide) rfl ?_
    refine list_guard_n rfl rfl rfl rfl (by decide) rfl ?_
    refine list_guard_n rfl rfl rfl rfl (by decide) rfl ?_
    refine list_guard_n rfl rfl rfl rfl (by decide) rfl ?_
    refine list_cons rfl (op_q (q_pick rfl rfl (by decide)) ?_)
    refine list_cons rfl (op_q (q_assign rfl (by decide)) ?_)
    refine list_nil ?_
    refine hK2 _ ?_; clear hK2 K2
    refine codeT.imp (σ' := [(0, _), (1, _), (2, _)]) ?_ (imp_covers ⟨rfl, rfl, rfl, trivial⟩)
    refine code_ret ?_
    refine ends_ret (cs := []) rfl rfl rfl rfl trivial ?_
    rw [decide_eq_false (fun k => h1 k.1)]

set_option maxRecDepth 4000 in
theorem spec_l3Shown (fx fy c : Int) (hx : 0 ≤ fx ∧ fx ≤ 127) (hy : 0 ≤ fy ∧ fy ≤ 127) (hc : 0 ≤ c ∧ c ≤ 127) : PCalls Tryd.prog 68 [.agg [.int .i64 fx, .int .i64 fy], .int .i64 c] (· = [.val (.int .i64 (shF fx fy c))]) := by
  refine pcalls_of_code (n := 14) az Tryd.func68 (by kernel_rfl) rfl rfl (Nat.le_of_ble_eq_true rfl) (by intro t u h; simp [Tryd.f68] at h) ?_
  have ha : c.toNat &&& fx.toNat ≤ c.toNat := Nat.and_le_left
  refine code_seq (fun K1 hK1 => ?_)
  refine code_region ?_
  refine list_cons rfl (op_box rfl (.inl ⟨rfl, rfl⟩) (by decide) (by decide) rfl ?_)
  refine list_cons rfl (op_q (q_assign rfl (by decide)) ?_)
  refine list_nil ?_
  refine hK1 _ ?_; clear hK1 K1
  refine code_seq (fun K2 hK2 => ?_)
  refine code_region ?_
  refine list_cons rfl (op_q (q_move rfl (by decide)) ?_)
  refine list_cons rfl (op_q (q_move rfl (by decide)) ?_)
  refine list_cons rfl (op_q (q_fieldAddr fi_42_0 rfl rfl (by decide)) ?_)
  refine list_cons rfl (op_q (q_load one_3 2 rfl rfl rfl (by first | rfl | exact get_map1 _ 0 _ (by first | omega | (simp; omega))) (by decide)) ?_)
  refine list_cons rfl (op_q (by first | exact q_andI rfl rfl (by decide) (by omega) (by omega) (by omega) (by omega) | exact q_ib rfl rfl rfl (by decide)) ?_)
  refine list_cons rfl (op_q (by first | exact q_subI rfl rfl (by decide) (by omega) (by omega) | exact q_ib rfl rfl rfl (by decide)) ?_)
  refine list_cons rfl (op_q (q_fieldAddr fi_42_1 rfl rfl (by decide)) ?_)
  refine list_cons rfl (op_q (q_load one_3 2 rfl rfl rfl (by first | rfl | exact get_map1 _ 0 _ (by first | omega | (simp; omega))) (by decide)) ?_)
  refine list_cons rfl (op_q (by first | exact q_orI rfl rfl (by decide) (by omega) (by omega) (by omega) (by omega) | exact q_ib rfl rfl rfl (by decide)) ?_)
  refine list_cons rfl (op_q (q_assign rfl (by decide)) ?_)
  refine list_nil ?_
  refine hK2 _ ?_; clear hK2 K2
  refine codeT.imp (σ' := [(0, _), (1, _), (2, _), (4, _)]) ?_ (imp_covers ⟨rfl, rfl, rfl, rfl, trivial⟩)
  refine code_ret ?_
  refine ends_ret (cs := []) rfl rfl rfl rfl trivial ?_
  unfold shF shB
  rw [show (c - ((c.toNat &&& fx.toNat : Nat) : Int)).toNat = c.toNat - (c.toNat &&& fx.toNat) by omega]

set_option maxRecDepth 4000 in
theorem spec_l3Digits (fx fy c : Int) (hx : 0 ≤ fx ∧ fx ≤ 127) (hy : 0 ≤ fy ∧ fy ≤ 127) : PCalls Tryd.prog 83 [.agg [.int .i64 fx, .int .i64 fy], .int .i64 c] (· = [.own 0 3 1 (digs fx fy c).length ((digs fx fy c).map (.int .i64))]) := by
  refine pcalls_of_code (n := 23) az Tryd.func83 (by kernel_rfl) rfl rfl (Nat.le_of_ble_eq_true rfl) (by intro t u h; simp [Tryd.f83] at h) ?_
  refine code_seq (fun K1 hK1 => ?_)
  refine code_region ?_
  refine list_cons rfl (op_box rfl (.inl ⟨rfl, rfl⟩) (by decide) (by decide) rfl ?_)
  refine list_cons rfl (op_q (q_assign rfl (by decide)) ?_)
  refine list_nil ?_
  refine hK1 _ ?_; clear hK1 K1
  refine code_seq (fun K2 hK2 => ?_)
  refine code_region ?_
  refine list_cons rfl (op_buildSlice sl_24 (parts := []) rfl rfl rfl (by decide) (by decide) (by decide) rfl ?_)
  refine list_cons rfl (op_q (q_assign rfl (by decide)) ?_)
  refine list_nil ?_
  refine hK2 _ ?_; clear hK2 K2
  refine code_seq (fun K3 hK3 => ?_)
  refine code_seq (fun K4 hK4 => ?_)
  refine code_region ?_
  refine list_cons rfl (op_q (q_assign rfl (by decide)) ?_)
  refine list_nil ?_
  refine hK4 _ ?_; clear hK4 K4
  refine code_block ?_
  refine code_loop (X := PV × Nat × List PV × Int) (fun x => [(0, .val (.agg [.int .i64 fx, .int .i64 fy])), (1, .val (.int .i64 c)), (2, .box 2 42 [.int .i64 fx, .int .i64 fy]), (4, .val x.1), (5, .own 7 3 1 x.2.1 x.2.2.1), (6, .val (.int .i64 x.2.2.2))]) (fun x => 0 ≤ x.2.2.2 ∧ x.2.2.2 ≤ 10 ∧ ∃ l : List Int, x.2.1 = l.length ∧ x.2.2.1 = l.map (.int .i64) ∧ l = digsK fx fy c x.2.2.2.toNat) (fun x => 10 - x.2.2.2.toNat) (_, _, _, _) (imp_covers ⟨rfl, rfl, rfl, rfl, rfl, rfl, trivial⟩) ?_ ?_
  · (try dsimp only)
    exact ⟨by omega, by omega, [], rfl, rfl, rfl⟩
  · intro x hI
    obtain ⟨t4_p, out_n, out_c, d⟩ := x
    replace hI : 0 ≤ d ∧ d ≤ 10 ∧ ∃ l : List Int, out_n = l.length ∧ out_c = l.map (.int .i64) ∧ l = digsK fx fy c d.toNat := hI
    show codeT _ _ _ [(0, .val (.agg [.int .i64 fx, .int .i64 fy])), (1, .val (.int .i64 c)), (2, .box 2 42 [.int .i64 fx, .int .i64 fy]), (4, .val t4_p), (5, .own 7 3 1 out_n out_c), (6, .val (.int .i64 d))] _
    obtain ⟨i1, i2, l, rfl, rfl, i3⟩ := hI
    have hl := digsK_len fx fy c d.toNat
    rw [← i3] at hl
    have hdc := digT_cell d.toNat
    refine code_seq (fun K5 hK5 => ?_)
    refine code_seq (fun K6 hK6 => ?_)
    refine code_region ?_
    refine list_cons rfl (op_q (q_move rfl (by decide)) ?_)
    refine list_cons rfl (op_q (q_lt rfl rfl (by decide)) ?_)
    refine list_nil ?_
    refine hK6 _ ?_; clear hK6 K6
    refine code_cond_d rfl (fun h1 => ?_) (fun h1 => ?_)
    · skip
      (try simp only [Decidable.not_not] at h1)
      refine code_skip ?_
      refine hK5 _ ?_; clear hK5 K5
      refine code_seq (fun K7 hK7 => ?_)
      refine code_block ?_
      refine code_seq (fun K8 hK8 => ?_)
      refine code_draw (by kernel_rfl) (by kernel_rfl) ?_
      refine draw_q rfl (q_load_agg agg_42 2 (.inr ⟨rfl, _, rfl⟩) rfl rfl (by first | decide | omega | exact Nat.le_refl _ | (simp; done) | (simp; omega)) (by first | rfl | exact flat_part (flat_map _ (fun _ => rfl) _) _ _) (by decide)) ?_
      refine draw_q rfl (q_move rfl (by decide)) ?_
      refine draw_call _ (spec_l2Digit _ (by omega) (by omega)) rfl rfl rfl (by decide) ?_
      refine draw_call _ (spec_l3Shown _ _ _ (by omega) (by omega) (by omega)) rfl rfl rfl (by decide) ?_
      refine draw_q rfl (q_move rfl (by decide)) ?_
      refine draw_q rfl (q_eq rfl rfl (by decide)) ?_
      refine draw_nil ?_
      refine hK8 _ ?_; clear hK8 K8
      refine codeT.imp (σ' := [(0, _), (1, _), (2, _), (4, _), (5, _), (6, _), (17, _)]) ?_ (imp_covers ⟨rfl, rfl, rfl, rfl, rfl, rfl, rfl, trivial⟩)
      refine code_cond_d rfl (fun h2 => ?_) (fun h2 => ?_)
      · skip
        (try simp only [Decidable.not_not] at h2)
        refine code_region ?_
        refine list_cons rfl (op_q (q_move rfl (by decide)) ?_)
        refine list_cons rfl (op_q (q_move rfl (by decide)) ?_)
        refine list_cons rfl (op_buildSlice sl_24 (parts := [(0, .tmp 19)]) rfl rfl rfl (by decide) (by decide) (by decide) rfl ?_)
        refine list_cons rfl (op_append_gen sl_24 (l := 7) (.inl rfl) rfl rfl (l2 := none) (.inl ⟨rfl, (by first | rfl | exact flat_map _ (fun _ => rfl) _)⟩) (by first | rfl | simp | omega) (by omega) (by decide) (by decide) (by decide) ?_)
        refine list_cons rfl (op_q (q_assign rfl (by decide)) ?_)
        refine list_nil ?_
        refine blk_n ?_
        refine hK7 _ ?_; clear hK7 K7
        refine codeT.imp (σ' := [(0, _), (1, _), (2, _), (4, _), (5, _), (6, _)]) ?_ (imp_covers ⟨rfl, rfl, rfl, rfl, rfl, rfl, trivial⟩)
        refine code_region ?_
        refine list_cons rfl (op_q (q_move rfl (by decide)) ?_)
        refine list_cons rfl (op_q (by first | exact q_addI rfl rfl (by decide) (by omega) (by omega) | exact q_ib rfl rfl rfl (by decide)) ?_)
        refine list_cons rfl (op_q (q_assign rfl (by decide)) ?_)
        refine list_nil ?_
        refine then_n ⟨(_, _, _, _), imp_covers ⟨rfl, rfl, rfl, rfl, rfl, rfl, trivial⟩, ?_, ?_⟩
        · (try dsimp only)
          refine ⟨by omega, by omega, l ++ [d], by simp, by simp; rfl, ?_⟩
          rw [show (d + 1).toNat = d.toNat + 1 by omega, digsK_succ, if_pos h2, i3, show ((d.toNat : Nat) : Int) = d by omega]
        · (try dsimp only); omega
      · skip
        (try simp only [Decidable.not_not] at h2)
        refine code_skip ?_
        refine blk_n ?_
        refine hK7 _ ?_; clear hK7 K7
        refine code_region ?_
        refine list_cons rfl (op_q (q_move rfl (by decide)) ?_)
        refine list_cons rfl (op_q (by first | exact q_addI rfl rfl (by decide) (by omega) (by omega) | exact q_ib rfl rfl rfl (by decide)) ?_)
        refine list_cons rfl (op_q (q_assign rfl (by decide)) ?_)
        refine list_nil ?_
        refine then_n ⟨(_, _, _, _), imp_covers ⟨rfl, rfl, rfl, rfl, rfl, rfl, trivial⟩, ?_, ?_⟩
        · (try dsimp only)
          refine ⟨by omega, by omega, l, rfl, rfl, ?_⟩
          rw [show (d + 1).toNat = d.toNat + 1 by omega, digsK_succ, if_neg h2, List.append_nil, i3]
        · (try dsimp only); omega
    · skip
      (try simp only [Decidable.not_not] at h1)
      refine code_exit ?_
      refine then_x ?_; clear hK5 K5
      refine then_x ?_
      refine blk_hit ?_
      refine hK3 _ ?_; clear hK3 K3
      refine code_seq (fun K9 hK9 => ?_)
      refine code_region ?_
      refine list_cons rfl (op_q (q_move rfl (by decide)) ?_)
      refine list_cons rfl (op_q (q_assign rfl (by decide)) ?_)
      refine list_nil ?_
      refine hK9 _ ?_; clear hK9 K9
      refine code_ret ?_
      refine ends_ret (cs := []) rfl rfl rfl rfl trivial ?_
      rw [i3, digs, show d.toNat = 10 by omega]

end Go.Proofs.YtjbbijlbenkgcaaDoor
