/- Contracts of functions, walked over the pure layer; each says for which arguments. -/
import Derived.Test.Ytbddhdbieelpjaaa3Ty
import Derived.Test.YtbddhdbieelpjaaTf
import Derived.Test.Ytbddhdbieelpjaaa1
import Derived.Test.Ytbddhdbieelpjaaa2
namespace Go.Proofs.Ytbddhdbieelpjaa
open Go.RowKit a3Ty
set_option linter.unusedVariables false
set_option linter.unusedSimpArgs false

theorem res_agg9 {az : TypeId → Nat} {σ : St} {t u l e : Nat} {cs : List PV} (h : σ.at t = some (.box l e cs)) (haz : (az u == 0) = false) (hf : PV.flatL cs = true) (hl : cs.length = az u) : St.res az σ [.cell t u] = some [.val (.agg cs)] := by
  unfold St.res
  rw [h, show St.res az σ [] = some [] from rfl]
  simp only [haz, Bool.false_eq_true, if_false]
  rw [hf, hl]
  simp
theorem mul_bd9 {a b m n : Int} (ha : 0 ≤ a ∧ a ≤ m) (hb : 0 ≤ b ∧ b ≤ n) : 0 ≤ a * b ∧ a * b ≤ m * n := ⟨Int.mul_nonneg ha.1 hb.1, Int.mul_le_mul ha.2 hb.2 hb.1 (by omega)⟩
theorem mul_pos9 {a b : Int} (ha : 1 ≤ a) (hb : 1 ≤ b) : 1 ≤ a * b := by
  have := Int.mul_le_mul ha hb (by omega) (by omega)
  simpa using this


set_option maxRecDepth 8000 in
set_option maxHeartbeats 2000000 in
theorem impl_fractionOf (a b : Int) (ha : 0 ≤ a ∧ a ≤ 4611686018427387904) (hb : 1 ≤ b ∧ b ≤ 4611686018427387904) : PCalls Try.prog 14 [.int .i64 a, .int .i64 b] (· = [.val (.agg [.int .i64 (frA (a) (b)), .int .i64 (frB (a) (b))])]) := by
  refine pcalls_of_code (n := 22) az Try.func14 (by kernel_rfl) rfl rfl (Nat.le_of_ble_eq_true rfl) (by intro t u h; simp [Try.f14] at h; obtain ⟨_, rfl⟩ := h <;> first | exact resTy_agg agg_34 (by decide)) ?_
  refine code_seq (fun K1 hK1 => ?_)
  refine code_region ?_
  refine list_cons rfl (op_alloc zt_34 (by decide) (by decide) rfl ?_)
  refine list_nil ?_
  refine hK1 _ ?_; clear hK1 K1
  refine code_seq (fun K2 hK2 => ?_)
  refine code_region ?_
  refine list_cons rfl (op_q (q_move rfl (by decide)) ?_)
  refine list_cons rfl (op_q (q_move rfl (by decide)) ?_)
  refine list_cons rfl (op_q (q_assign rfl (by decide)) ?_)
  refine list_cons rfl (op_q (q_assign rfl (by decide)) ?_)
  refine list_nil ?_
  refine hK2 _ ?_; clear hK2 K2
  refine code_seq (fun K3 hK3 => ?_)
  refine code_block ?_
  refine code_loop (X := Int × Int) (fun x => [(0, .val (.int .i64 a)), (1, .val (.int .i64 b)), (4, .box 4 34 [.int .i64 0, .int .i64 0]), (5, .val (.int .i64 x.1)), (6, .val (.int .i64 x.2))]) (fun x => 0 ≤ x.1 ∧ 0 ≤ x.2 ∧ Nat.gcd x.1.toNat x.2.toNat = Nat.gcd a.toNat b.toNat) (fun x => x.2.toNat) (_, _) (imp_covers ⟨rfl, rfl, rfl, rfl, rfl, trivial⟩) ?_ ?_
  · (try dsimp only)
    exact ⟨by omega, by omega, Nat.gcd_comm _ _⟩
  · intro x hI
    obtain ⟨divisor, rest⟩ := x
    replace hI : 0 ≤ divisor ∧ 0 ≤ rest ∧ Nat.gcd divisor.toNat rest.toNat = Nat.gcd a.toNat b.toNat := hI
    show codeT _ _ _ [(0, .val (.int .i64 a)), (1, .val (.int .i64 b)), (4, .box 4 34 [.int .i64 0, .int .i64 0]), (5, .val (.int .i64 divisor)), (6, .val (.int .i64 rest))] _
    obtain ⟨i1, i2, i3⟩ := hI
    refine code_seq (fun K4 hK4 => ?_)
    refine code_seq (fun K5 hK5 => ?_)
    refine code_region ?_
    refine list_cons rfl (op_q (q_move rfl (by decide)) ?_)
    refine list_cons rfl (op_q (q_ne rfl rfl (by decide)) ?_)
    refine list_nil ?_
    refine hK5 _ ?_; clear hK5 K5
    refine code_cond_d rfl (fun h1 => ?_) (fun h1 => ?_)
    · skip
      (try simp only [Decidable.not_not] at h1); (try have hy : rest = 0 := by assumption); (try subst hy); (try have hx := gcd_end9 i3 i1); (try have hg := gcd_pos9 (a := a) hb.1)
      refine code_skip ?_
      refine hK4 _ ?_; clear hK4 K4
      refine code_block ?_
      refine code_draw (by kernel_rfl) (by kernel_rfl) ?_
      refine draw_q rfl (q_move rfl (by decide)) ?_
      refine draw_q rfl (q_move rfl (by decide)) ?_
      refine draw_q rfl (q_move rfl (by decide)) ?_
      refine draw_q rfl (by first | exact q_remI rfl rfl (by decide) (by omega) (by omega) | exact q_rem rfl rfl (by omega) (by decide)) ?_
      refine draw_q rfl (q_assign rfl (by decide)) ?_
      refine draw_q rfl (q_assign rfl (by decide)) ?_
      refine draw_nil ?_
      refine blk_n ?_
      refine then_n ⟨(_, _), imp_covers ⟨rfl, rfl, rfl, rfl, rfl, trivial⟩, ?_, ?_⟩
      · (try dsimp only)
        exact ⟨by omega, Int.emod_nonneg _ (by omega), gcd_stepI i1 i2 i3⟩
      · have := Int.emod_lt_of_pos divisor (show 0 < rest by omega); (try dsimp only); omega
    (try simp only [Decidable.not_not] at h1); (try have hy : rest = 0 := by assumption); (try subst hy); (try have hx := gcd_end9 i3 i1); (try have hg := gcd_pos9 (a := a) hb.1)
    refine code_exit ?_
    refine then_x ?_; clear hK4 K4
    refine then_x ?_
    refine blk_hit ?_
    refine hK3 _ ?_; clear hK3 K3
    refine code_seq (fun K6 hK6 => ?_)
    refine any_start fun ob1_0 => ?_
    refine any_op (rd := [0]) ob1_0 rfl rfl rfl (anyT_quiet [(0, _)] ⟨rfl, trivial⟩ rfl (q_move rfl (by decide))) (fun ob1_1 => ?_)
    refine any_op (rd := [5]) ob1_1 rfl rfl rfl (anyT_quiet [(5, _)] ⟨rfl, trivial⟩ rfl (q_move rfl (by decide))) (fun ob1_2 => ?_)
    refine any_op (rd := [15, 16]) ob1_2 rfl rfl rfl (anyT_quiet [(15, _), (16, _)] ⟨rfl, rfl, trivial⟩ rfl (by first | exact q_quoI rfl rfl (by decide) (by omega) (by omega) (by omega) | exact q_quoT rfl rfl (by omega) (by decide) (by omega) (by omega) | exact q_quo rfl rfl (by omega) (by decide))) (fun ob1_3 => ?_)
    refine any_op (rd := [1]) ob1_3 rfl rfl rfl (anyT_quiet [(1, _)] ⟨rfl, trivial⟩ rfl (q_move rfl (by decide))) (fun ob1_4 => ?_)
    refine any_op (rd := [5]) ob1_4 rfl rfl rfl (anyT_quiet [(5, _)] ⟨rfl, trivial⟩ rfl (q_move rfl (by decide))) (fun ob1_5 => ?_)
    refine any_op (rd := [18, 19]) ob1_5 rfl rfl rfl (anyT_quiet [(18, _), (19, _)] ⟨rfl, rfl, trivial⟩ rfl (by first | exact q_quoI rfl rfl (by decide) (by omega) (by omega) (by omega) | exact q_quoT rfl rfl (by omega) (by decide) (by omega) (by omega) | exact q_quo rfl rfl (by omega) (by decide))) (fun ob1_6 => ?_)
    refine any_end [[], [], [0, 1], [], [], [3, 4], [0, 1, 2, 3, 4, 5], [0, 1, 2, 3, 4, 5, 6]] ob1_6 (by kernel_rfl) (Nat.le_of_ble_eq_true rfl) (by decide) (by decide) (by kernel_rfl) (by kernel_rfl) (by kernel_rfl) (by kernel_rfl) (by kernel_rfl) ?_
    clear ob1_0 ob1_1 ob1_2 ob1_3 ob1_4 ob1_5 ob1_6
    refine listT.imp (σ' := [(0, _), (1, _), (4, _), (5, _), (6, _), (9, _), (10, _), (15, _), (16, _), (17, _), (18, _), (19, _), (20, _)]) ?_ (imp_covers ⟨rfl, rfl, rfl, rfl, rfl, rfl, rfl, rfl, rfl, rfl, rfl, rfl, rfl, trivial⟩)
    refine list_cons rfl (op_q (q_build bt_34 (parts := [(0, .tmp 17), (1, .tmp 20)]) rfl rfl (by decide)) ?_)
    refine list_cons rfl (op_store (agg_34).2 4 [4] (by intro t ht; simp only [List.mem_cons, List.not_mem_nil, or_false] at ht; subst ht; rfl) (.inr ⟨rfl, _, rfl⟩) rfl rfl rfl rfl (by first | rfl | exact flat_part (flat_map _ (fun _ => rfl) _) _ _ | exact flat_map _ (fun _ => rfl) _) (by first | rfl | (simp [PV.cells]; done)) (by first | decide | omega | exact Nat.le_refl _ | (simp; done) | (simp; omega)) (by decide) rfl ?_)
    refine list_nil ?_
    refine hK6 _ ?_; clear hK6 K6
    refine codeT.imp (σ' := [(0, _), (1, _), (4, _), (5, _), (6, _)]) ?_ (imp_covers ⟨rfl, rfl, rfl, rfl, rfl, trivial⟩)
    refine code_ret ?_
    refine ends_ret (cs := []) rfl rfl rfl rfl trivial ?_
    subst hx
    rw [frA_div ha.1, frB_div (by omega)]
    rfl

set_option maxRecDepth 4000 in
theorem impl_toPower (z n : Int) (h0 : 0 ≤ z) (h1 : z ≤ 10) (hn : n ≤ 7) : PCalls Try.prog 15 [.int .i64 z, .int .i64 n] (· = [.val (.int .i64 (pw9 z n.toNat))]) := by
  refine pcalls_of_code (n := 14) az Try.func15 (by kernel_rfl) rfl rfl (Nat.le_of_ble_eq_true rfl) (by intro t u h; simp [Try.f15] at h) ?_
  refine code_seq (fun K1 hK1 => ?_)
  refine code_region ?_
  refine list_cons rfl (op_q (q_assign rfl (by decide)) ?_)
  refine list_nil ?_
  refine hK1 _ ?_; clear hK1 K1
  refine code_seq (fun K2 hK2 => ?_)
  refine code_region ?_
  refine list_cons rfl (op_q (q_assign rfl (by decide)) ?_)
  refine list_nil ?_
  refine hK2 _ ?_; clear hK2 K2
  refine code_seq (fun K3 hK3 => ?_)
  refine code_seq (fun K4 hK4 => ?_)
  refine code_region ?_
  refine list_cons rfl (op_q (q_move rfl (by decide)) ?_)
  refine list_cons rfl (op_q (q_move rfl (by decide)) ?_)
  refine list_nil ?_
  refine hK4 _ ?_; clear hK4 K4
  refine code_block ?_
  refine code_loop (X := Int × Int × Int) (fun x => [(0, .val (.int .i64 z)), (1, .val (.int .i64 n)), (4, .val (.int .i64 x.1)), (5, .val (.int .i64 x.2.1)), (6, .val (.int .i64 n)), (7, .val (.int .i64 x.2.2))]) (fun x => 0 ≤ x.2.2 ∧ x.2.2 ≤ max n 0 ∧ x.2.1 = pw9 z x.2.2.toNat) (fun x => (n - x.2.2).toNat) (_, _, _) (imp_covers ⟨rfl, rfl, rfl, rfl, rfl, rfl, trivial⟩) ?_ ?_
  · (try dsimp only)
    exact ⟨by omega, by omega, rfl⟩
  · intro x hI
    obtain ⟨t4, product, t7⟩ := x
    replace hI : 0 ≤ t7 ∧ t7 ≤ max n 0 ∧ product = pw9 z t7.toNat := hI
    show codeT _ _ _ [(0, .val (.int .i64 z)), (1, .val (.int .i64 n)), (4, .val (.int .i64 t4)), (5, .val (.int .i64 product)), (6, .val (.int .i64 n)), (7, .val (.int .i64 t7))] _
    obtain ⟨i1, i2, rfl⟩ := hI
    have hb := pw9_7 h0 h1 (n := t7.toNat) (by omega)
    have hm1 := Int.mul_nonneg hb.1 h0
    have hm2 := Int.mul_le_mul hb.2 h1 h0 (by omega)
    refine code_seq (fun K5 hK5 => ?_)
    refine code_region ?_
    refine list_cons rfl (op_q (q_lt rfl rfl (by decide)) ?_)
    refine list_nil ?_
    refine hK5 _ ?_; clear hK5 K5
    refine code_seq (fun K6 hK6 => ?_)
    refine code_cond_d rfl (fun h1 => ?_) (fun h1 => ?_)
    · skip
      (try simp only [Decidable.not_not] at h1)
      refine code_skip ?_
      refine hK6 _ ?_; clear hK6 K6
      refine code_seq (fun K7 hK7 => ?_)
      refine code_block ?_
      refine code_region ?_
      refine list_cons rfl (op_q (q_move rfl (by decide)) ?_)
      refine list_cons rfl (op_q (q_move rfl (by decide)) ?_)
      refine list_cons rfl (op_q (by first | exact q_mulI rfl rfl (by decide) (by omega) (by omega) | exact q_ib rfl rfl rfl (by decide)) ?_)
      refine list_cons rfl (op_q (q_assign rfl (by decide)) ?_)
      refine list_nil ?_
      refine blk_n ?_
      refine hK7 _ ?_; clear hK7 K7
      refine code_region ?_
      refine list_cons rfl (op_q (by first | exact q_addI rfl rfl (by decide) (by omega) (by omega) | exact q_ib rfl rfl rfl (by decide)) ?_)
      refine list_cons rfl (op_q (q_move rfl (by decide)) ?_)
      refine list_nil ?_
      refine then_n ⟨(_, _, _), imp_covers ⟨rfl, rfl, rfl, rfl, rfl, rfl, trivial⟩, ?_, ?_⟩
      · (try dsimp only)
        exact ⟨by omega, by omega, by rw [show (t7 + 1).toNat = t7.toNat + 1 by omega]; rfl⟩
      · (try dsimp only); omega
    (try simp only [Decidable.not_not] at h1)
    refine code_exit ?_
    refine then_x ?_; clear hK6 K6
    refine then_x ?_
    refine blk_hit ?_
    refine hK3 _ ?_; clear hK3 K3
    refine code_seq (fun K8 hK8 => ?_)
    refine code_region ?_
    refine list_cons rfl (op_q (q_move rfl (by decide)) ?_)
    refine list_cons rfl (op_q (q_assign rfl (by decide)) ?_)
    refine list_nil ?_
    refine hK8 _ ?_; clear hK8 K8
    refine code_ret ?_
    refine ends_ret (cs := []) rfl rfl rfl rfl trivial ?_
    rw [show t7.toNat = n.toNat by omega]

set_option maxRecDepth 4000 in
theorem impl_isFlicker (p q : Int) : PCalls Try.prog 13 [.int .i64 p, .int .i64 q] (· = [.val (.bool (decide (FkP p q)))]) := by
  refine pcalls_of_code (n := 20) az Try.func13 (by kernel_rfl) rfl rfl (Nat.le_of_ble_eq_true rfl) (by intro t u h; simp [Try.f13] at h) ?_
  refine code_seq (fun K1 hK1 => ?_)
  refine code_region ?_
  refine list_cons rfl (op_q (q_assign rfl (by decide)) ?_)
  refine list_nil ?_
  refine hK1 _ ?_; clear hK1 K1
  refine code_seq (fun K2 hK2 => ?_)
  refine code_region ?_
  refine list_cons rfl (op_q (q_move rfl (by decide)) ?_)
  refine list_cons rfl (op_q (q_ge rfl rfl (by decide)) ?_)
  refine list_cons rfl (op_q (q_move rfl (by decide)) ?_)
  refine list_guard_d rfl rfl rfl rfl (by decide) rfl (by decide) (fun h1 => ?_) (fun h1 => ?_)
  · simp only [Bool.false_eq_true, if_true, if_false, Decidable.not_not] at h1
    refine id (op_q (q_move rfl (by decide)) ?_)
    refine list_guard_y rfl rfl rfl rfl (by decide) rfl ?_
    refine id (op_q (q_le rfl rfl (by decide)) ?_)
    refine list_cons rfl (op_q (q_pick rfl rfl (by decide)) ?_)
    refine list_cons rfl (op_q (q_move rfl (by decide)) ?_)
    refine list_guard_d rfl rfl rfl rfl (by decide) rfl (by decide) (fun h2 => ?_) (fun h2 => ?_)
    · simp only [Bool.false_eq_true, if_true, if_false, Decidable.not_not] at h2
      refine id (op_q (q_move rfl (by decide)) ?_)
      refine list_guard_y rfl rfl rfl rfl (by decide) rfl ?_
      refine id (op_q (q_ge rfl rfl (by decide)) ?_)
      refine list_cons rfl (op_q (q_pick rfl rfl (by decide)) ?_)
      refine list_cons rfl (op_q (q_move rfl (by decide)) ?_)
      refine list_guard_d rfl rfl rfl rfl (by decide) rfl (by decide) (fun h3 => ?_) (fun h3 => ?_)
      · simp only [Bool.false_eq_true, if_true, if_false, Decidable.not_not] at h3
        refine id (op_q (q_move rfl (by decide)) ?_)
        refine list_guard_y rfl rfl rfl rfl (by decide) rfl ?_
        refine id (op_q (q_move rfl (by decide)) ?_)
        refine list_guard_y rfl rfl rfl rfl (by decide) rfl ?_
        refine id (op_q (q_le rfl rfl (by decide)) ?_)
        refine list_cons rfl (op_q (q_pick rfl rfl (by decide)) ?_)
        refine list_cons rfl (op_q (q_assign rfl (by decide)) ?_)
        refine list_nil ?_
        refine hK2 _ ?_; clear hK2 K2
        refine codeT.imp (σ' := [(0, _), (1, _), (4, _)]) ?_ (imp_covers ⟨rfl, rfl, rfl, trivial⟩)
        refine code_ret ?_
        refine ends_ret (cs := []) rfl rfl rfl rfl trivial ?_
        first | (rw [decide_eq_false (fun k : FkP p q => by have := k.1; have := k.2; omega)]; done) | (rw [decide_eq_true (show FkP p q from ⟨⟨by omega, by omega⟩, by omega, by omega⟩)]; done) | (congr 3; exact decide_eq_decide.mpr ⟨fun k => ⟨⟨by omega, by omega⟩, by omega, by omega⟩, fun k => by have := k.1; have := k.2; omega⟩)
      simp only [Bool.false_eq_true, if_true, if_false, Decidable.not_not] at h3
      refine list_guard_n rfl rfl rfl rfl (by decide) rfl ?_
      refine list_guard_n rfl rfl rfl rfl (by decide) rfl ?_
      refine list_cons rfl (op_q (q_pick rfl rfl (by decide)) ?_)
      refine list_cons rfl (op_q (q_assign rfl (by decide)) ?_)
      refine list_nil ?_
      refine hK2 _ ?_; clear hK2 K2
      refine codeT.imp (σ' := [(0, _), (1, _), (4, _)]) ?_ (imp_covers ⟨rfl, rfl, rfl, trivial⟩)
      refine code_ret ?_
      refine ends_ret (cs := []) rfl rfl rfl rfl trivial ?_
      first | (rw [decide_eq_false (fun k : FkP p q => by have := k.1; have := k.2; omega)]; done) | (rw [decide_eq_true (show FkP p q from ⟨⟨by omega, by omega⟩, by omega, by omega⟩)]; done) | (congr 3; exact decide_eq_decide.mpr ⟨fun k => ⟨⟨by omega, by omega⟩, by omega, by omega⟩, fun k => by have := k.1; have := k.2; omega⟩)
    simp only [Bool.false_eq_true, if_true, if_false, Decidable.not_not] at h2
    refine list_guard_n rfl rfl rfl rfl (by decide) rfl ?_
    refine list_cons rfl (op_q (q_pick rfl rfl (by decide)) ?_)
    refine list_cons rfl (op_q (q_move rfl (by decide)) ?_)
    refine list_guard_n rfl rfl rfl rfl (by decide) rfl ?_
    refine list_guard_n rfl rfl rfl rfl (by decide) rfl ?_
    refine list_guard_n rfl rfl rfl rfl (by decide) rfl ?_
    refine list_cons rfl (op_q (q_pick rfl rfl (by decide)) ?_)
    refine list_cons rfl (op_q (q_assign rfl (by decide)) ?_)
    refine list_nil ?_
    refine hK2 _ ?_; clear hK2 K2
    refine codeT.imp (σ' := [(0, _), (1, _), (4, _)]) ?_ (imp_covers ⟨rfl, rfl, rfl, trivial⟩)
    refine code_ret ?_
    refine ends_ret (cs := []) rfl rfl rfl rfl trivial ?_
    first | (rw [decide_eq_false (fun k : FkP p q => by have := k.1; have := k.2; omega)]; done) | (rw [decide_eq_true (show FkP p q from ⟨⟨by omega, by omega⟩, by omega, by omega⟩)]; done) | (congr 3; exact decide_eq_decide.mpr ⟨fun k => ⟨⟨by omega, by omega⟩, by omega, by omega⟩, fun k => by have := k.1; have := k.2; omega⟩)
  simp only [Bool.false_eq_true, if_true, if_false, Decidable.not_not] at h1
  refine list_guard_n rfl rfl rfl rfl (by decide) rfl ?_
  refine list_cons rfl (op_q (q_pick rfl rfl (by decide)) ?_)
  refine list_cons rfl (op_q (q_move rfl (by decide)) ?_)
  refine list_guard_n rfl rfl rfl rfl (by decide) rfl ?_
  refine list_guard_n rfl rfl rfl rfl (by decide) rfl ?_
  refine list_cons rfl (op_q (q_pick rfl rfl (by decide)) ?_)
  refine list_cons rfl (op_q (q_move rfl (by decide)) ?_)
  refine list_guard_n rfl rfl rfl rfl (by decide) rfl ?_
  refine list_guard_n rfl rfl rfl rfl (by decide) rfl ?_
  refine list_guard_n rfl rfl rfl rfl (by decide) rfl ?_
  refine list_cons rfl (op_q (q_pick rfl rfl (by decide)) ?_)
  refine list_cons rfl (op_q (q_assign rfl (by decide)) ?_)
  refine list_nil ?_
  refine hK2 _ ?_; clear hK2 K2
  refine codeT.imp (σ' := [(0, _), (1, _), (4, _)]) ?_ (imp_covers ⟨rfl, rfl, rfl, trivial⟩)
  refine code_ret ?_
  refine ends_ret (cs := []) rfl rfl rfl rfl trivial ?_
  first | (rw [decide_eq_false (fun k : FkP p q => by have := k.1; have := k.2; omega)]; done) | (rw [decide_eq_true (show FkP p q from ⟨⟨by omega, by omega⟩, by omega, by omega⟩)]; done) | (congr 3; exact decide_eq_decide.mpr ⟨fun k => ⟨⟨by omega, by omega⟩, by omega, by omega⟩, fun k => by have := k.1; have := k.2; omega⟩)

set_option maxRecDepth 8000 in
set_option maxHeartbeats 2000000 in
theorem impl_ChanceFlicker (c a p q : Int) : PCalls Try.prog 5 [.int .i64 c, .int .i64 a, .int .i64 p, .int .i64 q] (· = [.val (.agg [.int .i64 (if (0 ≤ c ∧ c ≤ 127) ∧ (0 ≤ a ∧ a ≤ 127) ∧ FkP p q then frA (prt c a p q) (pw9 q 7) else 0), .int .i64 (if (0 ≤ c ∧ c ≤ 127) ∧ (0 ≤ a ∧ a ≤ 127) ∧ FkP p q then frB (prt c a p q) (pw9 q 7) else 0)]), .val (.bool (decide ((0 ≤ c ∧ c ≤ 127) ∧ (0 ≤ a ∧ a ≤ 127) ∧ FkP p q)))]) := by
  refine pcalls_of_code (n := 40) az Try.func5 (by kernel_rfl) rfl rfl (Nat.le_of_ble_eq_true rfl) (by intro t u h; simp [Try.f5] at h; obtain ⟨_, rfl⟩ := h <;> first | exact resTy_agg agg_22 (by decide)) ?_
  refine code_seq (fun K1 hK1 => ?_)
  refine code_region ?_
  refine list_cons rfl (op_alloc zt_22 (by decide) (by decide) rfl ?_)
  refine list_cons rfl (op_q (q_assign rfl (by decide)) ?_)
  refine list_nil ?_
  refine hK1 _ ?_; clear hK1 K1
  refine code_seq (fun K2 hK2 => ?_)
  refine code_region ?_
  refine list_cons rfl (op_q (q_move rfl (by decide)) ?_)
  refine list_cons rfl (op_q (q_move rfl (by decide)) ?_)
  refine list_cons rfl (op_call _ (impl_FarCells c a) rfl rfl (by decide) (by decide) (by decide) rfl ?_)
  rintro _ rfl; rw [show cnt7 (c.toNat ^^^ a.toNat) = fr9 c a from rfl]; have hf1 := fr9_le c a
  refine list_cons rfl (op_q (q_move rfl (by decide)) ?_)
  refine list_cons rfl (op_q (q_extract rfl rfl (by decide)) ?_)
  refine list_cons rfl (op_q (q_extract rfl rfl (by decide)) ?_)
  refine list_cons rfl (op_q (q_assign rfl (by decide)) ?_)
  refine list_cons rfl (op_q (q_assign rfl (by decide)) ?_)
  refine list_nil ?_
  refine hK2 _ ?_; clear hK2 K2
  refine codeT.imp (σ' := [(0, _), (1, _), (2, _), (3, _), (8, _), (9, _), (10, _), (11, _)]) ?_ (imp_covers ⟨rfl, rfl, rfl, rfl, rfl, rfl, rfl, rfl, trivial⟩)
  refine code_seq (fun K3 hK3 => ?_)
  refine code_seq (fun K4 hK4 => ?_)
  refine code_region ?_
  refine list_cons rfl (op_q (q_move rfl (by decide)) ?_)
  refine list_cons rfl (op_q (by first | exact q_notd rfl (by decide) | exact q_not rfl (by decide)) ?_)
  refine list_cons rfl (op_q (q_move rfl (by decide)) ?_)
  refine list_guard_d rfl rfl rfl rfl (by decide) rfl (by decide) (fun h1 => ?_) (fun h1 => ?_)
  · simp only [Bool.false_eq_true, if_true, if_false, Decidable.not_not] at h1
    (try simp only [Decidable.not_not] at h1); (try (have hF : FkP p q := (by assumption); have hc : (0 ≤ c ∧ c ≤ 127) ∧ 0 ≤ a ∧ a ≤ 127 := (by assumption); have hp0 : 0 ≤ p := hF.2.1; have hp1 : p ≤ 10 := (by have := hF.1.2; have := hF.2.2; omega); have hp2 : 0 ≤ q - p := (by have := hF.2.2; omega); have hp3 : q - p ≤ 10 := (by have := hF.1.2; omega); have hp4 : 0 ≤ q := (by have := hF.1.1; omega); have hp5 : q ≤ 10 := hF.1.2; have hpb := prt_bd (c := c) (a := a) hF; have hqb := pw9_7 (x := q) (n := 7) hp4 hp5 (by omega); have hqp := pw9_pos (x := q) hF.1.1 7; have hb1 := pw9_7 hp0 hp1 (fr9_le c a); have hb2 := pw9_7 (x := q - p) hp2 hp3 (show 7 - fr9 c a ≤ 7 by omega); have hm1 := Int.mul_nonneg hb1.1 hb2.1; have hm2 := Int.mul_le_mul hb1.2 hb2.2 hb2.1 (by omega)))
    refine id (op_q (q_move rfl (by decide)) ?_)
    refine list_guard_y rfl rfl rfl rfl (by decide) rfl ?_
    refine id (op_q (q_move rfl (by decide)) ?_)
    refine list_guard_y rfl rfl rfl rfl (by decide) rfl ?_
    refine id (op_call _ (impl_isFlicker _ _) rfl rfl (by decide) (by decide) (by decide) rfl ?_)
    rintro _ rfl
    refine list_guard_y rfl rfl rfl rfl (by decide) rfl ?_
    refine id (op_q (by first | exact q_notd rfl (by decide) | exact q_not rfl (by decide)) ?_)
    refine list_cons rfl (op_q (q_pick rfl rfl (by decide)) ?_)
    refine list_nil ?_
    refine hK4 _ ?_; clear hK4 K4
    refine codeT.imp (σ' := [(0, _), (1, _), (2, _), (3, _), (8, _), (9, _), (10, _), (11, _), (25, _)]) ?_ (imp_covers ⟨rfl, rfl, rfl, rfl, rfl, rfl, rfl, rfl, rfl, trivial⟩)
    refine code_cond_d rfl (fun h2 => ?_) (fun h2 => ?_)
    · skip
      (try simp only [Decidable.not_not] at h2); (try (have hF : FkP p q := (by assumption); have hc : (0 ≤ c ∧ c ≤ 127) ∧ 0 ≤ a ∧ a ≤ 127 := (by assumption); have hp0 : 0 ≤ p := hF.2.1; have hp1 : p ≤ 10 := (by have := hF.1.2; have := hF.2.2; omega); have hp2 : 0 ≤ q - p := (by have := hF.2.2; omega); have hp3 : q - p ≤ 10 := (by have := hF.1.2; omega); have hp4 : 0 ≤ q := (by have := hF.1.1; omega); have hp5 : q ≤ 10 := hF.1.2; have hpb := prt_bd (c := c) (a := a) hF; have hqb := pw9_7 (x := q) (n := 7) hp4 hp5 (by omega); have hqp := pw9_pos (x := q) hF.1.1 7; have hb1 := pw9_7 hp0 hp1 (fr9_le c a); have hb2 := pw9_7 (x := q - p) hp2 hp3 (show 7 - fr9 c a ≤ 7 by omega); have hm1 := Int.mul_nonneg hb1.1 hb2.1; have hm2 := Int.mul_le_mul hb1.2 hb2.2 hb2.1 (by omega)))
      refine code_seq (fun K5 hK5 => ?_)
      refine code_region ?_
      refine list_cons rfl (op_q (q_build bt_22 (parts := []) rfl rfl (by decide)) ?_)
      refine list_cons rfl (op_store (agg_22).2 8 [8] (by intro t ht; simp only [List.mem_cons, List.not_mem_nil, or_false] at ht; subst ht; rfl) (.inr ⟨rfl, _, rfl⟩) rfl rfl rfl rfl (by first | rfl | exact flat_part (flat_map _ (fun _ => rfl) _) _ _ | exact flat_map _ (fun _ => rfl) _) (by first | rfl | (simp [PV.cells]; done)) (by first | decide | omega | exact Nat.le_refl _ | (simp; done) | (simp; omega)) (by decide) rfl ?_)
      refine list_cons rfl (op_q (q_assign rfl (by decide)) ?_)
      refine list_nil ?_
      refine hK5 _ ?_; clear hK5 K5
      refine codeT.imp (σ' := [(0, _), (1, _), (2, _), (3, _), (8, _), (9, _), (10, _), (11, _)]) ?_ (imp_covers ⟨rfl, rfl, rfl, rfl, rfl, rfl, rfl, rfl, trivial⟩)
      refine code_ret ?_
      refine then_r ?_; clear hK3 K3
      refine ends_ret (cs := []) rfl rfl rfl rfl trivial ?_
      first
        | (have e : ¬ ((0 ≤ c ∧ c ≤ 127) ∧ (0 ≤ a ∧ a ≤ 127) ∧ FkP p q) := by first | exact fun k => absurd k.2.2 (by assumption) | exact fun k => absurd (show (0 ≤ c ∧ c ≤ 127) ∧ 0 ≤ a ∧ a ≤ 127 from ⟨k.1, k.2.1⟩) (by assumption)
           simp only [if_neg e, decide_eq_false e]; first | done | rfl)
        | (have e : (0 ≤ c ∧ c ≤ 127) ∧ (0 ≤ a ∧ a ≤ 127) ∧ FkP p q := ⟨hc.1, hc.2, hF⟩
           simp only [if_pos e, decide_eq_true e]; first | done | rfl)
    (try simp only [Decidable.not_not] at h2); (try (have hF : FkP p q := (by assumption); have hc : (0 ≤ c ∧ c ≤ 127) ∧ 0 ≤ a ∧ a ≤ 127 := (by assumption); have hp0 : 0 ≤ p := hF.2.1; have hp1 : p ≤ 10 := (by have := hF.1.2; have := hF.2.2; omega); have hp2 : 0 ≤ q - p := (by have := hF.2.2; omega); have hp3 : q - p ≤ 10 := (by have := hF.1.2; omega); have hp4 : 0 ≤ q := (by have := hF.1.1; omega); have hp5 : q ≤ 10 := hF.1.2; have hpb := prt_bd (c := c) (a := a) hF; have hqb := pw9_7 (x := q) (n := 7) hp4 hp5 (by omega); have hqp := pw9_pos (x := q) hF.1.1 7; have hb1 := pw9_7 hp0 hp1 (fr9_le c a); have hb2 := pw9_7 (x := q - p) hp2 hp3 (show 7 - fr9 c a ≤ 7 by omega); have hm1 := Int.mul_nonneg hb1.1 hb2.1; have hm2 := Int.mul_le_mul hb1.2 hb2.2 hb2.1 (by omega)))
    refine code_skip ?_
    refine hK3 _ ?_; clear hK3 K3
    refine code_seq (fun K6 hK6 => ?_)
    refine code_region ?_
    refine list_cons rfl (op_q (q_move rfl (by decide)) ?_)
    refine list_cons rfl (op_q (q_move rfl (by decide)) ?_)
    refine list_cons rfl (op_call _ (impl_toPower p (if (0 ≤ c ∧ c ≤ 127) ∧ 0 ≤ a ∧ a ≤ 127 then ((fr9 c a : Nat) : Int) else 0) hp0 hp1 (by rw [if_pos hc]; omega)) rfl rfl (by decide) (by decide) (by decide) rfl ?_)
    rintro _ rfl; rw [if_pos hc, show ((fr9 c a : Nat) : Int).toNat = fr9 c a from rfl]
    refine list_cons rfl (op_q (q_move rfl (by decide)) ?_)
    refine list_cons rfl (op_q (q_move rfl (by decide)) ?_)
    refine list_cons rfl (op_q (by first | exact q_subI rfl rfl (by decide) (by omega) (by omega) | exact q_ib rfl rfl rfl (by decide)) ?_)
    refine list_cons rfl (op_q (q_move rfl (by decide)) ?_)
    refine list_cons rfl (op_q (by first | exact q_subI rfl rfl (by decide) (by omega) (by omega) | exact q_ib rfl rfl rfl (by decide)) ?_)
    refine list_cons rfl (op_call _ (impl_toPower (q - p) (7 - ((fr9 c a : Nat) : Int)) hp2 hp3 (by omega)) rfl rfl (by decide) (by decide) (by decide) rfl ?_)
    rintro _ rfl; rw [show (7 - ((fr9 c a : Nat) : Int)).toNat = 7 - fr9 c a by omega]
    refine list_cons rfl (op_q (by first | exact q_mulI rfl rfl (by decide) (by omega) (by omega) | exact q_ib rfl rfl rfl (by decide)) ?_)
    refine list_cons rfl (op_q (q_move rfl (by decide)) ?_)
    refine list_cons rfl (op_call _ (impl_toPower q 7 hp4 hp5 (by omega)) rfl rfl (by decide) (by decide) (by decide) rfl ?_)
    rintro _ rfl; rw [show (7 : Int).toNat = 7 from rfl, show pw9 p (fr9 c a) * pw9 (q - p) (7 - fr9 c a) = prt c a p q from rfl]
    refine list_cons rfl (op_call _ (impl_fractionOf _ _ (by omega) (by omega)) rfl rfl (by decide) (by decide) (by decide) rfl ?_)
    rintro _ rfl
    refine list_cons rfl (op_store (agg_22).2 8 [8] (by intro t ht; simp only [List.mem_cons, List.not_mem_nil, or_false] at ht; subst ht; rfl) (.inr ⟨rfl, _, rfl⟩) rfl rfl rfl rfl (by first | rfl | exact flat_part (flat_map _ (fun _ => rfl) _) _ _ | exact flat_map _ (fun _ => rfl) _) (by first | rfl | (simp [PV.cells]; done)) (by first | decide | omega | exact Nat.le_refl _ | (simp; done) | (simp; omega)) (by decide) rfl ?_)
    refine list_cons rfl (op_q (q_assign rfl (by decide)) ?_)
    refine list_nil ?_
    refine hK6 _ ?_; clear hK6 K6
    refine codeT.imp (σ' := [(0, _), (1, _), (2, _), (3, _), (8, _), (9, _), (10, _), (11, _)]) ?_ (imp_covers ⟨rfl, rfl, rfl, rfl, rfl, rfl, rfl, rfl, trivial⟩)
    refine code_ret ?_
    refine ends_ret (cs := []) rfl rfl rfl rfl trivial ?_
    first
      | (have e : ¬ ((0 ≤ c ∧ c ≤ 127) ∧ (0 ≤ a ∧ a ≤ 127) ∧ FkP p q) := by first | exact fun k => absurd k.2.2 (by assumption) | exact fun k => absurd (show (0 ≤ c ∧ c ≤ 127) ∧ 0 ≤ a ∧ a ≤ 127 from ⟨k.1, k.2.1⟩) (by assumption)
         simp only [if_neg e, decide_eq_false e]; first | done | rfl)
      | (have e : (0 ≤ c ∧ c ≤ 127) ∧ (0 ≤ a ∧ a ≤ 127) ∧ FkP p q := ⟨hc.1, hc.2, hF⟩
         simp only [if_pos e, decide_eq_true e]; first | done | rfl)
  simp only [Bool.false_eq_true, if_true, if_false, Decidable.not_not] at h1
  (try simp only [Decidable.not_not] at h1); (try (have hF : FkP p q := (by assumption); have hc : (0 ≤ c ∧ c ≤ 127) ∧ 0 ≤ a ∧ a ≤ 127 := (by assumption); have hp0 : 0 ≤ p := hF.2.1; have hp1 : p ≤ 10 := (by have := hF.1.2; have := hF.2.2; omega); have hp2 : 0 ≤ q - p := (by have := hF.2.2; omega); have hp3 : q - p ≤ 10 := (by have := hF.1.2; omega); have hp4 : 0 ≤ q := (by have := hF.1.1; omega); have hp5 : q ≤ 10 := hF.1.2; have hpb := prt_bd (c := c) (a := a) hF; have hqb := pw9_7 (x := q) (n := 7) hp4 hp5 (by omega); have hqp := pw9_pos (x := q) hF.1.1 7; have hb1 := pw9_7 hp0 hp1 (fr9_le c a); have hb2 := pw9_7 (x := q - p) hp2 hp3 (show 7 - fr9 c a ≤ 7 by omega); have hm1 := Int.mul_nonneg hb1.1 hb2.1; have hm2 := Int.mul_le_mul hb1.2 hb2.2 hb2.1 (by omega)))
  refine list_guard_n rfl rfl rfl rfl (by decide) rfl ?_
  refine list_guard_n rfl rfl rfl rfl (by decide) rfl ?_
  refine list_guard_n rfl rfl rfl rfl (by decide) rfl ?_
  refine list_cons rfl (op_q (q_pick rfl rfl (by decide)) ?_)
  refine list_nil ?_
  refine hK4 _ ?_; clear hK4 K4
  refine code_cond_t rfl ?_
  refine code_seq (fun K7 hK7 => ?_)
  refine code_region ?_
  refine list_cons rfl (op_q (q_build bt_22 (parts := []) rfl rfl (by decide)) ?_)
  refine list_cons rfl (op_store (agg_22).2 8 [8] (by intro t ht; simp only [List.mem_cons, List.not_mem_nil, or_false] at ht; subst ht; rfl) (.inr ⟨rfl, _, rfl⟩) rfl rfl rfl rfl (by first | rfl | exact flat_part (flat_map _ (fun _ => rfl) _) _ _ | exact flat_map _ (fun _ => rfl) _) (by first | rfl | (simp [PV.cells]; done)) (by first | decide | omega | exact Nat.le_refl _ | (simp; done) | (simp; omega)) (by decide) rfl ?_)
  refine list_cons rfl (op_q (q_assign rfl (by decide)) ?_)
  refine list_nil ?_
  refine hK7 _ ?_; clear hK7 K7
  refine codeT.imp (σ' := [(0, _), (1, _), (2, _), (3, _), (8, _), (9, _), (10, _), (11, _)]) ?_ (imp_covers ⟨rfl, rfl, rfl, rfl, rfl, rfl, rfl, rfl, trivial⟩)
  refine code_ret ?_
  refine then_r ?_; clear hK3 K3
  refine ends_ret (cs := []) rfl rfl rfl rfl trivial ?_
  first
    | (have e : ¬ ((0 ≤ c ∧ c ≤ 127) ∧ (0 ≤ a ∧ a ≤ 127) ∧ FkP p q) := by first | exact fun k => absurd k.2.2 (by assumption) | exact fun k => absurd (show (0 ≤ c ∧ c ≤ 127) ∧ 0 ≤ a ∧ a ≤ 127 from ⟨k.1, k.2.1⟩) (by assumption)
       simp only [if_neg e, decide_eq_false e]; first | done | rfl)
    | (have e : (0 ≤ c ∧ c ≤ 127) ∧ (0 ≤ a ∧ a ≤ 127) ∧ FkP p q := ⟨hc.1, hc.2, hF⟩
       simp only [if_pos e, decide_eq_true e]; first | done | rfl)

theorem impl_ChanceFlickerD (c d p q : Int) (hc : 0 ≤ d ∧ d ≤ 9) : PCalls Try.prog 5 [.int .i64 c, .int .i64 (digT.getD d.toNat 0), .int .i64 p, .int .i64 q] (· = [.val (.agg [.int .i64 (if (0 ≤ c ∧ c ≤ 127) ∧ FkP p q then frA (prt c (digT.getD d.toNat 0) p q) (pw9 q 7) else 0), .int .i64 (if (0 ≤ c ∧ c ≤ 127) ∧ FkP p q then frB (prt c (digT.getD d.toNat 0) p q) (pw9 q 7) else 0)]), .val (.bool (decide ((0 ≤ c ∧ c ≤ 127) ∧ FkP p q)))]) := by
  have h := impl_ChanceFlicker c (digT.getD d.toNat 0) p q
  have hd := digT_cell d.toNat
  have e : ((0 ≤ c ∧ c ≤ 127) ∧ (0 ≤ digT.getD d.toNat 0 ∧ digT.getD d.toNat 0 ≤ 127) ∧ FkP p q) ↔ ((0 ≤ c ∧ c ≤ 127) ∧ FkP p q) := ⟨fun k => ⟨k.1, k.2.2⟩, fun k => ⟨k.1, hd, k.2⟩⟩
  simp only [e] at h
  exact h

end Go.Proofs.Ytbddhdbieelpjaa
