/- Contracts of functions, walked over the pure layer; each says for which arguments. -/
import Derived.Test.YtmjgkhfjhedpkaaDoorf3Ty
import Derived.Test.YtmjgkhfjhedpkaaDoorTf
import Derived.Test.YtmjgkhfjhedpkaaDoorf1
import Derived.Test.YtmjgkhfjhedpkaaDoorShelf
import Derived.Test.YtmjgkhfjhedpkaaDoorf2
namespace Go.Proofs.YtmjgkhfjhedpkaaDoor
open Go.RowKit f3Ty
set_option linter.unusedVariables false
set_option linter.unusedSimpArgs false

theorem res_agg9 {az : TypeId → Nat} {σ : St} {t u l e : Nat} {cs : List PV} (h : σ.at t = some (.box l e cs)) (haz : (az u == 0) = false) (hf : PV.flatL cs = true) (hl : cs.length = az u) : St.res az σ [.cell t u] = some [.val (.agg cs)] := by
  unfold St.res
  rw [h, show St.res az σ [] = some [] from rfl]
  simp only [haz, Bool.false_eq_true, if_false]
  rw [hf, hl]
  simp
theorem mul_bd9 {a b m n : Int} (ha : 0 ≤ a ∧ a ≤ m) (hb : 0 ≤ b ∧ b ≤ n) : 0 ≤ a * b ∧ a * b ≤ m * n := ⟨Int.mul_nonneg ha.1 hb.1, Int.mul_le_mul ha.2 hb.2 hb.1 (by omega)⟩
theorem mul_pos9 {a b : Int} (ha : 1 ≤ a) (hb : 1 ≤ b) : 1 ≤ a * b := by
  have := Int.mul_le_mul ha hb (by omega) (by omega)
  simpa using this


set_option maxRecDepth 8000 in
set_option maxHeartbeats 2000000 in
theorem impl_fractionOf (a b : Int) (ha : 0 ≤ a ∧ a ≤ 4611686018427387904) (hb : 1 ≤ b ∧ b ≤ 4611686018427387904) : PCalls Tryd.prog 30 [.int .i64 a, .int .i64 b] (· = [.val (.agg [.int .i64 (frA (a) (b)), .int .i64 (frB (a) (b))])]) := by
  refine pcalls_of_code (n := 22) az Tryd.func30 (by kernel_rfl) rfl rfl (Nat.le_of_ble_eq_true rfl) (by intro t u h; simp [Tryd.f30] at h; obtain ⟨_, rfl⟩ := h <;> first | exact resTy_agg agg_51 (by decide)) ?_
  refine code_seq (fun K1 hK1 => ?_)
  refine code_region ?_
  refine list_cons rfl (op_alloc zt_51 (by decide) (by decide) rfl ?_)
  refine list_nil ?_
  refine hK1 _ ?_; clear hK1 K1
  refine code_seq (fun K2 hK2 => ?_)
  refine code_region ?_
  refine list_cons rfl (op_q (q_move rfl (by decide)) ?_)
  refine list_cons rfl (op_q (q_move rfl (by decide)) ?_)
  refine list_cons rfl (op_q (q_assign rfl (by decide)) ?_)
  refine list_cons rfl (op_q (q_assign rfl (by decide)) ?_)
  refine list_nil ?_
  refine hK2 _ ?_; clear hK2 K2
  refine code_seq (fun K3 hK3 => ?_)
  refine code_block ?_
  refine code_loop (X := Int × Int) (fun x => [(0, .val (.int .i64 a)), (1, .val (.int .i64 b)), (4, .box 4 51 [.int .i64 0, .int .i64 0]), (5, .val (.int .i64 x.1)), (6, .val (.int .i64 x.2))]) (fun x => 0 ≤ x.1 ∧ 0 ≤ x.2 ∧ Nat.gcd x.1.toNat x.2.toNat = Nat.gcd a.toNat b.toNat) (fun x => x.2.toNat) (_, _) (imp_covers ⟨rfl, rfl, rfl, rfl, rfl, trivial⟩) ?_ ?_
  · (try dsimp only)
    exact ⟨by omega, by omega, Nat.gcd_comm _ _⟩
  · intro x hI
    obtain ⟨divisor, rest⟩ := x
    replace hI : 0 ≤ divisor ∧ 0 ≤ rest ∧ Nat.gcd divisor.toNat rest.toNat = Nat.gcd a.toNat b.toNat := hI
    show codeT _ _ _ [(0, .val (.int .i64 a)), (1, .val (.int .i64 b)), (4, .box 4 51 [.int .i64 0, .int .i64 0]), (5, .val (.int .i64 divisor)), (6, .val (.int .i64 rest))] _
    obtain ⟨i1, i2, i3⟩ := hI
    refine code_seq (fun K4 hK4 => ?_)
    refine code_seq (fun K5 hK5 => ?_)
    refine code_region ?_
    refine list_cons rfl (op_q (q_move rfl (by decide)) ?_)
    refine list_cons rfl (op_q (q_ne rfl rfl (by decide)) ?_)
    refine list_nil ?_
    refine hK5 _ ?_; clear hK5 K5
    refine code_cond_d rfl (fun h1 => ?_) (fun h1 => ?_)
    · skip
      (try simp only [Decidable.not_not] at h1); (try have hy : rest = 0 := by assumption); (try subst hy); (try have hx := gcd_end9 i3 i1); (try have hg := gcd_pos9 (a := a) hb.1)
      refine code_skip ?_
      refine hK4 _ ?_; clear hK4 K4
      refine code_block ?_
      refine code_draw (by kernel_rfl) (by kernel_rfl) ?_
      refine draw_q rfl (q_move rfl (by decide)) ?_
      refine draw_q rfl (q_move rfl (by decide)) ?_
      refine draw_q rfl (q_move rfl (by decide)) ?_
      refine draw_q rfl (by first | exact q_remI rfl rfl (by decide) (by omega) (by omega) | exact q_rem rfl rfl (by omega) (by decide)) ?_
      refine draw_q rfl (q_assign rfl (by decide)) ?_
      refine draw_q rfl (q_assign rfl (by decide)) ?_
      refine draw_nil ?_
      refine blk_n ?_
      refine then_n ⟨(_, _), imp_covers ⟨rfl, rfl, rfl, rfl, rfl, trivial⟩, ?_, ?_⟩
      · (try dsimp only)
        exact ⟨by omega, Int.emod_nonneg _ (by omega), gcd_stepI i1 i2 i3⟩
      · have := Int.emod_lt_of_pos divisor (show 0 < rest by omega); (try dsimp only); omega
    (try simp only [Decidable.not_not] at h1); (try have hy : rest = 0 := by assumption); (try subst hy); (try have hx := gcd_end9 i3 i1); (try have hg := gcd_pos9 (a := a) hb.1)
    refine code_exit ?_
    refine then_x ?_; clear hK4 K4
    refine then_x ?_
    refine blk_hit ?_
    refine hK3 _ ?_; clear hK3 K3
    refine code_seq (fun K6 hK6 => ?_)
    refine any_start fun ob1_0 => ?_
    refine any_op (rd := [0]) ob1_0 rfl rfl rfl (anyT_quiet [(0, _)] ⟨rfl, trivial⟩ rfl (q_move rfl (by decide))) (fun ob1_1 => ?_)
    refine any_op (rd := [5]) ob1_1 rfl rfl rfl (anyT_quiet [(5, _)] ⟨rfl, trivial⟩ rfl (q_move rfl (by decide))) (fun ob1_2 => ?_)
    refine any_op (rd := [15, 16]) ob1_2 rfl rfl rfl (anyT_quiet [(15, _), (16, _)] ⟨rfl, rfl, trivial⟩ rfl (by first | exact q_quoI rfl rfl (by decide) (by omega) (by omega) (by omega) | exact q_quoT rfl rfl (by omega) (by decide) (by omega) (by omega) | exact q_quo rfl rfl (by omega) (by decide))) (fun ob1_3 => ?_)
    refine any_op (rd := [1]) ob1_3 rfl rfl rfl (anyT_quiet [(1, _)] ⟨rfl, trivial⟩ rfl (q_move rfl (by decide))) (fun ob1_4 => ?_)
    refine any_op (rd := [5]) ob1_4 rfl rfl rfl (anyT_quiet [(5, _)] ⟨rfl, trivial⟩ rfl (q_move rfl (by decide))) (fun ob1_5 => ?_)
    refine any_op (rd := [18, 19]) ob1_5 rfl rfl rfl (anyT_quiet [(18, _), (19, _)] ⟨rfl, rfl, trivial⟩ rfl (by first | exact q_quoI rfl rfl (by decide) (by omega) (by omega) (by omega) | exact q_quoT rfl rfl (by omega) (by decide) (by omega) (by omega) | exact q_quo rfl rfl (by omega) (by decide))) (fun ob1_6 => ?_)
    refine any_end [[], [], [0, 1], [], [], [3, 4], [0, 1, 2, 3, 4, 5], [0, 1, 2, 3, 4, 5, 6]] ob1_6 (by kernel_rfl) (Nat.le_of_ble_eq_true rfl) (by decide) (by decide) (by kernel_rfl) (by kernel_rfl) (by kernel_rfl) (by kernel_rfl) (by kernel_rfl) ?_
    clear ob1_0 ob1_1 ob1_2 ob1_3 ob1_4 ob1_5 ob1_6
    refine listT.imp (σ' := [(0, _), (1, _), (4, _), (5, _), (6, _), (9, _), (10, _), (15, _), (16, _), (17, _), (18, _), (19, _), (20, _)]) ?_ (imp_covers ⟨rfl, rfl, rfl, rfl, rfl, rfl, rfl, rfl, rfl, rfl, rfl, rfl, rfl, trivial⟩)
    refine list_cons rfl (op_q (q_build bt_51 (parts := [(0, .tmp 17), (1, .tmp 20)]) rfl rfl (by decide)) ?_)
    refine list_cons rfl (op_store (agg_51).2 4 [4] (by intro t ht; simp only [List.mem_cons, List.not_mem_nil, or_false] at ht; subst ht; rfl) (.inr ⟨rfl, _, rfl⟩) rfl rfl rfl rfl (by first | rfl | exact flat_part (flat_map _ (fun _ => rfl) _) _ _ | exact flat_map _ (fun _ => rfl) _) (by first | rfl | (simp [PV.cells]; done)) (by first | decide | omega | exact Nat.le_refl _ | (simp; done) | (simp; omega)) (by decide) rfl ?_)
    refine list_nil ?_
    refine hK6 _ ?_; clear hK6 K6
    refine codeT.imp (σ' := [(0, _), (1, _), (4, _), (5, _), (6, _)]) ?_ (imp_covers ⟨rfl, rfl, rfl, rfl, rfl, trivial⟩)
    refine code_ret ?_
    refine ends_ret (cs := []) rfl rfl rfl rfl trivial ?_
    subst hx
    rw [frA_div ha.1, frB_div (by omega)]
    rfl

set_option maxRecDepth 8000 in
set_option maxHeartbeats 2000000 in
theorem impl_plus (a b d e : Int) (ha : 0 ≤ a ∧ a ≤ 999999999) (hb : 1 ≤ b ∧ b ≤ 999999999) (hd : 0 ≤ d ∧ d ≤ 999999999) (he : 1 ≤ e ∧ e ≤ 999999999) : PCalls Tryd.prog 52 [.agg [.int .i64 a, .int .i64 b], .agg [.int .i64 d, .int .i64 e]] (· = [.val (.agg [.int .i64 (frA (a * e + d * b) (b * e)), .int .i64 (frB (a * e + d * b) (b * e))])]) := by
  refine pcalls_of_code (n := 22) az Tryd.func52 (by kernel_rfl) rfl rfl (Nat.le_of_ble_eq_true rfl) (by intro t u h; simp [Tryd.f52] at h; obtain ⟨_, rfl⟩ := h <;> first | exact resTy_agg agg_51 (by decide)) ?_
  have m1 := mul_bd9 (a := a) (b := e) (m := 999999999) (n := 999999999) (by omega) (by omega)
  have m2 := mul_bd9 (a := d) (b := b) (m := 999999999) (n := 999999999) (by omega) (by omega)
  have m3 := mul_bd9 (a := b) (b := e) (m := 999999999) (n := 999999999) (by omega) (by omega)
  have m4 := mul_pos9 (a := b) (b := e) (by omega) (by omega)
  refine code_seq (fun K1 hK1 => ?_)
  refine code_region ?_
  refine list_cons rfl (op_box rfl (.inl ⟨rfl, rfl⟩) (by decide) (by decide) rfl ?_)
  refine list_cons rfl (op_box rfl (.inl ⟨rfl, rfl⟩) (by decide) (by decide) rfl ?_)
  refine list_cons rfl (op_alloc zt_51 (by decide) (by decide) rfl ?_)
  refine list_nil ?_
  refine hK1 _ ?_; clear hK1 K1
  refine code_seq (fun K2 hK2 => ?_)
  refine code_region ?_
  refine list_cons rfl (op_q (q_indexAddr_arr arr_51 rfl rfl rfl (by omega) (by omega) (by decide)) ?_)
  refine list_cons rfl (op_q (q_load one_3 2 rfl rfl rfl (by first | rfl | exact get_map1 _ 0 _ (by first | omega | (simp; omega))) (by decide)) ?_)
  refine list_cons rfl (op_q (q_indexAddr_arr arr_51 rfl rfl rfl (by omega) (by omega) (by decide)) ?_)
  refine list_cons rfl (op_q (q_load one_3 3 rfl rfl rfl (by first | rfl | exact get_map1 _ 0 _ (by first | omega | (simp; omega))) (by decide)) ?_)
  refine list_cons rfl (op_q (by first | exact q_mulI rfl rfl (by decide) (by omega) (by omega) | exact q_ib rfl rfl rfl (by decide)) ?_)
  refine list_cons rfl (op_q (q_indexAddr_arr arr_51 rfl rfl rfl (by omega) (by omega) (by decide)) ?_)
  refine list_cons rfl (op_q (q_load one_3 3 rfl rfl rfl (by first | rfl | exact get_map1 _ 0 _ (by first | omega | (simp; omega))) (by decide)) ?_)
  refine list_cons rfl (op_q (q_indexAddr_arr arr_51 rfl rfl rfl (by omega) (by omega) (by decide)) ?_)
  refine list_cons rfl (op_q (q_load one_3 2 rfl rfl rfl (by first | rfl | exact get_map1 _ 0 _ (by first | omega | (simp; omega))) (by decide)) ?_)
  refine list_cons rfl (op_q (by first | exact q_mulI rfl rfl (by decide) (by omega) (by omega) | exact q_ib rfl rfl rfl (by decide)) ?_)
  refine list_cons rfl (op_q (by first | exact q_addI rfl rfl (by decide) (by omega) (by omega) | exact q_ib rfl rfl rfl (by decide)) ?_)
  refine list_cons rfl (op_q (q_indexAddr_arr arr_51 rfl rfl rfl (by omega) (by omega) (by decide)) ?_)
  refine list_cons rfl (op_q (q_load one_3 2 rfl rfl rfl (by first | rfl | exact get_map1 _ 0 _ (by first | omega | (simp; omega))) (by decide)) ?_)
  refine list_cons rfl (op_q (q_indexAddr_arr arr_51 rfl rfl rfl (by omega) (by omega) (by decide)) ?_)
  refine list_cons rfl (op_q (q_load one_3 3 rfl rfl rfl (by first | rfl | exact get_map1 _ 0 _ (by first | omega | (simp; omega))) (by decide)) ?_)
  refine list_cons rfl (op_q (by first | exact q_mulI rfl rfl (by decide) (by omega) (by omega) | exact q_ib rfl rfl rfl (by decide)) ?_)
  refine list_cons rfl (op_call _ (impl_fractionOf _ _ (by omega) (by omega)) rfl rfl (by decide) (by decide) (by decide) rfl ?_)
  rintro _ rfl
  refine list_cons rfl (op_store (agg_51).2 4 [4] (by intro t ht; simp only [List.mem_cons, List.not_mem_nil, or_false] at ht; subst ht; rfl) (.inr ⟨rfl, _, rfl⟩) rfl rfl rfl rfl (by first | rfl | exact flat_part (flat_map _ (fun _ => rfl) _) _ _ | exact flat_map _ (fun _ => rfl) _) (by first | rfl | (simp [PV.cells]; done)) (by first | decide | omega | exact Nat.le_refl _ | (simp; done) | (simp; omega)) (by decide) rfl ?_)
  refine list_nil ?_
  refine hK2 _ ?_; clear hK2 K2
  refine codeT.imp (σ' := [(0, _), (1, _), (2, _), (3, _), (4, _)]) ?_ (imp_covers ⟨rfl, rfl, rfl, rfl, rfl, trivial⟩)
  refine code_ret ?_
  refine ends_ret (cs := []) rfl rfl rfl rfl trivial ?_
  rfl

theorem impl_plusN (a c n : Int) (ha : 0 ≤ a ∧ a ≤ 999999999) (hc : 0 ≤ c ∧ c ≤ 999999999) (hn : 1 ≤ n ∧ n ≤ 999999999) : PCalls Tryd.prog 52 [.agg [.int .i64 (frA a n), .int .i64 (frB a n)], .agg [.int .i64 (frA c n), .int .i64 (frB c n)]] (· = [.val (.agg [.int .i64 (frA (a + c) (n)), .int .i64 (frB (a + c) (n))])]) := by
  have a1 := frA_bd (b := n) ha.1; have a2 := frA_bd (b := n) hc.1; have b1 := frB_bd (a := a) hn.1; have b2 := frB_bd (a := c) hn.1
  have h := impl_plus (frA a n) (frB a n) (frA c n) (frB c n) (by omega) (by omega) (by omega) (by omega)
  have k := fr_plusN ha.1 hc.1 hn.1
  rw [k.1, k.2] at h
  exact h

set_option maxRecDepth 8000 in
set_option maxHeartbeats 2000000 in
theorem impl_over (a b d e : Int) (ha : 0 ≤ a ∧ a ≤ 999999999) (hb : 1 ≤ b ∧ b ≤ 999999999) (hd : 1 ≤ d ∧ d ≤ 999999999) (he : 1 ≤ e ∧ e ≤ 999999999) : PCalls Tryd.prog 43 [.agg [.int .i64 a, .int .i64 b], .agg [.int .i64 d, .int .i64 e]] (· = [.val (.agg [.int .i64 (frA (a * e) (b * d)), .int .i64 (frB (a * e) (b * d))])]) := by
  refine pcalls_of_code (n := 16) az Tryd.func43 (by kernel_rfl) rfl rfl (Nat.le_of_ble_eq_true rfl) (by intro t u h; simp [Tryd.f43] at h; obtain ⟨_, rfl⟩ := h <;> first | exact resTy_agg agg_51 (by decide)) ?_
  have m1 := mul_bd9 (a := a) (b := e) (m := 999999999) (n := 999999999) (by omega) (by omega)
  have m3 := mul_bd9 (a := b) (b := d) (m := 999999999) (n := 999999999) (by omega) (by omega)
  have m4 := mul_pos9 (a := b) (b := d) (by omega) (by omega)
  refine code_seq (fun K1 hK1 => ?_)
  refine code_region ?_
  refine list_cons rfl (op_box rfl (.inl ⟨rfl, rfl⟩) (by decide) (by decide) rfl ?_)
  refine list_cons rfl (op_box rfl (.inl ⟨rfl, rfl⟩) (by decide) (by decide) rfl ?_)
  refine list_cons rfl (op_alloc zt_51 (by decide) (by decide) rfl ?_)
  refine list_nil ?_
  refine hK1 _ ?_; clear hK1 K1
  refine code_seq (fun K2 hK2 => ?_)
  refine code_region ?_
  refine list_cons rfl (op_q (q_indexAddr_arr arr_51 rfl rfl rfl (by omega) (by omega) (by decide)) ?_)
  refine list_cons rfl (op_q (q_load one_3 2 rfl rfl rfl (by first | rfl | exact get_map1 _ 0 _ (by first | omega | (simp; omega))) (by decide)) ?_)
  refine list_cons rfl (op_q (q_indexAddr_arr arr_51 rfl rfl rfl (by omega) (by omega) (by decide)) ?_)
  refine list_cons rfl (op_q (q_load one_3 3 rfl rfl rfl (by first | rfl | exact get_map1 _ 0 _ (by first | omega | (simp; omega))) (by decide)) ?_)
  refine list_cons rfl (op_q (by first | exact q_mulI rfl rfl (by decide) (by omega) (by omega) | exact q_ib rfl rfl rfl (by decide)) ?_)
  refine list_cons rfl (op_q (q_indexAddr_arr arr_51 rfl rfl rfl (by omega) (by omega) (by decide)) ?_)
  refine list_cons rfl (op_q (q_load one_3 2 rfl rfl rfl (by first | rfl | exact get_map1 _ 0 _ (by first | omega | (simp; omega))) (by decide)) ?_)
  refine list_cons rfl (op_q (q_indexAddr_arr arr_51 rfl rfl rfl (by omega) (by omega) (by decide)) ?_)
  refine list_cons rfl (op_q (q_load one_3 3 rfl rfl rfl (by first | rfl | exact get_map1 _ 0 _ (by first | omega | (simp; omega))) (by decide)) ?_)
  refine list_cons rfl (op_q (by first | exact q_mulI rfl rfl (by decide) (by omega) (by omega) | exact q_ib rfl rfl rfl (by decide)) ?_)
  refine list_cons rfl (op_call _ (impl_fractionOf _ _ (by omega) (by omega)) rfl rfl (by decide) (by decide) (by decide) rfl ?_)
  rintro _ rfl
  refine list_cons rfl (op_store (agg_51).2 4 [4] (by intro t ht; simp only [List.mem_cons, List.not_mem_nil, or_false] at ht; subst ht; rfl) (.inr ⟨rfl, _, rfl⟩) rfl rfl rfl rfl (by first | rfl | exact flat_part (flat_map _ (fun _ => rfl) _) _ _ | exact flat_map _ (fun _ => rfl) _) (by first | rfl | (simp [PV.cells]; done)) (by first | decide | omega | exact Nat.le_refl _ | (simp; done) | (simp; omega)) (by decide) rfl ?_)
  refine list_nil ?_
  refine hK2 _ ?_; clear hK2 K2
  refine codeT.imp (σ' := [(0, _), (1, _), (2, _), (3, _), (4, _)]) ?_ (imp_covers ⟨rfl, rfl, rfl, rfl, rfl, trivial⟩)
  refine code_ret ?_
  refine ends_ret (cs := []) rfl rfl rfl rfl trivial ?_
  rfl

theorem fr_pos9 {c n : Int} (hc : 1 ≤ c) (hn : 1 ≤ n) : 1 ≤ frA c n := by
  have h := fr_zero (a := c) (n := n) (by omega) hn
  have a1 := frA_bd (b := n) (a := c) (by omega)
  by_cases e : frA c n = 0
  · exfalso
    have e1 := fr_cross (a := c) (b := n) (by omega) hn
    have b1 := frB_bd (a := c) hn
    have := mul_pos9 hc b1.1
    rw [e] at e1; omega
  · omega
theorem impl_overN (a c n : Int) (ha : 0 ≤ a ∧ a ≤ 999999999) (hc : 1 ≤ c ∧ c ≤ 999999999) (hn : 1 ≤ n ∧ n ≤ 999999999) : PCalls Tryd.prog 43 [.agg [.int .i64 (frA a n), .int .i64 (frB a n)], .agg [.int .i64 (frA c n), .int .i64 (frB c n)]] (· = [.val (.agg [.int .i64 (frA (a) (c)), .int .i64 (frB (a) (c))])]) := by
  have a1 := frA_bd (b := n) ha.1; have a2 := frA_bd (a := c) (b := n) (by omega); have b1 := frB_bd (a := a) hn.1; have b2 := frB_bd (a := c) hn.1
  have a3 := fr_pos9 hc.1 hn.1
  have h := impl_over (frA a n) (frB a n) (frA c n) (frB c n) (by omega) (by omega) (by omega) (by omega)
  have k := fr_overN ha.1 hc.1 hn.1
  rw [k.1, k.2] at h
  exact h

set_option maxRecDepth 8000 in
set_option maxHeartbeats 2000000 in
theorem impl_opposite (a n : Int) (ha : 0 ≤ a) (han : a ≤ n) (hn : 1 ≤ n ∧ n ≤ 999999999) : PCalls Tryd.prog 42 [.agg [.int .i64 (frA a n), .int .i64 (frB a n)]] (· = [.val (.agg [.int .i64 (frA (n - a) (n)), .int .i64 (frB (n - a) (n))])]) := by
  refine pcalls_of_code (n := 11) az Tryd.func42 (by kernel_rfl) rfl rfl (Nat.le_of_ble_eq_true rfl) (by intro t u h; simp [Tryd.f42] at h; obtain ⟨_, rfl⟩ := h <;> first | exact resTy_agg agg_51 (by decide)) ?_
  have a1 := frA_bd (b := n) ha
  have b1 := frB_bd (a := a) hn.1
  have ko := fr_opp ha han hn.1
  refine code_seq (fun K1 hK1 => ?_)
  refine code_region ?_
  refine list_cons rfl (op_box rfl (.inl ⟨rfl, rfl⟩) (by decide) (by decide) rfl ?_)
  refine list_cons rfl (op_alloc zt_51 (by decide) (by decide) rfl ?_)
  refine list_nil ?_
  refine hK1 _ ?_; clear hK1 K1
  refine code_seq (fun K2 hK2 => ?_)
  refine code_region ?_
  refine list_cons rfl (op_q (q_indexAddr_arr arr_51 rfl rfl rfl (by omega) (by omega) (by decide)) ?_)
  refine list_cons rfl (op_q (q_load one_3 1 rfl rfl rfl (by first | rfl | exact get_map1 _ 0 _ (by first | omega | (simp; omega))) (by decide)) ?_)
  refine list_cons rfl (op_q (q_indexAddr_arr arr_51 rfl rfl rfl (by omega) (by omega) (by decide)) ?_)
  refine list_cons rfl (op_q (q_load one_3 1 rfl rfl rfl (by first | rfl | exact get_map1 _ 0 _ (by first | omega | (simp; omega))) (by decide)) ?_)
  refine list_cons rfl (op_q (by first | exact q_subI rfl rfl (by decide) (by omega) (by omega) | exact q_ib rfl rfl rfl (by decide)) ?_)
  refine list_cons rfl (op_q (q_indexAddr_arr arr_51 rfl rfl rfl (by omega) (by omega) (by decide)) ?_)
  refine list_cons rfl (op_q (q_load one_3 1 rfl rfl rfl (by first | rfl | exact get_map1 _ 0 _ (by first | omega | (simp; omega))) (by decide)) ?_)
  refine list_cons rfl (op_call _ (impl_fractionOf _ _ (by omega) (by omega)) rfl rfl (by decide) (by decide) (by decide) rfl ?_)
  rintro _ rfl
  refine list_cons rfl (op_store (agg_51).2 2 [2] (by intro t ht; simp only [List.mem_cons, List.not_mem_nil, or_false] at ht; subst ht; rfl) (.inr ⟨rfl, _, rfl⟩) rfl rfl rfl rfl (by first | rfl | exact flat_part (flat_map _ (fun _ => rfl) _) _ _ | exact flat_map _ (fun _ => rfl) _) (by first | rfl | (simp [PV.cells]; done)) (by first | decide | omega | exact Nat.le_refl _ | (simp; done) | (simp; omega)) (by decide) rfl ?_)
  refine list_nil ?_
  refine hK2 _ ?_; clear hK2 K2
  refine codeT.imp (σ' := [(0, _), (1, _), (2, _)]) ?_ (imp_covers ⟨rfl, rfl, rfl, trivial⟩)
  refine code_ret ?_
  refine ends_ret (cs := []) rfl rfl rfl rfl trivial ?_
  rw [ko.2.1, ko.2.2]; rfl

set_option maxRecDepth 4000 in
theorem impl_toPower (z n : Int) (h0 : 0 ≤ z) (h1 : z ≤ 10) (hn : n ≤ 7) : PCalls Tryd.prog 31 [.int .i64 z, .int .i64 n] (· = [.val (.int .i64 (pw9 z n.toNat))]) := by
  refine pcalls_of_code (n := 14) az Tryd.func31 (by kernel_rfl) rfl rfl (Nat.le_of_ble_eq_true rfl) (by intro t u h; simp [Tryd.f31] at h) ?_
  refine code_seq (fun K1 hK1 => ?_)
  refine code_region ?_
  refine list_cons rfl (op_q (q_assign rfl (by decide)) ?_)
  refine list_nil ?_
  refine hK1 _ ?_; clear hK1 K1
  refine code_seq (fun K2 hK2 => ?_)
  refine code_region ?_
  refine list_cons rfl (op_q (q_assign rfl (by decide)) ?_)
  refine list_nil ?_
  refine hK2 _ ?_; clear hK2 K2
  refine code_seq (fun K3 hK3 => ?_)
  refine code_seq (fun K4 hK4 => ?_)
  refine code_region ?_
  refine list_cons rfl (op_q (q_move rfl (by decide)) ?_)
  refine list_cons rfl (op_q (q_move rfl (by decide)) ?_)
  refine list_nil ?_
  refine hK4 _ ?_; clear hK4 K4
  refine code_block ?_
  refine code_loop (X := Int × Int × Int) (fun x => [(0, .val (.int .i64 z)), (1, .val (.int .i64 n)), (4, .val (.int .i64 x.1)), (5, .val (.int .i64 x.2.1)), (6, .val (.int .i64 n)), (7, .val (.int .i64 x.2.2))]) (fun x => 0 ≤ x.2.2 ∧ x.2.2 ≤ max n 0 ∧ x.2.1 = pw9 z x.2.2.toNat) (fun x => (n - x.2.2).toNat) (_, _, _) (imp_covers ⟨rfl, rfl, rfl, rfl, rfl, rfl, trivial⟩) ?_ ?_
  · (try dsimp only)
    exact ⟨by omega, by omega, rfl⟩
  · intro x hI
    obtain ⟨t4, product, t7⟩ := x
    replace hI : 0 ≤ t7 ∧ t7 ≤ max n 0 ∧ product = pw9 z t7.toNat := hI
    show codeT _ _ _ [(0, .val (.int .i64 z)), (1, .val (.int .i64 n)), (4, .val (.int .i64 t4)), (5, .val (.int .i64 product)), (6, .val (.int .i64 n)), (7, .val (.int .i64 t7))] _
    obtain ⟨i1, i2, rfl⟩ := hI
    have hb := pw9_7 h0 h1 (n := t7.toNat) (by omega)
    have hm1 := Int.mul_nonneg hb.1 h0
    have hm2 := Int.mul_le_mul hb.2 h1 h0 (by omega)
    refine code_seq (fun K5 hK5 => ?_)
    refine code_region ?_
    refine list_cons rfl (op_q (q_lt rfl rfl (by decide)) ?_)
    refine list_nil ?_
    refine hK5 _ ?_; clear hK5 K5
    refine code_seq (fun K6 hK6 => ?_)
    refine code_cond_d rfl (fun h1 => ?_) (fun h1 => ?_)
    · skip
      (try simp only [Decidable.not_not] at h1)
      refine code_skip ?_
      refine hK6 _ ?_; clear hK6 K6
      refine code_seq (fun K7 hK7 => ?_)
      refine code_block ?_
      refine code_region ?_
      refine list_cons rfl (op_q (q_move rfl (by decide)) ?_)
      refine list_cons rfl (op_q (q_move rfl (by decide)) ?_)
      refine list_cons rfl (op_q (by first | exact q_mulI rfl rfl (by decide) (by omega) (by omega) | exact q_ib rfl rfl rfl (by decide)) ?_)
      refine list_cons rfl (op_q (q_assign rfl (by decide)) ?_)
      refine list_nil ?_
      refine blk_n ?_
      refine hK7 _ ?_; clear hK7 K7
      refine code_region ?_
      refine list_cons rfl (op_q (by first | exact q_addI rfl rfl (by decide) (by omega) (by omega) | exact q_ib rfl rfl rfl (by decide)) ?_)
      refine list_cons rfl (op_q (q_move rfl (by decide)) ?_)
      refine list_nil ?_
      refine then_n ⟨(_, _, _), imp_covers ⟨rfl, rfl, rfl, rfl, rfl, rfl, trivial⟩, ?_, ?_⟩
      · (try dsimp only)
        exact ⟨by omega, by omega, by rw [show (t7 + 1).toNat = t7.toNat + 1 by omega]; rfl⟩
      · (try dsimp only); omega
    (try simp only [Decidable.not_not] at h1)
    refine code_exit ?_
    refine then_x ?_; clear hK6 K6
    refine then_x ?_
    refine blk_hit ?_
    refine hK3 _ ?_; clear hK3 K3
    refine code_seq (fun K8 hK8 => ?_)
    refine code_region ?_
    refine list_cons rfl (op_q (q_move rfl (by decide)) ?_)
    refine list_cons rfl (op_q (q_assign rfl (by decide)) ?_)
    refine list_nil ?_
    refine hK8 _ ?_; clear hK8 K8
    refine code_ret ?_
    refine ends_ret (cs := []) rfl rfl rfl rfl trivial ?_
    rw [show t7.toNat = n.toNat by omega]

set_option maxRecDepth 4000 in
theorem impl_isFlicker (p q : Int) : PCalls Tryd.prog 29 [.int .i64 p, .int .i64 q] (· = [.val (.bool (decide (FkP p q)))]) := by
  refine pcalls_of_code (n := 20) az Tryd.func29 (by kernel_rfl) rfl rfl (Nat.le_of_ble_eq_true rfl) (by intro t u h; simp [Tryd.f29] at h) ?_
  refine code_seq (fun K1 hK1 => ?_)
  refine code_region ?_
  refine list_cons rfl (op_q (q_assign rfl (by decide)) ?_)
  refine list_nil ?_
  refine hK1 _ ?_; clear hK1 K1
  refine code_seq (fun K2 hK2 => ?_)
  refine code_region ?_
  refine list_cons rfl (op_q (q_move rfl (by decide)) ?_)
  refine list_cons rfl (op_q (q_ge rfl rfl (by decide)) ?_)
  refine list_cons rfl (op_q (q_move rfl (by decide)) ?_)
  refine list_guard_d rfl rfl rfl rfl (by decide) rfl (by decide) (fun h1 => ?_) (fun h1 => ?_)
  · simp only [Bool.false_eq_true, if_true, if_false, Decidable.not_not] at h1
    refine id (op_q (q_move rfl (by decide)) ?_)
    refine list_guard_y rfl rfl rfl rfl (by decide) rfl ?_
    refine id (op_q (q_le rfl rfl (by decide)) ?_)
    refine list_cons rfl (op_q (q_pick rfl rfl (by decide)) ?_)
    refine list_cons rfl (op_q (q_move rfl (by decide)) ?_)
    refine list_guard_d rfl rfl rfl rfl (by decide) rfl (by decide) (fun h2 => ?_) (fun h2 => ?_)
    · simp only [Bool.false_eq_true, if_true, if_false, Decidable.not_not] at h2
      refine id (op_q (q_move rfl (by decide)) ?_)
      refine list_guard_y rfl rfl rfl rfl (by decide) rfl ?_
      refine id (op_q (q_ge rfl rfl (by decide)) ?_)
      refine list_cons rfl (op_q (q_pick rfl rfl (by decide)) ?_)
      refine list_cons rfl (op_q (q_move rfl (by decide)) ?_)
      refine list_guard_d rfl rfl rfl rfl (by decide) rfl (by decide) (fun h3 => ?_) (fun h3 => ?_)
      · simp only [Bool.false_eq_true, if_true, if_false, Decidable.not_not] at h3
        refine id (op_q (q_move rfl (by decide)) ?_)
        refine list_guard_y rfl rfl rfl rfl (by decide) rfl ?_
        refine id (op_q (q_move rfl (by decide)) ?_)
        refine list_guard_y rfl rfl rfl rfl (by decide) rfl ?_
        refine id (op_q (q_le rfl rfl (by decide)) ?_)
        refine list_cons rfl (op_q (q_pick rfl rfl (by decide)) ?_)
        refine list_cons rfl (op_q (q_assign rfl (by decide)) ?_)
        refine list_nil ?_
        refine hK2 _ ?_; clear hK2 K2
        refine codeT.imp (σ' := [(0, _), (1, _), (4, _)]) ?_ (imp_covers ⟨rfl, rfl, rfl, trivial⟩)
        refine code_ret ?_
        refine ends_ret (cs := []) rfl rfl rfl rfl trivial ?_
        first | (rw [decide_eq_false (fun k : FkP p q => by have := k.1; have := k.2; omega)]; done) | (rw [decide_eq_true (show FkP p q from ⟨⟨by omega, by omega⟩, by omega, by omega⟩)]; done) | (congr 3; exact decide_eq_decide.mpr ⟨fun k => ⟨⟨by omega, by omega⟩, by omega, by omega⟩, fun k => by have := k.1; have := k.2; omega⟩)
      simp only [Bool.false_eq_true, if_true, if_false, Decidable.not_not] at h3
      refine list_guard_n rfl rfl rfl rfl (by decide) rfl ?_
      refine list_guard_n rfl rfl rfl rfl (by decide) rfl ?_
      refine list_cons rfl (op_q (q_pick rfl rfl (by decide)) ?_)
      refine list_cons rfl (op_q (q_assign rfl (by decide)) ?_)
      refine list_nil ?_
      refine hK2 _ ?_; clear hK2 K2
      refine codeT.imp (σ' := [(0, _), (1, _), (4, _)]) ?_ (imp_covers ⟨rfl, rfl, rfl, trivial⟩)
      refine code_ret ?_
      refine ends_ret (cs := []) rfl rfl rfl rfl trivial ?_
      first | (rw [decide_eq_false (fun k : FkP p q => by have := k.1; have := k.2; omega)]; done) | (rw [decide_eq_true (show FkP p q from ⟨⟨by omega, by omega⟩, by omega, by omega⟩)]; done) | (congr 3; exact decide_eq_decide.mpr ⟨fun k => ⟨⟨by omega, by omega⟩, by omega, by omega⟩, fun k => by have := k.1; have := k.2; omega⟩)
    simp only [Bool.false_eq_true, if_true, if_false, Decidable.not_not] at h2
    refine list_guard_n rfl rfl rfl rfl (by decide) rfl ?_
    refine list_cons rfl (op_q (q_pick rfl rfl (by decide)) ?_)
    refine list_cons rfl (op_q (q_move rfl (by decide)) ?_)
    refine list_guard_n rfl rfl rfl rfl (by decide) rfl ?_
    refine list_guard_n rfl rfl rfl rfl (by decide) rfl ?_
    refine list_guard_n rfl rfl rfl rfl (by decide) rfl ?_
    refine list_cons rfl (op_q (q_pick rfl rfl (by decide)) ?_)
    refine list_cons rfl (op_q (q_assign rfl (by decide)) ?_)
    refine list_nil ?_
    refine hK2 _ ?_; clear hK2 K2
    refine codeT.imp (σ' := [(0, _), (1, _), (4, _)]) ?_ (imp_covers ⟨rfl, rfl, rfl, trivial⟩)
    refine code_ret ?_
    refine ends_ret (cs := []) rfl rfl rfl rfl trivial ?_
    first | (rw [decide_eq_false (fun k : FkP p q => by have := k.1; have := k.2; omega)]; done) | (rw [decide_eq_true (show FkP p q from ⟨⟨by omega, by omega⟩, by omega, by omega⟩)]; done) | (congr 3; exact decide_eq_decide.mpr ⟨fun k => ⟨⟨by omega, by omega⟩, by omega, by omega⟩, fun k => by have := k.1; have := k.2; omega⟩)
  simp only [Bool.false_eq_true, if_true, if_false, Decidable.not_not] at h1
  refine list_guard_n rfl rfl rfl rfl (by decide) rfl ?_
  refine list_cons rfl (op_q (q_pick rfl rfl (by decide)) ?_)
  refine list_cons rfl (op_q (q_move rfl (by decide)) ?_)
  refine list_guard_n rfl rfl rfl rfl (by decide) rfl ?_
  refine list_guard_n rfl rfl rfl rfl (by decide) rfl ?_
  refine list_cons rfl (op_q (q_pick rfl rfl (by decide)) ?_)
  refine list_cons rfl (op_q (q_move rfl (by decide)) ?_)
  refine list_guard_n rfl rfl rfl rfl (by decide) rfl ?_
  refine list_guard_n rfl rfl rfl rfl (by decide) rfl ?_
  refine list_guard_n rfl rfl rfl rfl (by decide) rfl ?_
  refine list_cons rfl (op_q (q_pick rfl rfl (by decide)) ?_)
  refine list_cons rfl (op_q (q_assign rfl (by decide)) ?_)
  refine list_nil ?_
  refine hK2 _ ?_; clear hK2 K2
  refine codeT.imp (σ' := [(0, _), (1, _), (4, _)]) ?_ (imp_covers ⟨rfl, rfl, rfl, trivial⟩)
  refine code_ret ?_
  refine ends_ret (cs := []) rfl rfl rfl rfl trivial ?_
  first | (rw [decide_eq_false (fun k : FkP p q => by have := k.1; have := k.2; omega)]; done) | (rw [decide_eq_true (show FkP p q from ⟨⟨by omega, by omega⟩, by omega, by omega⟩)]; done) | (congr 3; exact decide_eq_decide.mpr ⟨fun k => ⟨⟨by omega, by omega⟩, by omega, by omega⟩, fun k => by have := k.1; have := k.2; omega⟩)

set_option maxRecDepth 8000 in
set_option maxHeartbeats 2000000 in
theorem impl_ChanceFlicker (c a p q : Int) : PCalls Tryd.prog 8 [.int .i64 c, .int .i64 a, .int .i64 p, .int .i64 q] (· = [.val (.agg [.int .i64 (if (0 ≤ c ∧ c ≤ 127) ∧ (0 ≤ a ∧ a ≤ 127) ∧ FkP p q then frA (prt c a p q) (pw9 q 7) else 0), .int .i64 (if (0 ≤ c ∧ c ≤ 127) ∧ (0 ≤ a ∧ a ≤ 127) ∧ FkP p q then frB (prt c a p q) (pw9 q 7) else 0)]), .val (.bool (decide ((0 ≤ c ∧ c ≤ 127) ∧ (0 ≤ a ∧ a ≤ 127) ∧ FkP p q)))]) := by
  refine pcalls_of_code (n := 40) az Tryd.func8 (by kernel_rfl) rfl rfl (Nat.le_of_ble_eq_true rfl) (by intro t u h; simp [Tryd.f8] at h; obtain ⟨_, rfl⟩ := h <;> first | exact resTy_agg agg_26 (by decide)) ?_
  refine code_seq (fun K1 hK1 => ?_)
  refine code_region ?_
  refine list_cons rfl (op_alloc zt_26 (by decide) (by decide) rfl ?_)
  refine list_cons rfl (op_q (q_assign rfl (by decide)) ?_)
  refine list_nil ?_
  refine hK1 _ ?_; clear hK1 K1
  refine code_seq (fun K2 hK2 => ?_)
  refine code_region ?_
  refine list_cons rfl (op_q (q_move rfl (by decide)) ?_)
  refine list_cons rfl (op_q (q_move rfl (by decide)) ?_)
  refine list_cons rfl (op_call _ (impl_FarCells c a) rfl rfl (by decide) (by decide) (by decide) rfl ?_)
  rintro _ rfl; rw [show cnt7 (c.toNat ^^^ a.toNat) = fr9 c a from rfl]; have hf1 := fr9_le c a
  refine list_cons rfl (op_q (q_move rfl (by decide)) ?_)
  refine list_cons rfl (op_q (q_extract rfl rfl (by decide)) ?_)
  refine list_cons rfl (op_q (q_extract rfl rfl (by decide)) ?_)
  refine list_cons rfl (op_q (q_assign rfl (by decide)) ?_)
  refine list_cons rfl (op_q (q_assign rfl (by decide)) ?_)
  refine list_nil ?_
  refine hK2 _ ?_; clear hK2 K2
  refine codeT.imp (σ' := [(0, _), (1, _), (2, _), (3, _), (8, _), (9, _), (10, _), (11, _)]) ?_ (imp_covers ⟨rfl, rfl, rfl, rfl, rfl, rfl, rfl, rfl, trivial⟩)
  refine code_seq (fun K3 hK3 => ?_)
  refine code_seq (fun K4 hK4 => ?_)
  refine code_region ?_
  refine list_cons rfl (op_q (q_move rfl (by decide)) ?_)
  refine list_cons rfl (op_q (by first | exact q_notd rfl (by decide) | exact q_not rfl (by decide)) ?_)
  refine list_cons rfl (op_q (q_move rfl (by decide)) ?_)
  refine list_guard_d rfl rfl rfl rfl (by decide) rfl (by decide) (fun h1 => ?_) (fun h1 => ?_)
  · simp only [Bool.false_eq_true, if_true, if_false, Decidable.not_not] at h1
    (try simp only [Decidable.not_not] at h1); (try (have hF : FkP p q := (by assumption); have hc : (0 ≤ c ∧ c ≤ 127) ∧ 0 ≤ a ∧ a ≤ 127 := (by assumption); have hp0 : 0 ≤ p := hF.2.1; have hp1 : p ≤ 10 := (by have := hF.1.2; have := hF.2.2; omega); have hp2 : 0 ≤ q - p := (by have := hF.2.2; omega); have hp3 : q - p ≤ 10 := (by have := hF.1.2; omega); have hp4 : 0 ≤ q := (by have := hF.1.1; omega); have hp5 : q ≤ 10 := hF.1.2; have hpb := prt_bd (c := c) (a := a) hF; have hqb := pw9_7 (x := q) (n := 7) hp4 hp5 (by omega); have hqp := pw9_pos (x := q) hF.1.1 7; have hb1 := pw9_7 hp0 hp1 (fr9_le c a); have hb2 := pw9_7 (x := q - p) hp2 hp3 (show 7 - fr9 c a ≤ 7 by omega); have hm1 := Int.mul_nonneg hb1.1 hb2.1; have hm2 := Int.mul_le_mul hb1.2 hb2.2 hb2.1 (by omega)))
    refine id (op_q (q_move rfl (by decide)) ?_)
    refine list_guard_y rfl rfl rfl rfl (by decide) rfl ?_
    refine id (op_q (q_move rfl (by decide)) ?_)
    refine list_guard_y rfl rfl rfl rfl (by decide) rfl ?_
    refine id (op_call _ (impl_isFlicker _ _) rfl rfl (by decide) (by decide) (by decide) rfl ?_)
    rintro _ rfl
    refine list_guard_y rfl rfl rfl rfl (by decide) rfl ?_
    refine id (op_q (by first | exact q_notd rfl (by decide) | exact q_not rfl (by decide)) ?_)
    refine list_cons rfl (op_q (q_pick rfl rfl (by decide)) ?_)
    refine list_nil ?_
    refine hK4 _ ?_; clear hK4 K4
    refine codeT.imp (σ' := [(0, _), (1, _), (2, _), (3, _), (8, _), (9, _), (10, _), (11, _), (25, _)]) ?_ (imp_covers ⟨rfl, rfl, rfl, rfl, rfl, rfl, rfl, rfl, rfl, trivial⟩)
    refine code_cond_d rfl (fun h2 => ?_) (fun h2 => ?_)
    · skip
      (try simp only [Decidable.not_not] at h2); (try (have hF : FkP p q := (by assumption); have hc : (0 ≤ c ∧ c ≤ 127) ∧ 0 ≤ a ∧ a ≤ 127 := (by assumption); have hp0 : 0 ≤ p := hF.2.1; have hp1 : p ≤ 10 := (by have := hF.1.2; have := hF.2.2; omega); have hp2 : 0 ≤ q - p := (by have := hF.2.2; omega); have hp3 : q - p ≤ 10 := (by have := hF.1.2; omega); have hp4 : 0 ≤ q := (by have := hF.1.1; omega); have hp5 : q ≤ 10 := hF.1.2; have hpb := prt_bd (c := c) (a := a) hF; have hqb := pw9_7 (x := q) (n := 7) hp4 hp5 (by omega); have hqp := pw9_pos (x := q) hF.1.1 7; have hb1 := pw9_7 hp0 hp1 (fr9_le c a); have hb2 := pw9_7 (x := q - p) hp2 hp3 (show 7 - fr9 c a ≤ 7 by omega); have hm1 := Int.mul_nonneg hb1.1 hb2.1; have hm2 := Int.mul_le_mul hb1.2 hb2.2 hb2.1 (by omega)))
      refine code_seq (fun K5 hK5 => ?_)
      refine code_region ?_
      refine list_cons rfl (op_q (q_build bt_26 (parts := []) rfl rfl (by decide)) ?_)
      refine list_cons rfl (op_store (agg_26).2 8 [8] (by intro t ht; simp only [List.mem_cons, List.not_mem_nil, or_false] at ht; subst ht; rfl) (.inr ⟨rfl, _, rfl⟩) rfl rfl rfl rfl (by first | rfl | exact flat_part (flat_map _ (fun _ => rfl) _) _ _ | exact flat_map _ (fun _ => rfl) _) (by first | rfl | (simp [PV.cells]; done)) (by first | decide | omega | exact Nat.le_refl _ | (simp; done) | (simp; omega)) (by decide) rfl ?_)
      refine list_cons rfl (op_q (q_assign rfl (by decide)) ?_)
      refine list_nil ?_
      refine hK5 _ ?_; clear hK5 K5
      refine codeT.imp (σ' := [(0, _), (1, _), (2, _), (3, _), (8, _), (9, _), (10, _), (11, _)]) ?_ (imp_covers ⟨rfl, rfl, rfl, rfl, rfl, rfl, rfl, rfl, trivial⟩)
      refine code_ret ?_
      refine then_r ?_; clear hK3 K3
      refine ends_ret (cs := []) rfl rfl rfl rfl trivial ?_
      first
        | (have e : ¬ ((0 ≤ c ∧ c ≤ 127) ∧ (0 ≤ a ∧ a ≤ 127) ∧ FkP p q) := by first | exact fun k => absurd k.2.2 (by assumption) | exact fun k => absurd (show (0 ≤ c ∧ c ≤ 127) ∧ 0 ≤ a ∧ a ≤ 127 from ⟨k.1, k.2.1⟩) (by assumption)
           simp only [if_neg e, decide_eq_false e]; first | done | rfl)
        | (have e : (0 ≤ c ∧ c ≤ 127) ∧ (0 ≤ a ∧ a ≤ 127) ∧ FkP p q := ⟨hc.1, hc.2, hF⟩
           simp only [if_pos e, decide_eq_true e]; first | done | rfl)
    (try simp only [Decidable.not_not] at h2); (try (have hF : FkP p q := (by assumption); have hc : (0 ≤ c ∧ c ≤ 127) ∧ 0 ≤ a ∧ a ≤ 127 := (by assumption); have hp0 : 0 ≤ p := hF.2.1; have hp1 : p ≤ 10 := (by have := hF.1.2; have := hF.2.2; omega); have hp2 : 0 ≤ q - p := (by have := hF.2.2; omega); have hp3 : q - p ≤ 10 := (by have := hF.1.2; omega); have hp4 : 0 ≤ q := (by have := hF.1.1; omega); have hp5 : q ≤ 10 := hF.1.2; have hpb := prt_bd (c := c) (a := a) hF; have hqb := pw9_7 (x := q) (n := 7) hp4 hp5 (by omega); have hqp := pw9_pos (x := q) hF.1.1 7; have hb1 := pw9_7 hp0 hp1 (fr9_le c a); have hb2 := pw9_7 (x := q - p) hp2 hp3 (show 7 - fr9 c a ≤ 7 by omega); have hm1 := Int.mul_nonneg hb1.1 hb2.1; have hm2 := Int.mul_le_mul hb1.2 hb2.2 hb2.1 (by omega)))
    refine code_skip ?_
    refine hK3 _ ?_; clear hK3 K3
    refine code_seq (fun K6 hK6 => ?_)
    refine code_region ?_
    refine list_cons rfl (op_q (q_move rfl (by decide)) ?_)
    refine list_cons rfl (op_q (q_move rfl (by decide)) ?_)
    refine list_cons rfl (op_call _ (impl_toPower p (if (0 ≤ c ∧ c ≤ 127) ∧ 0 ≤ a ∧ a ≤ 127 then ((fr9 c a : Nat) : Int) else 0) hp0 hp1 (by rw [if_pos hc]; omega)) rfl rfl (by decide) (by decide) (by decide) rfl ?_)
    rintro _ rfl; rw [if_pos hc, show ((fr9 c a : Nat) : Int).toNat = fr9 c a from rfl]
    refine list_cons rfl (op_q (q_move rfl (by decide)) ?_)
    refine list_cons rfl (op_q (q_move rfl (by decide)) ?_)
    refine list_cons rfl (op_q (by first | exact q_subI rfl rfl (by decide) (by omega) (by omega) | exact q_ib rfl rfl rfl (by decide)) ?_)
    refine list_cons rfl (op_q (q_move rfl (by decide)) ?_)
    refine list_cons rfl (op_q (by first | exact q_subI rfl rfl (by decide) (by omega) (by omega) | exact q_ib rfl rfl rfl (by decide)) ?_)
    refine list_cons rfl (op_call _ (impl_toPower (q - p) (7 - ((fr9 c a : Nat) : Int)) hp2 hp3 (by omega)) rfl rfl (by decide) (by decide) (by decide) rfl ?_)
    rintro _ rfl; rw [show (7 - ((fr9 c a : Nat) : Int)).toNat = 7 - fr9 c a by omega]
    refine list_cons rfl (op_q (by first | exact q_mulI rfl rfl (by decide) (by omega) (by omega) | exact q_ib rfl rfl rfl (by decide)) ?_)
    refine list_cons rfl (op_q (q_move rfl (by decide)) ?_)
    refine list_cons rfl (op_call _ (impl_toPower q 7 hp4 hp5 (by omega)) rfl rfl (by decide) (by decide) (by decide) rfl ?_)
    rintro _ rfl; rw [show (7 : Int).toNat = 7 from rfl, show pw9 p (fr9 c a) * pw9 (q - p) (7 - fr9 c a) = prt c a p q from rfl]
    refine list_cons rfl (op_call _ (impl_fractionOf _ _ (by omega) (by omega)) rfl rfl (by decide) (by decide) (by decide) rfl ?_)
    rintro _ rfl
    refine list_cons rfl (op_store (agg_26).2 8 [8] (by intro t ht; simp only [List.mem_cons, List.not_mem_nil, or_false] at ht; subst ht; rfl) (.inr ⟨rfl, _, rfl⟩) rfl rfl rfl rfl (by first | rfl | exact flat_part (flat_map _ (fun _ => rfl) _) _ _ | exact flat_map _ (fun _ => rfl) _) (by first | rfl | (simp [PV.cells]; done)) (by first | decide | omega | exact Nat.le_refl _ | (simp; done) | (simp; omega)) (by decide) rfl ?_)
    refine list_cons rfl (op_q (q_assign rfl (by decide)) ?_)
    refine list_nil ?_
    refine hK6 _ ?_; clear hK6 K6
    refine codeT.imp (σ' := [(0, _), (1, _), (2, _), (3, _), (8, _), (9, _), (10, _), (11, _)]) ?_ (imp_covers ⟨rfl, rfl, rfl, rfl, rfl, rfl, rfl, rfl, trivial⟩)
    refine code_ret ?_
    refine ends_ret (cs := []) rfl rfl rfl rfl trivial ?_
    first
      | (have e : ¬ ((0 ≤ c ∧ c ≤ 127) ∧ (0 ≤ a ∧ a ≤ 127) ∧ FkP p q) := by first | exact fun k => absurd k.2.2 (by assumption) | exact fun k => absurd (show (0 ≤ c ∧ c ≤ 127) ∧ 0 ≤ a ∧ a ≤ 127 from ⟨k.1, k.2.1⟩) (by assumption)
         simp only [if_neg e, decide_eq_false e]; first | done | rfl)
      | (have e : (0 ≤ c ∧ c ≤ 127) ∧ (0 ≤ a ∧ a ≤ 127) ∧ FkP p q := ⟨hc.1, hc.2, hF⟩
         simp only [if_pos e, decide_eq_true e]; first | done | rfl)
  simp only [Bool.false_eq_true, if_true, if_false, Decidable.not_not] at h1
  (try simp only [Decidable.not_not] at h1); (try (have hF : FkP p q := (by assumption); have hc : (0 ≤ c ∧ c ≤ 127) ∧ 0 ≤ a ∧ a ≤ 127 := (by assumption); have hp0 : 0 ≤ p := hF.2.1; have hp1 : p ≤ 10 := (by have := hF.1.2; have := hF.2.2; omega); have hp2 : 0 ≤ q - p := (by have := hF.2.2; omega); have hp3 : q - p ≤ 10 := (by have := hF.1.2; omega); have hp4 : 0 ≤ q := (by have := hF.1.1; omega); have hp5 : q ≤ 10 := hF.1.2; have hpb := prt_bd (c := c) (a := a) hF; have hqb := pw9_7 (x := q) (n := 7) hp4 hp5 (by omega); have hqp := pw9_pos (x := q) hF.1.1 7; have hb1 := pw9_7 hp0 hp1 (fr9_le c a); have hb2 := pw9_7 (x := q - p) hp2 hp3 (show 7 - fr9 c a ≤ 7 by omega); have hm1 := Int.mul_nonneg hb1.1 hb2.1; have hm2 := Int.mul_le_mul hb1.2 hb2.2 hb2.1 (by omega)))
  refine list_guard_n rfl rfl rfl rfl (by decide) rfl ?_
  refine list_guard_n rfl rfl rfl rfl (by decide) rfl ?_
  refine list_guard_n rfl rfl rfl rfl (by decide) rfl ?_
  refine list_cons rfl (op_q (q_pick rfl rfl (by decide)) ?_)
  refine list_nil ?_
  refine hK4 _ ?_; clear hK4 K4
  refine code_cond_t rfl ?_
  refine code_seq (fun K7 hK7 => ?_)
  refine code_region ?_
  refine list_cons rfl (op_q (q_build bt_26 (parts := []) rfl rfl (by decide)) ?_)
  refine list_cons rfl (op_store (agg_26).2 8 [8] (by intro t ht; simp only [List.mem_cons, List.not_mem_nil, or_false] at ht; subst ht; rfl) (.inr ⟨rfl, _, rfl⟩) rfl rfl rfl rfl (by first | rfl | exact flat_part (flat_map _ (fun _ => rfl) _) _ _ | exact flat_map _ (fun _ => rfl) _) (by first | rfl | (simp [PV.cells]; done)) (by first | decide | omega | exact Nat.le_refl _ | (simp; done) | (simp; omega)) (by decide) rfl ?_)
  refine list_cons rfl (op_q (q_assign rfl (by decide)) ?_)
  refine list_nil ?_
  refine hK7 _ ?_; clear hK7 K7
  refine codeT.imp (σ' := [(0, _), (1, _), (2, _), (3, _), (8, _), (9, _), (10, _), (11, _)]) ?_ (imp_covers ⟨rfl, rfl, rfl, rfl, rfl, rfl, rfl, rfl, trivial⟩)
  refine code_ret ?_
  refine then_r ?_; clear hK3 K3
  refine ends_ret (cs := []) rfl rfl rfl rfl trivial ?_
  first
    | (have e : ¬ ((0 ≤ c ∧ c ≤ 127) ∧ (0 ≤ a ∧ a ≤ 127) ∧ FkP p q) := by first | exact fun k => absurd k.2.2 (by assumption) | exact fun k => absurd (show (0 ≤ c ∧ c ≤ 127) ∧ 0 ≤ a ∧ a ≤ 127 from ⟨k.1, k.2.1⟩) (by assumption)
       simp only [if_neg e, decide_eq_false e]; first | done | rfl)
    | (have e : (0 ≤ c ∧ c ≤ 127) ∧ (0 ≤ a ∧ a ≤ 127) ∧ FkP p q := ⟨hc.1, hc.2, hF⟩
       simp only [if_pos e, decide_eq_true e]; first | done | rfl)

theorem impl_ChanceFlickerD (c d p q : Int) (hc : 0 ≤ d ∧ d ≤ 9) : PCalls Tryd.prog 8 [.int .i64 c, .int .i64 (digT.getD d.toNat 0), .int .i64 p, .int .i64 q] (· = [.val (.agg [.int .i64 (if (0 ≤ c ∧ c ≤ 127) ∧ FkP p q then frA (prt c (digT.getD d.toNat 0) p q) (pw9 q 7) else 0), .int .i64 (if (0 ≤ c ∧ c ≤ 127) ∧ FkP p q then frB (prt c (digT.getD d.toNat 0) p q) (pw9 q 7) else 0)]), .val (.bool (decide ((0 ≤ c ∧ c ≤ 127) ∧ FkP p q)))]) := by
  have h := impl_ChanceFlicker c (digT.getD d.toNat 0) p q
  have hd := digT_cell d.toNat
  have e : ((0 ≤ c ∧ c ≤ 127) ∧ (0 ≤ digT.getD d.toNat 0 ∧ digT.getD d.toNat 0 ≤ 127) ∧ FkP p q) ↔ ((0 ≤ c ∧ c ≤ 127) ∧ FkP p q) := ⟨fun k => ⟨k.1, k.2.2⟩, fun k => ⟨k.1, hd, k.2⟩⟩
  simp only [e] at h
  exact h

set_option maxRecDepth 8000 in
set_option maxHeartbeats 2000000 in
theorem impl_ChanceReadAs (d a p q : Int) : PCalls Tryd.prog 12 [.int .i64 d, .int .i64 a, .int .i64 p, .int .i64 q] (· = [.val (.agg [.int .i64 (if (0 ≤ d ∧ d ≤ 9) ∧ (0 ≤ a ∧ a ≤ 9) ∧ FkP p q then frA (prt (digT.getD d.toNat 0) (digT.getD a.toNat 0) p q) (pw9 q 7) else 0), .int .i64 (if (0 ≤ d ∧ d ≤ 9) ∧ (0 ≤ a ∧ a ≤ 9) ∧ FkP p q then frB (prt (digT.getD d.toNat 0) (digT.getD a.toNat 0) p q) (pw9 q 7) else 0)]), .val (.bool (decide ((0 ≤ d ∧ d ≤ 9) ∧ (0 ≤ a ∧ a ≤ 9) ∧ FkP p q)))]) := by
  refine pcalls_of_code (n := 38) az Tryd.func12 (by kernel_rfl) rfl rfl (Nat.le_of_ble_eq_true rfl) (by intro t u h; simp [Tryd.f12] at h; obtain ⟨_, rfl⟩ := h <;> first | exact resTy_agg agg_26 (by decide)) ?_
  refine code_seq (fun K1 hK1 => ?_)
  refine code_region ?_
  refine list_cons rfl (op_alloc zt_26 (by decide) (by decide) rfl ?_)
  refine list_cons rfl (op_q (q_assign rfl (by decide)) ?_)
  refine list_nil ?_
  refine hK1 _ ?_; clear hK1 K1
  refine code_seq (fun K2 hK2 => ?_)
  refine code_region ?_
  refine list_cons rfl (op_q (q_move rfl (by decide)) ?_)
  refine list_cons rfl (op_call _ (impl_CellOf _) rfl rfl (by decide) (by decide) (by decide) rfl ?_)
  rintro _ rfl
  refine list_cons rfl (op_q (q_move rfl (by decide)) ?_)
  refine list_cons rfl (op_q (q_extract rfl rfl (by decide)) ?_)
  refine list_cons rfl (op_q (q_extract rfl rfl (by decide)) ?_)
  refine list_cons rfl (op_q (q_assign rfl (by decide)) ?_)
  refine list_cons rfl (op_q (q_assign rfl (by decide)) ?_)
  refine list_nil ?_
  refine hK2 _ ?_; clear hK2 K2
  refine codeT.imp (σ' := [(0, _), (1, _), (2, _), (3, _), (8, _), (9, _), (10, _), (11, _)]) ?_ (imp_covers ⟨rfl, rfl, rfl, rfl, rfl, rfl, rfl, rfl, trivial⟩)
  refine code_seq (fun K3 hK3 => ?_)
  refine code_region ?_
  refine list_cons rfl (op_q (q_move rfl (by decide)) ?_)
  refine list_cons rfl (op_call _ (impl_CellOf _) rfl rfl (by decide) (by decide) (by decide) rfl ?_)
  rintro _ rfl
  refine list_cons rfl (op_q (q_move rfl (by decide)) ?_)
  refine list_cons rfl (op_q (q_extract rfl rfl (by decide)) ?_)
  refine list_cons rfl (op_q (q_extract rfl rfl (by decide)) ?_)
  refine list_cons rfl (op_q (q_assign rfl (by decide)) ?_)
  refine list_cons rfl (op_q (q_assign rfl (by decide)) ?_)
  refine list_nil ?_
  refine hK3 _ ?_; clear hK3 K3
  refine codeT.imp (σ' := [(0, _), (1, _), (2, _), (3, _), (8, _), (9, _), (10, _), (11, _), (12, _), (13, _)]) ?_ (imp_covers ⟨rfl, rfl, rfl, rfl, rfl, rfl, rfl, rfl, rfl, rfl, trivial⟩)
  refine code_seq (fun K4 hK4 => ?_)
  refine code_seq (fun K5 hK5 => ?_)
  refine code_region ?_
  refine list_cons rfl (op_q (q_move rfl (by decide)) ?_)
  refine list_cons rfl (op_q (by first | exact q_notd rfl (by decide) | exact q_not rfl (by decide)) ?_)
  refine list_cons rfl (op_q (q_move rfl (by decide)) ?_)
  refine list_guard_d rfl rfl rfl rfl (by decide) rfl (by decide) (fun h1 => ?_) (fun h1 => ?_)
  · simp only [Bool.false_eq_true, if_true, if_false, Decidable.not_not] at h1
    (try simp only [Decidable.not_not] at h1)
    refine id (op_q (q_move rfl (by decide)) ?_)
    refine list_guard_y rfl rfl rfl rfl (by decide) rfl ?_
    refine id (op_q (by first | exact q_notd rfl (by decide) | exact q_not rfl (by decide)) ?_)
    refine list_cons rfl (op_q (q_pick rfl rfl (by decide)) ?_)
    refine list_nil ?_
    refine hK5 _ ?_; clear hK5 K5
    refine code_cond_d rfl (fun h2 => ?_) (fun h2 => ?_)
    · skip
      (try simp only [Decidable.not_not] at h2)
      refine code_seq (fun K6 hK6 => ?_)
      refine code_region ?_
      refine list_cons rfl (op_q (q_build bt_26 (parts := []) rfl rfl (by decide)) ?_)
      refine list_cons rfl (op_store (agg_26).2 8 [8] (by intro t ht; simp only [List.mem_cons, List.not_mem_nil, or_false] at ht; subst ht; rfl) (.inr ⟨rfl, _, rfl⟩) rfl rfl rfl rfl (by first | rfl | exact flat_part (flat_map _ (fun _ => rfl) _) _ _ | exact flat_map _ (fun _ => rfl) _) (by first | rfl | (simp [PV.cells]; done)) (by first | decide | omega | exact Nat.le_refl _ | (simp; done) | (simp; omega)) (by decide) rfl ?_)
      refine list_cons rfl (op_q (q_assign rfl (by decide)) ?_)
      refine list_nil ?_
      refine hK6 _ ?_; clear hK6 K6
      refine codeT.imp (σ' := [(0, _), (1, _), (2, _), (3, _), (8, _), (9, _), (10, _), (11, _), (12, _), (13, _)]) ?_ (imp_covers ⟨rfl, rfl, rfl, rfl, rfl, rfl, rfl, rfl, rfl, rfl, trivial⟩)
      refine code_ret ?_
      refine then_r ?_; clear hK4 K4
      refine ends_ret (cs := []) rfl rfl rfl rfl trivial ?_
      first
        | (have e : ¬ ((0 ≤ d ∧ d ≤ 9) ∧ (0 ≤ a ∧ a ≤ 9) ∧ FkP p q) := by first | exact fun k => absurd k.1 (by assumption) | exact fun k => absurd k.2.1 (by assumption)
           simp only [if_neg e, decide_eq_false e]; first | done | rfl)
        | (have h1d := (by assumption : 0 ≤ d ∧ d ≤ 9)
           have h1a := (by assumption : 0 ≤ a ∧ a ≤ 9)
           have hd1 := digT_cell d.toNat
           have hd2 := digT_cell a.toNat
           have e : ((0 ≤ digT.getD d.toNat 0 ∧ digT.getD d.toNat 0 ≤ 127) ∧ (0 ≤ digT.getD a.toNat 0 ∧ digT.getD a.toNat 0 ≤ 127) ∧ FkP p q) ↔ ((0 ≤ d ∧ d ≤ 9) ∧ (0 ≤ a ∧ a ≤ 9) ∧ FkP p q) := ⟨fun k => ⟨h1d, h1a, k.2.2⟩, fun k => ⟨hd1, hd2, k.2.2⟩⟩
           simp only [if_pos h1d, if_pos h1a, e]; first | done | rfl)
    (try simp only [Decidable.not_not] at h2)
    refine code_skip ?_
    refine hK4 _ ?_; clear hK4 K4
    refine code_seq (fun K7 hK7 => ?_)
    refine code_region ?_
    refine list_cons rfl (op_q (q_move rfl (by decide)) ?_)
    refine list_cons rfl (op_q (q_move rfl (by decide)) ?_)
    refine list_cons rfl (op_q (q_move rfl (by decide)) ?_)
    refine list_cons rfl (op_q (q_move rfl (by decide)) ?_)
    refine list_cons rfl (op_call _ (impl_ChanceFlicker _ _ p q) rfl rfl (by decide) (by decide) (by decide) rfl ?_)
    rintro _ rfl
    refine list_cons rfl (op_q (q_extract rfl rfl (by decide)) ?_)
    refine list_cons rfl (op_q (q_extract rfl rfl (by decide)) ?_)
    refine list_cons rfl (op_store (agg_26).2 8 [8] (by intro t ht; simp only [List.mem_cons, List.not_mem_nil, or_false] at ht; subst ht; rfl) (.inr ⟨rfl, _, rfl⟩) rfl rfl rfl rfl (by first | rfl | exact flat_part (flat_map _ (fun _ => rfl) _) _ _ | exact flat_map _ (fun _ => rfl) _) (by first | rfl | (simp [PV.cells]; done)) (by first | decide | omega | exact Nat.le_refl _ | (simp; done) | (simp; omega)) (by decide) rfl ?_)
    refine list_cons rfl (op_q (q_assign rfl (by decide)) ?_)
    refine list_nil ?_
    refine hK7 _ ?_; clear hK7 K7
    refine codeT.imp (σ' := [(0, _), (1, _), (2, _), (3, _), (8, _), (9, _), (10, _), (11, _), (12, _), (13, _)]) ?_ (imp_covers ⟨rfl, rfl, rfl, rfl, rfl, rfl, rfl, rfl, rfl, rfl, trivial⟩)
    refine code_ret ?_
    refine ends_ret (cs := []) rfl rfl rfl rfl trivial ?_
    first
      | (have e : ¬ ((0 ≤ d ∧ d ≤ 9) ∧ (0 ≤ a ∧ a ≤ 9) ∧ FkP p q) := by first | exact fun k => absurd k.1 (by assumption) | exact fun k => absurd k.2.1 (by assumption)
         simp only [if_neg e, decide_eq_false e]; first | done | rfl)
      | (have h1d := (by assumption : 0 ≤ d ∧ d ≤ 9)
         have h1a := (by assumption : 0 ≤ a ∧ a ≤ 9)
         have hd1 := digT_cell d.toNat
         have hd2 := digT_cell a.toNat
         have e : ((0 ≤ digT.getD d.toNat 0 ∧ digT.getD d.toNat 0 ≤ 127) ∧ (0 ≤ digT.getD a.toNat 0 ∧ digT.getD a.toNat 0 ≤ 127) ∧ FkP p q) ↔ ((0 ≤ d ∧ d ≤ 9) ∧ (0 ≤ a ∧ a ≤ 9) ∧ FkP p q) := ⟨fun k => ⟨h1d, h1a, k.2.2⟩, fun k => ⟨hd1, hd2, k.2.2⟩⟩
         simp only [if_pos h1d, if_pos h1a, e]; first | done | rfl)
  simp only [Bool.false_eq_true, if_true, if_false, Decidable.not_not] at h1
  (try simp only [Decidable.not_not] at h1)
  refine list_guard_n rfl rfl rfl rfl (by decide) rfl ?_
  refine list_cons rfl (op_q (q_pick rfl rfl (by decide)) ?_)
  refine list_nil ?_
  refine hK5 _ ?_; clear hK5 K5
  refine code_cond_t rfl ?_
  refine code_seq (fun K8 hK8 => ?_)
  refine code_region ?_
  refine list_cons rfl (op_q (q_build bt_26 (parts := []) rfl rfl (by decide)) ?_)
  refine list_cons rfl (op_store (agg_26).2 8 [8] (by intro t ht; simp only [List.mem_cons, List.not_mem_nil, or_false] at ht; subst ht; rfl) (.inr ⟨rfl, _, rfl⟩) rfl rfl rfl rfl (by first | rfl | exact flat_part (flat_map _ (fun _ => rfl) _) _ _ | exact flat_map _ (fun _ => rfl) _) (by first | rfl | (simp [PV.cells]; done)) (by first | decide | omega | exact Nat.le_refl _ | (simp; done) | (simp; omega)) (by decide) rfl ?_)
  refine list_cons rfl (op_q (q_assign rfl (by decide)) ?_)
  refine list_nil ?_
  refine hK8 _ ?_; clear hK8 K8
  refine codeT.imp (σ' := [(0, _), (1, _), (2, _), (3, _), (8, _), (9, _), (10, _), (11, _), (12, _), (13, _)]) ?_ (imp_covers ⟨rfl, rfl, rfl, rfl, rfl, rfl, rfl, rfl, rfl, rfl, trivial⟩)
  refine code_ret ?_
  refine then_r ?_; clear hK4 K4
  refine ends_ret (cs := []) rfl rfl rfl rfl trivial ?_
  first
    | (have e : ¬ ((0 ≤ d ∧ d ≤ 9) ∧ (0 ≤ a ∧ a ≤ 9) ∧ FkP p q) := by first | exact fun k => absurd k.1 (by assumption) | exact fun k => absurd k.2.1 (by assumption)
       simp only [if_neg e, decide_eq_false e]; first | done | rfl)
    | (have h1d := (by assumption : 0 ≤ d ∧ d ≤ 9)
       have h1a := (by assumption : 0 ≤ a ∧ a ≤ 9)
       have hd1 := digT_cell d.toNat
       have hd2 := digT_cell a.toNat
       have e : ((0 ≤ digT.getD d.toNat 0 ∧ digT.getD d.toNat 0 ≤ 127) ∧ (0 ≤ digT.getD a.toNat 0 ∧ digT.getD a.toNat 0 ≤ 127) ∧ FkP p q) ↔ ((0 ≤ d ∧ d ≤ 9) ∧ (0 ≤ a ∧ a ≤ 9) ∧ FkP p q) := ⟨fun k => ⟨h1d, h1a, k.2.2⟩, fun k => ⟨hd1, hd2, k.2.2⟩⟩
       simp only [if_pos h1d, if_pos h1a, e]; first | done | rfl)

/-- The chances of the first so many digits, of one whole, and zeros. -/
def chZ9 (c p q n : Int) (k : Nat) : List (Int × Int) := (List.range 10).map fun j => if j < k then (frA (prt c (digT.getD j 0) p q) n, frB (prt c (digT.getD j 0) p q) n) else (0, 0)
theorem chZ9_len (c p q n : Int) (k : Nat) : (chZ9 c p q n k).length = 10 := by simp [chZ9]
theorem chZ9_put (c p q n : Int) {k : Nat} (h : k < 10) : (chZ9 c p q n k).set k (frA (prt c (digT.getD k 0) p q) n, frB (prt c (digT.getD k 0) p q) n) = chZ9 c p q n (k + 1) := by
  apply List.ext_getElem (by simp [chZ9])
  intro j h1 h2
  rw [List.getElem_set]
  simp only [chZ9, List.getElem_map, List.getElem_range]
  by_cases e : k = j
  · subst e; rw [if_pos rfl, if_pos (by omega)]
  · rw [if_neg e]
    by_cases e2 : j < k
    · rw [if_pos e2, if_pos (by omega)]
    · rw [if_neg e2, if_neg (by omega)]
theorem chZ9_at (c p q n : Int) {k : Nat} (h : k < 10) : (chZ9 c p q n 10).getD k (0, 0) = (frA (prt c (digT.getD k 0) p q) n, frB (prt c (digT.getD k 0) p q) n) := by
  have hl : k < (chZ9 c p q n 10).length := by rw [chZ9_len]; exact h
  rw [List.getD_eq_getElem?_getD, List.getElem?_eq_getElem hl]
  simp only [chZ9, List.getElem_map, List.getElem_range, Option.getD_some]
  rw [if_pos h]
theorem chZ9_putF (c p q n : Int) {k o : Nat} (h : k < 10) (ho : o = k * 2) : putAt (fl (chZ9 c p q n k)) o [PV.int .i64 (frA (prt c (digT.getD k 0) p q) n), PV.int .i64 (frB (prt c (digT.getD k 0) p q) n)] = fl (chZ9 c p q n (k + 1)) := by
  subst ho
  rw [← chZ9_put c p q n h]
  exact fl_put _ _ _ _ (by rw [chZ9_len]; exact h)
theorem chZ9_end (c p q n : Int) : chZ9 c p q n 10 = chL c p q n 10 := by
  unfold chZ9 chL
  apply List.map_congr_left
  intro j hj
  rw [if_pos (List.mem_range.1 hj)]
theorem put_all9 {a b : List PV} {n : Nat} (ha : a.length = n) (hb : b.length = n) : putAt a 0 (PV.agg b).cells = b := by
  unfold putAt PV.cells
  simp only [List.take_zero, List.nil_append, Nat.zero_add]
  rw [List.drop_of_length_le (by omega), List.append_nil]
theorem fl_20 (c p q n : Int) (k : Nat) : (fl (chZ9 c p q n k)).length = 20 := by rw [fl_len, chZ9_len]
theorem fl_take20 (c p q n : Int) (k : Nat) : List.take 20 (List.drop 0 (fl (chZ9 c p q n k))) = fl (chZ9 c p q n k) := by
  rw [List.drop_zero, List.take_of_length_le (by rw [fl_20]; exact Nat.le_refl _)]

set_option maxRecDepth 8000 in
set_option maxHeartbeats 2000000 in
theorem impl_digitChancesY (c p q : Int) (hC : 0 ≤ c ∧ c ≤ 127) (hF : FkP p q) : PCalls Tryd.prog 41 [.int .i64 c, .int .i64 p, .int .i64 q] (· = [.val (.agg (fl (chZ9 c p q (pw9 q 7) 10))), .val (.agg [.int .i64 (frA (sm9 c p q 10) (pw9 q 7)), .int .i64 (frB (sm9 c p q 10) (pw9 q 7))]), .val (.bool true)]) := by
  refine pcalls_of_code (n := 50) az Tryd.func41 (by kernel_rfl) rfl rfl (Nat.le_of_ble_eq_true rfl) (by intro t u h; simp [Tryd.f41] at h; rcases h with ⟨_, rfl⟩ | ⟨_, rfl⟩ <;> first | exact resTy_agg agg_59 (by decide) | exact resTy_agg agg_51 (by decide)) ?_
  have hqb := pw9_7 (x := q) (n := 7) (by have := hF.1; omega) (by have := hF.1; omega) (by omega)
  have hqp := pw9_pos (x := q) (by have := hF.1; omega) 7
  refine code_seq (fun K1 hK1 => ?_)
  refine code_region ?_
  refine list_cons rfl (op_alloc zt_59 (by decide) (by decide) rfl ?_)
  refine list_cons rfl (op_alloc zt_51 (by decide) (by decide) rfl ?_)
  refine list_cons rfl (op_q (q_assign rfl (by decide)) ?_)
  refine list_nil ?_
  refine hK1 _ ?_; clear hK1 K1
  refine code_seq (fun K2 hK2 => ?_)
  refine code_region ?_
  refine list_cons rfl (op_alloc zt_59 (by decide) (by decide) rfl ?_)
  refine list_nil ?_
  refine hK2 _ ?_; clear hK2 K2
  refine code_seq (fun K3 hK3 => ?_)
  refine code_region ?_
  refine list_cons rfl (op_q (q_load_agg_g agg_51 rfl (by decide) rfl (by decide)) ?_)
  refine list_cons rfl (op_alloc zt_51 (by decide) (by decide) rfl ?_)
  refine list_cons rfl (op_store (agg_51).2 10 [10] (by intro t ht; simp only [List.mem_cons, List.not_mem_nil, or_false] at ht; subst ht; rfl) (.inr ⟨rfl, _, rfl⟩) rfl rfl rfl rfl (by first | rfl | exact flat_part (flat_map _ (fun _ => rfl) _) _ _ | exact flat_map _ (fun _ => rfl) _) (by first | rfl | (first | rfl | (simp [PV.cells, fl_len, chZ9_len]; done))) (by first | decide | omega | exact Nat.le_refl _ | (rw [fl_len, chZ9_len]; omega) | (simp [fl_len, chZ9_len]; done) | (simp [fl_len, chZ9_len]; omega)) (by decide) rfl ?_)
  refine list_nil ?_
  refine hK3 _ ?_; clear hK3 K3
  refine codeT.imp (σ' := [(0, _), (1, _), (2, _), (6, _), (7, _), (8, _), (9, _), (10, _)]) ?_ (imp_covers ⟨rfl, rfl, rfl, rfl, rfl, rfl, rfl, rfl, trivial⟩)
  refine code_seq (fun K4 hK4 => ?_)
  refine code_seq (fun K5 hK5 => ?_)
  refine code_region ?_
  refine list_cons rfl (op_q (q_move rfl (by decide)) ?_)
  refine list_nil ?_
  refine hK5 _ ?_; clear hK5 K5
  refine code_block ?_
  refine code_loop (X := Bool × List PV × List PV × Int) (fun x => [(0, .val (.int .i64 c)), (1, .val (.int .i64 p)), (2, .val (.int .i64 q)), (6, .box 6 59 (List.replicate 20 (.int .i64 0))), (7, .box 7 51 [.int .i64 0, .int .i64 0]), (8, .val (.bool x.1)), (9, .box 9 59 x.2.1), (10, .box 10 51 x.2.2.1), (17, .val (.int .i64 x.2.2.2))]) (fun x => 0 ≤ x.2.2.2 ∧ x.2.2.2 ≤ 10 ∧ x.2.1 = fl (chZ9 c p q (pw9 q 7) x.2.2.2.toNat) ∧ x.2.2.1 = [.int .i64 (frA (sm9 c p q x.2.2.2.toNat) (pw9 q 7)), .int .i64 (frB (sm9 c p q x.2.2.2.toNat) (pw9 q 7))]) (fun x => (10 - x.2.2.2).toNat) (_, _, _, _) (imp_covers ⟨rfl, rfl, rfl, rfl, rfl, rfl, rfl, rfl, rfl, trivial⟩) ?_ ?_
  · (try dsimp only)
    exact ⟨by omega, by omega, rfl, by (show [PV.int .i64 0, PV.int .i64 1] = [PV.int .i64 (frA 0 (pw9 q 7)), PV.int .i64 (frB 0 (pw9 q 7))]; rw [(fr_0 hqp).1, (fr_0 hqp).2])⟩
  · intro x hI
    obtain ⟨t8, chances_c, together_c, t17⟩ := x
    replace hI : 0 ≤ t17 ∧ t17 ≤ 10 ∧ chances_c = fl (chZ9 c p q (pw9 q 7) t17.toNat) ∧ together_c = [.int .i64 (frA (sm9 c p q t17.toNat) (pw9 q 7)), .int .i64 (frB (sm9 c p q t17.toNat) (pw9 q 7))] := hI
    show codeT _ _ _ [(0, .val (.int .i64 c)), (1, .val (.int .i64 p)), (2, .val (.int .i64 q)), (6, .box 6 59 (List.replicate 20 (.int .i64 0))), (7, .box 7 51 [.int .i64 0, .int .i64 0]), (8, .val (.bool t8)), (9, .box 9 59 chances_c), (10, .box 10 51 together_c), (17, .val (.int .i64 t17))] _
    obtain ⟨i1, i2, rfl, rfl⟩ := hI
    have hsb := sm9_bd (c := c) hF t17.toNat
    have hpb := prt_bd (c := c) (a := digT.getD t17.toNat 0) hF
    have hdc := digT_cell t17.toNat
    refine code_seq (fun K6 hK6 => ?_)
    refine code_region ?_
    refine list_cons rfl (op_q (q_lt rfl rfl (by decide)) ?_)
    refine list_nil ?_
    refine hK6 _ ?_; clear hK6 K6
    refine code_seq (fun K7 hK7 => ?_)
    refine code_cond_d rfl (fun h1 => ?_) (fun h1 => ?_)
    · skip
      (try simp only [Decidable.not_not] at h1)
      refine code_skip ?_
      refine hK7 _ ?_; clear hK7 K7
      refine code_seq (fun K8 hK8 => ?_)
      refine code_block ?_
      refine code_seq (fun K9 hK9 => ?_)
      refine code_region ?_
      refine list_cons rfl (op_q (q_move rfl (by decide)) ?_)
      refine list_cons rfl (op_q (q_assign rfl (by decide)) ?_)
      refine list_nil ?_
      refine hK9 _ ?_; clear hK9 K9
      refine code_seq (fun K10 hK10 => ?_)
      refine code_region ?_
      refine list_cons rfl (op_q (q_move rfl (by decide)) ?_)
      refine list_cons rfl (op_call _ (impl_CellOf t17) rfl rfl (by decide) (by decide) (by decide) rfl ?_)
      rintro _ rfl; simp only [if_pos (show 0 ≤ t17 ∧ t17 ≤ 9 by omega), decide_eq_true (show 0 ≤ t17 ∧ t17 ≤ 9 by omega)]
      refine list_cons rfl (op_q (q_move rfl (by decide)) ?_)
      refine list_cons rfl (op_q (q_extract rfl rfl (by decide)) ?_)
      refine list_cons rfl (op_q (q_extract rfl rfl (by decide)) ?_)
      refine list_cons rfl (op_q (q_assign rfl (by decide)) ?_)
      refine list_cons rfl (op_q (q_assign rfl (by decide)) ?_)
      refine list_nil ?_
      refine hK10 _ ?_; clear hK10 K10
      refine codeT.imp (σ' := [(0, _), (1, _), (2, _), (6, _), (7, _), (8, _), (9, _), (10, _), (11, _), (12, _), (13, _), (17, _)]) ?_ (imp_covers ⟨rfl, rfl, rfl, rfl, rfl, rfl, rfl, rfl, rfl, rfl, rfl, rfl, trivial⟩)
      refine code_seq (fun K11 hK11 => ?_)
      refine code_region ?_
      refine list_cons rfl (op_q (q_move rfl (by decide)) ?_)
      refine list_cons rfl (op_q (q_move rfl (by decide)) ?_)
      refine list_cons rfl (op_q (q_move rfl (by decide)) ?_)
      refine list_cons rfl (op_q (q_move rfl (by decide)) ?_)
      refine list_cons rfl (op_call _ (impl_ChanceFlickerD c t17 p q (by omega)) rfl rfl (by decide) (by decide) (by decide) rfl ?_)
      rintro _ rfl; simp only [if_pos (show (0 ≤ c ∧ c ≤ 127) ∧ FkP p q from ⟨hC, hF⟩), decide_eq_true (show (0 ≤ c ∧ c ≤ 127) ∧ FkP p q from ⟨hC, hF⟩)]
      refine list_cons rfl (op_q (q_move rfl (by decide)) ?_)
      refine list_cons rfl (op_q (q_extract rfl rfl (by decide)) ?_)
      refine list_cons rfl (op_q (q_extract rfl rfl (by decide)) ?_)
      refine list_cons rfl (op_alloc zt_26 (by decide) (by decide) rfl ?_)
      refine list_cons rfl (op_store (agg_26).2 14 [14] (by intro t ht; simp only [List.mem_cons, List.not_mem_nil, or_false] at ht; subst ht; rfl) (.inr ⟨rfl, _, rfl⟩) rfl rfl rfl rfl (by first | rfl | exact flat_part (flat_map _ (fun _ => rfl) _) _ _ | exact flat_map _ (fun _ => rfl) _) (by first | rfl | (first | rfl | (simp [PV.cells, fl_len, chZ9_len]; done))) (by first | decide | omega | exact Nat.le_refl _ | (rw [fl_len, chZ9_len]; omega) | (simp [fl_len, chZ9_len]; done) | (simp [fl_len, chZ9_len]; omega)) (by decide) rfl ?_)
      refine list_cons rfl (op_q (q_assign rfl (by decide)) ?_)
      refine list_nil ?_
      refine hK11 _ ?_; clear hK11 K11
      refine codeT.imp (σ' := [(0, _), (1, _), (2, _), (6, _), (7, _), (8, _), (9, _), (10, _), (11, _), (12, _), (13, _), (14, _), (15, _), (17, _)]) ?_ (imp_covers ⟨rfl, rfl, rfl, rfl, rfl, rfl, rfl, rfl, rfl, rfl, rfl, rfl, rfl, rfl, trivial⟩)
      refine code_seq (fun K12 hK12 => ?_)
      refine code_seq (fun K13 hK13 => ?_)
      refine code_region ?_
      refine list_cons rfl (op_q (q_move rfl (by decide)) ?_)
      refine list_cons rfl (op_q (by first | exact q_notd rfl (by decide) | exact q_not rfl (by decide)) ?_)
      refine list_cons rfl (op_q (q_move rfl (by decide)) ?_)
      refine list_guard_y rfl rfl rfl rfl (by decide) rfl ?_
      refine id (op_q (q_move rfl (by decide)) ?_)
      refine list_guard_y rfl rfl rfl rfl (by decide) rfl ?_
      refine id (op_q (by first | exact q_notd rfl (by decide) | exact q_not rfl (by decide)) ?_)
      refine list_cons rfl (op_q (q_pick rfl rfl (by decide)) ?_)
      refine list_nil ?_
      refine hK13 _ ?_; clear hK13 K13
      refine code_cond_f rfl ?_
      refine code_skip ?_
      refine hK12 _ ?_; clear hK12 K12
      refine code_seq (fun K14 hK14 => ?_)
      refine code_region ?_
      refine list_cons rfl (op_q (q_move rfl (by decide)) ?_)
      refine list_cons rfl (op_q (q_load_agg agg_26 14 (.inr ⟨rfl, _, rfl⟩) rfl rfl (by first | decide | omega | exact Nat.le_refl _ | (simp; done) | (simp; omega)) (by first | rfl | exact flat_part (fl_flat _) _ _) (by decide)) ?_)
      refine list_cons rfl (op_q (q_indexAddr_arr arr_59 rfl rfl rfl (by omega) (by omega) (by decide)) ?_)
      refine list_cons rfl (op_store (agg_51).2 9 [9] (by intro t ht; simp only [List.mem_cons, List.not_mem_nil, or_false] at ht; subst ht; rfl) (.inl rfl) rfl rfl rfl rfl (by first | rfl | exact flat_part (flat_map _ (fun _ => rfl) _) _ _ | exact flat_map _ (fun _ => rfl) _) (by first | rfl | (first | rfl | (simp [PV.cells, fl_len, chZ9_len]; done))) (by first | decide | omega | exact Nat.le_refl _ | (rw [fl_len, chZ9_len]; omega) | (simp [fl_len, chZ9_len]; done) | (simp [fl_len, chZ9_len]; omega)) (by decide) rfl ?_)
      refine list_nil ?_
      refine hK14 _ ?_; clear hK14 K14
      refine codeT.imp (σ' := [(0, _), (1, _), (2, _), (6, _), (7, _), (8, _), (9, _), (10, _), (11, _), (12, _), (13, _), (14, _), (15, _), (17, _)]) ?_ (imp_covers ⟨rfl, rfl, rfl, rfl, rfl, rfl, rfl, rfl, rfl, rfl, rfl, rfl, rfl, rfl, trivial⟩)
      refine code_region ?_
      refine list_cons rfl (op_q (q_load_agg agg_51 10 (.inr ⟨rfl, _, rfl⟩) rfl rfl (by first | decide | omega | exact Nat.le_refl _ | (simp; done) | (simp; omega)) (by first | rfl | exact flat_part (fl_flat _) _ _) (by decide)) ?_)
      refine list_cons rfl (op_q (q_load_agg agg_26 14 (.inr ⟨rfl, _, rfl⟩) rfl rfl (by first | decide | omega | exact Nat.le_refl _ | (simp; done) | (simp; omega)) (by first | rfl | exact flat_part (fl_flat _) _ _) (by decide)) ?_)
      refine list_cons rfl (op_call _ (impl_plusN (sm9 c p q t17.toNat) (prt c (digT.getD t17.toNat 0) p q) (pw9 q 7) (by omega) (by omega) (by omega)) rfl rfl (by decide) (by decide) (by decide) rfl ?_)
      rintro _ rfl
      refine list_cons rfl (op_store (agg_51).2 10 [10] (by intro t ht; simp only [List.mem_cons, List.not_mem_nil, or_false] at ht; subst ht; rfl) (.inr ⟨rfl, _, rfl⟩) rfl rfl rfl rfl (by first | rfl | exact flat_part (flat_map _ (fun _ => rfl) _) _ _ | exact flat_map _ (fun _ => rfl) _) (by first | rfl | (first | rfl | (simp [PV.cells, fl_len, chZ9_len]; done))) (by first | decide | omega | exact Nat.le_refl _ | (rw [fl_len, chZ9_len]; omega) | (simp [fl_len, chZ9_len]; done) | (simp [fl_len, chZ9_len]; omega)) (by decide) rfl ?_)
      refine list_nil ?_
      refine blk_n ?_
      refine hK8 _ ?_; clear hK8 K8
      refine codeT.imp (σ' := [(0, _), (1, _), (2, _), (6, _), (7, _), (8, _), (9, _), (10, _), (11, _), (12, _), (13, _), (14, _), (15, _), (17, _)]) ?_ (imp_covers ⟨rfl, rfl, rfl, rfl, rfl, rfl, rfl, rfl, rfl, rfl, rfl, rfl, rfl, rfl, trivial⟩)
      refine code_region ?_
      refine list_cons rfl (op_q (by first | exact q_addI rfl rfl (by decide) (by omega) (by omega) | exact q_ib rfl rfl rfl (by decide)) ?_)
      refine list_cons rfl (op_q (q_move rfl (by decide)) ?_)
      refine list_nil ?_
      refine then_n ⟨(_, _, _, _), imp_covers ⟨rfl, rfl, rfl, rfl, rfl, rfl, rfl, rfl, rfl, trivial⟩, ?_, ?_⟩
      · (try dsimp only)
        rw [show (t17 + 1).toNat = t17.toNat + 1 by omega]
        exact ⟨by omega, by omega, chZ9_putF c p q _ (by omega) rfl, rfl⟩
      · (try dsimp only); omega
    (try simp only [Decidable.not_not] at h1)
    refine code_exit ?_
    refine then_x ?_; clear hK7 K7
    refine then_x ?_
    refine blk_hit ?_
    refine hK4 _ ?_; clear hK4 K4
    refine code_seq (fun K15 hK15 => ?_)
    refine any_start fun ob2_0 => ?_
    refine any_op (rd := [9]) ob2_0 rfl rfl rfl (anyT_quiet [(9, _)] ⟨rfl, trivial⟩ rfl (q_load_agg agg_59 9 (.inr ⟨rfl, _, rfl⟩) rfl rfl (by first | decide | omega | exact Nat.le_refl _ | (simp; done) | (simp; omega)) (by first | rfl | exact flat_part (fl_flat _) _ _) (by decide))) (fun ob2_1 => ?_)
    refine any_op (rd := [10]) ob2_1 rfl rfl rfl (anyT_quiet [(10, _)] ⟨rfl, trivial⟩ rfl (q_load_agg agg_51 10 (.inr ⟨rfl, _, rfl⟩) rfl rfl (by first | decide | omega | exact Nat.le_refl _ | (simp; done) | (simp; omega)) (by first | rfl | exact flat_part (fl_flat _) _ _) (by decide))) (fun ob2_2 => ?_)
    refine any_st (rd := [6, 48]) ob2_2 rfl rfl (fun σ hag hfr => by have e6 : σ.at 6 = some _ := (hag 6 (by decide)).trans rfl; have e48 : σ.at 48 = some _ := (hag 48 (by decide)).trans rfl; exact opT.mono (op_store (agg_59).2 6 [6] (by intro t ht; simp only [List.mem_cons, List.not_mem_nil, or_false] at ht; subst ht; exact e6) (.inr ⟨rfl, _, e6⟩) e6 rfl e48 rfl rfl rfl (by first | decide | omega | exact Nat.le_refl _ | (rw [fl_len, chZ9_len]; omega) | (simp [fl_len, chZ9_len]; done) | (simp [fl_len, chZ9_len]; omega)) (by decide) rfl rfl) (fun σ2 h2 => by subst h2; exact post_updB e6 rfl hfr)) (fun ob2_3 => ?_)
    refine any_end [[], [], [0], [0, 1, 2], [0, 1, 2, 3]] ob2_3 (by kernel_rfl) (Nat.le_of_ble_eq_true rfl) (by decide) (by decide) (by kernel_rfl) (by kernel_rfl) (by kernel_rfl) (by kernel_rfl) (by kernel_rfl) ?_
    clear ob2_0 ob2_1 ob2_2 ob2_3
    refine listT.imp (σ' := [(0, _), (1, _), (2, _), (6, _), (7, _), (8, _), (9, _), (10, _), (17, _), (18, _), (48, _), (49, _)]) ?_ (imp_covers ⟨rfl, rfl, rfl, rfl, rfl, rfl, rfl, rfl, rfl, rfl, rfl, rfl, trivial⟩)
    refine list_cons rfl (op_store (agg_51).2 7 [7] (by intro t ht; simp only [List.mem_cons, List.not_mem_nil, or_false] at ht; subst ht; rfl) (.inr ⟨rfl, _, rfl⟩) rfl rfl rfl rfl (by first | rfl | exact flat_part (flat_map _ (fun _ => rfl) _) _ _ | exact flat_map _ (fun _ => rfl) _) (by first | rfl | (first | rfl | (simp [PV.cells, fl_len, chZ9_len]; done))) (by first | decide | omega | exact Nat.le_refl _ | (rw [fl_len, chZ9_len]; omega) | (simp [fl_len, chZ9_len]; done) | (simp [fl_len, chZ9_len]; omega)) (by decide) rfl ?_)
    refine list_cons rfl (op_q (q_assign rfl (by decide)) ?_)
    refine list_nil ?_
    refine hK15 _ ?_; clear hK15 K15
    refine codeT.imp (σ' := [(0, _), (1, _), (2, _), (6, _), (7, _), (8, _), (9, _), (10, _), (17, _)]) ?_ (imp_covers ⟨rfl, rfl, rfl, rfl, rfl, rfl, rfl, rfl, rfl, trivial⟩)
    refine code_ret ?_
    refine ends_ret (cs := []) rfl rfl rfl rfl trivial ?_
    have h10 : t17.toNat = 10 := by omega
    rw [h10, fl_take20, put_all9 (n := 20) (by rfl) (fl_20 _ _ _ _ _)]
    rfl

set_option maxRecDepth 8000 in
set_option maxHeartbeats 2000000 in
theorem impl_digitChancesN (c p q : Int) (hW : ¬ ((0 ≤ c ∧ c ≤ 127) ∧ FkP p q)) : PCalls Tryd.prog 41 [.int .i64 c, .int .i64 p, .int .i64 q] (· = [.val (.agg (List.replicate 20 (.int .i64 0))), .val (.agg [.int .i64 0, .int .i64 0]), .val (.bool false)]) := by
  refine pcalls_of_code (n := 50) az Tryd.func41 (by kernel_rfl) rfl rfl (Nat.le_of_ble_eq_true rfl) (by intro t u h; simp [Tryd.f41] at h; rcases h with ⟨_, rfl⟩ | ⟨_, rfl⟩ <;> first | exact resTy_agg agg_59 (by decide) | exact resTy_agg agg_51 (by decide)) ?_
  refine code_seq (fun K1 hK1 => ?_)
  refine code_region ?_
  refine list_cons rfl (op_alloc zt_59 (by decide) (by decide) rfl ?_)
  refine list_cons rfl (op_alloc zt_51 (by decide) (by decide) rfl ?_)
  refine list_cons rfl (op_q (q_assign rfl (by decide)) ?_)
  refine list_nil ?_
  refine hK1 _ ?_; clear hK1 K1
  refine code_seq (fun K2 hK2 => ?_)
  refine code_region ?_
  refine list_cons rfl (op_alloc zt_59 (by decide) (by decide) rfl ?_)
  refine list_nil ?_
  refine hK2 _ ?_; clear hK2 K2
  refine code_seq (fun K3 hK3 => ?_)
  refine code_region ?_
  refine list_cons rfl (op_q (q_load_agg_g agg_51 rfl (by decide) rfl (by decide)) ?_)
  refine list_cons rfl (op_alloc zt_51 (by decide) (by decide) rfl ?_)
  refine list_cons rfl (op_store (agg_51).2 10 [10] (by intro t ht; simp only [List.mem_cons, List.not_mem_nil, or_false] at ht; subst ht; rfl) (.inr ⟨rfl, _, rfl⟩) rfl rfl rfl rfl (by first | rfl | exact flat_part (flat_map _ (fun _ => rfl) _) _ _ | exact flat_map _ (fun _ => rfl) _) (by first | rfl | (simp [PV.cells]; done)) (by first | decide | omega | exact Nat.le_refl _ | (simp; done) | (simp; omega)) (by decide) rfl ?_)
  refine list_nil ?_
  refine hK3 _ ?_; clear hK3 K3
  refine codeT.imp (σ' := [(0, _), (1, _), (2, _), (6, _), (7, _), (8, _), (9, _), (10, _)]) ?_ (imp_covers ⟨rfl, rfl, rfl, rfl, rfl, rfl, rfl, rfl, trivial⟩)
  refine code_seq (fun K4 hK4 => ?_)
  refine code_seq (fun K5 hK5 => ?_)
  refine code_region ?_
  refine list_cons rfl (op_q (q_move rfl (by decide)) ?_)
  refine list_nil ?_
  refine hK5 _ ?_; clear hK5 K5
  refine code_block ?_
  refine code_loop (X := Bool × Int) (fun x => [(0, .val (.int .i64 c)), (1, .val (.int .i64 p)), (2, .val (.int .i64 q)), (6, .box 6 59 (List.replicate 20 (.int .i64 0))), (7, .box 7 51 [.int .i64 0, .int .i64 0]), (8, .val (.bool x.1)), (9, .box 9 59 (List.replicate 20 (.int .i64 0))), (10, .box 10 51 [.int .i64 0, .int .i64 1]), (17, .val (.int .i64 x.2))]) (fun x => x.2 = 0) (fun x => 0) (_, _) (imp_covers ⟨rfl, rfl, rfl, rfl, rfl, rfl, rfl, rfl, rfl, trivial⟩) ?_ ?_
  · (try dsimp only)
    skip
  · intro x hI
    obtain ⟨t8, t17⟩ := x
    replace hI : t17 = 0 := hI
    show codeT _ _ _ [(0, .val (.int .i64 c)), (1, .val (.int .i64 p)), (2, .val (.int .i64 q)), (6, .box 6 59 (List.replicate 20 (.int .i64 0))), (7, .box 7 51 [.int .i64 0, .int .i64 0]), (8, .val (.bool t8)), (9, .box 9 59 (List.replicate 20 (.int .i64 0))), (10, .box 10 51 [.int .i64 0, .int .i64 1]), (17, .val (.int .i64 t17))] _
    subst hI
    refine code_seq (fun K6 hK6 => ?_)
    refine code_region ?_
    refine list_cons rfl (op_q (q_lt rfl rfl (by decide)) ?_)
    refine list_nil ?_
    refine hK6 _ ?_; clear hK6 K6
    refine code_seq (fun K7 hK7 => ?_)
    refine code_cond_d rfl (fun h1 => ?_) (fun h1 => ?_)
    · skip
      (try simp only [Decidable.not_not] at h1)
      refine code_skip ?_
      refine hK7 _ ?_; clear hK7 K7
      refine code_seq (fun K8 hK8 => ?_)
      refine code_block ?_
      refine code_seq (fun K9 hK9 => ?_)
      refine code_region ?_
      refine list_cons rfl (op_q (q_move rfl (by decide)) ?_)
      refine list_cons rfl (op_q (q_assign rfl (by decide)) ?_)
      refine list_nil ?_
      refine hK9 _ ?_; clear hK9 K9
      refine code_seq (fun K10 hK10 => ?_)
      refine code_region ?_
      refine list_cons rfl (op_q (q_move rfl (by decide)) ?_)
      refine list_cons rfl (op_call _ (impl_CellOf 0) rfl rfl (by decide) (by decide) (by decide) rfl ?_)
      rintro _ rfl; simp only [if_pos (show (0 : Int) ≤ 0 ∧ (0 : Int) ≤ 9 by omega), decide_eq_true (show (0 : Int) ≤ 0 ∧ (0 : Int) ≤ 9 by omega)]
      refine list_cons rfl (op_q (q_move rfl (by decide)) ?_)
      refine list_cons rfl (op_q (q_extract rfl rfl (by decide)) ?_)
      refine list_cons rfl (op_q (q_extract rfl rfl (by decide)) ?_)
      refine list_cons rfl (op_q (q_assign rfl (by decide)) ?_)
      refine list_cons rfl (op_q (q_assign rfl (by decide)) ?_)
      refine list_nil ?_
      refine hK10 _ ?_; clear hK10 K10
      refine codeT.imp (σ' := [(0, _), (1, _), (2, _), (6, _), (7, _), (8, _), (9, _), (10, _), (11, _), (12, _), (13, _), (17, _)]) ?_ (imp_covers ⟨rfl, rfl, rfl, rfl, rfl, rfl, rfl, rfl, rfl, rfl, rfl, rfl, trivial⟩)
      refine code_seq (fun K11 hK11 => ?_)
      refine code_region ?_
      refine list_cons rfl (op_q (q_move rfl (by decide)) ?_)
      refine list_cons rfl (op_q (q_move rfl (by decide)) ?_)
      refine list_cons rfl (op_q (q_move rfl (by decide)) ?_)
      refine list_cons rfl (op_q (q_move rfl (by decide)) ?_)
      refine list_cons rfl (op_call _ (impl_ChanceFlickerD c 0 p q (by omega)) rfl rfl (by decide) (by decide) (by decide) rfl ?_)
      rintro _ rfl; simp only [if_neg hW, decide_eq_false hW]
      refine list_cons rfl (op_q (q_move rfl (by decide)) ?_)
      refine list_cons rfl (op_q (q_extract rfl rfl (by decide)) ?_)
      refine list_cons rfl (op_q (q_extract rfl rfl (by decide)) ?_)
      refine list_cons rfl (op_alloc zt_26 (by decide) (by decide) rfl ?_)
      refine list_cons rfl (op_store (agg_26).2 14 [14] (by intro t ht; simp only [List.mem_cons, List.not_mem_nil, or_false] at ht; subst ht; rfl) (.inr ⟨rfl, _, rfl⟩) rfl rfl rfl rfl (by first | rfl | exact flat_part (flat_map _ (fun _ => rfl) _) _ _ | exact flat_map _ (fun _ => rfl) _) (by first | rfl | (simp [PV.cells]; done)) (by first | decide | omega | exact Nat.le_refl _ | (simp; done) | (simp; omega)) (by decide) rfl ?_)
      refine list_cons rfl (op_q (q_assign rfl (by decide)) ?_)
      refine list_nil ?_
      refine hK11 _ ?_; clear hK11 K11
      refine codeT.imp (σ' := [(0, _), (1, _), (2, _), (6, _), (7, _), (8, _), (9, _), (10, _), (11, _), (12, _), (13, _), (14, _), (15, _), (17, _)]) ?_ (imp_covers ⟨rfl, rfl, rfl, rfl, rfl, rfl, rfl, rfl, rfl, rfl, rfl, rfl, rfl, rfl, trivial⟩)
      refine code_seq (fun K12 hK12 => ?_)
      refine code_seq (fun K13 hK13 => ?_)
      refine code_region ?_
      refine list_cons rfl (op_q (q_move rfl (by decide)) ?_)
      refine list_cons rfl (op_q (by first | exact q_notd rfl (by decide) | exact q_not rfl (by decide)) ?_)
      refine list_cons rfl (op_q (q_move rfl (by decide)) ?_)
      refine list_guard_y rfl rfl rfl rfl (by decide) rfl ?_
      refine id (op_q (q_move rfl (by decide)) ?_)
      refine list_guard_y rfl rfl rfl rfl (by decide) rfl ?_
      refine id (op_q (by first | exact q_notd rfl (by decide) | exact q_not rfl (by decide)) ?_)
      refine list_cons rfl (op_q (q_pick rfl rfl (by decide)) ?_)
      refine list_nil ?_
      refine hK13 _ ?_; clear hK13 K13
      refine code_cond_t rfl ?_
      refine code_seq (fun K14 hK14 => ?_)
      refine code_region ?_
      refine list_cons rfl (op_q (q_build bt_59 (parts := []) rfl rfl (by decide)) ?_)
      refine list_cons rfl (op_q (q_build bt_51 (parts := []) rfl rfl (by decide)) ?_)
      refine list_cons rfl (op_store (agg_59).2 6 [6] (by intro t ht; simp only [List.mem_cons, List.not_mem_nil, or_false] at ht; subst ht; rfl) (.inr ⟨rfl, _, rfl⟩) rfl rfl rfl rfl (by first | rfl | exact flat_part (flat_map _ (fun _ => rfl) _) _ _ | exact flat_map _ (fun _ => rfl) _) (by first | rfl | (simp [PV.cells]; done)) (by first | decide | omega | exact Nat.le_refl _ | (simp; done) | (simp; omega)) (by decide) rfl ?_)
      refine list_cons rfl (op_store (agg_51).2 7 [7] (by intro t ht; simp only [List.mem_cons, List.not_mem_nil, or_false] at ht; subst ht; rfl) (.inr ⟨rfl, _, rfl⟩) rfl rfl rfl rfl (by first | rfl | exact flat_part (flat_map _ (fun _ => rfl) _) _ _ | exact flat_map _ (fun _ => rfl) _) (by first | rfl | (simp [PV.cells]; done)) (by first | decide | omega | exact Nat.le_refl _ | (simp; done) | (simp; omega)) (by decide) rfl ?_)
      refine list_cons rfl (op_q (q_assign rfl (by decide)) ?_)
      refine list_nil ?_
      refine hK14 _ ?_; clear hK14 K14
      refine codeT.imp (σ' := [(0, _), (1, _), (2, _), (6, _), (7, _), (8, _), (9, _), (10, _), (11, _), (12, _), (13, _), (14, _), (15, _), (17, _)]) ?_ (imp_covers ⟨rfl, rfl, rfl, rfl, rfl, rfl, rfl, rfl, rfl, rfl, rfl, rfl, rfl, rfl, trivial⟩)
      refine code_ret ?_
      refine then_r ?_; clear hK12 K12
      refine blk_r ?_
      refine then_r ?_; clear hK8 K8
      refine then_r ?_
      refine blk_r ?_
      refine then_r ?_; clear hK4 K4
      refine ends_ret (cs := []) rfl rfl rfl rfl trivial ?_
      first | rfl
    (try simp only [Decidable.not_not] at h1)
    exfalso
    omega

set_option maxRecDepth 8000 in
set_option maxHeartbeats 2000000 in
theorem impl_NoDigitYY (d p q : Int) (hD : 0 ≤ d ∧ d ≤ 9) (hF : FkP p q) : PCalls Tryd.prog 15 [.int .i64 d, .int .i64 p, .int .i64 q] (· = [.val (.agg [.int .i64 (frA (pw9 q 7 - sm9 (digT.getD d.toNat 0) p q 10) (pw9 q 7)), .int .i64 (frB (pw9 q 7 - sm9 (digT.getD d.toNat 0) p q 10) (pw9 q 7))]), .val (.bool true)]) := by
  refine pcalls_of_code (n := 35) az Tryd.func15 (by kernel_rfl) rfl rfl (Nat.le_of_ble_eq_true rfl) (by intro t u h; simp [Tryd.f15] at h; obtain ⟨_, rfl⟩ := h <;> first | exact resTy_agg agg_26 (by decide)) ?_
  have hcf := fun c n k => fl_flat (chZ9 c p q n k)
  have hcl := fun c n k => fl_20 c p q n k
  refine code_seq (fun K1 hK1 => ?_)
  refine code_region ?_
  refine list_cons rfl (op_alloc zt_26 (by decide) (by decide) rfl ?_)
  refine list_cons rfl (op_q (q_assign rfl (by decide)) ?_)
  refine list_nil ?_
  refine hK1 _ ?_; clear hK1 K1
  refine code_seq (fun K2 hK2 => ?_)
  refine code_region ?_
  refine list_cons rfl (op_q (q_move rfl (by decide)) ?_)
  refine list_cons rfl (op_call _ (impl_CellOf d) rfl rfl (by decide) (by decide) (by decide) rfl ?_)
  rintro _ rfl; simp only [if_pos hD, decide_eq_true hD]
  refine list_cons rfl (op_q (q_move rfl (by decide)) ?_)
  refine list_cons rfl (op_q (q_extract rfl rfl (by decide)) ?_)
  refine list_cons rfl (op_q (q_extract rfl rfl (by decide)) ?_)
  refine list_cons rfl (op_q (q_assign rfl (by decide)) ?_)
  refine list_cons rfl (op_q (q_assign rfl (by decide)) ?_)
  refine list_nil ?_
  refine hK2 _ ?_; clear hK2 K2
  refine codeT.imp (σ' := [(0, _), (1, _), (2, _), (6, _), (7, _), (8, _), (9, _)]) ?_ (imp_covers ⟨rfl, rfl, rfl, rfl, rfl, rfl, rfl, trivial⟩)
  refine code_seq (fun K3 hK3 => ?_)
  refine code_region ?_
  refine list_cons rfl (op_q (q_move rfl (by decide)) ?_)
  refine list_cons rfl (op_q (q_move rfl (by decide)) ?_)
  refine list_cons rfl (op_q (q_move rfl (by decide)) ?_)
  refine list_cons rfl (op_call _ (impl_digitChancesY (digT.getD d.toNat 0) p q (digT_cell _) hF) rfl rfl (by decide) (by decide) (by decide) rfl ?_)
  rintro _ rfl
  refine list_cons rfl (op_q (q_move rfl (by decide)) ?_)
  refine list_cons rfl (op_q (q_extract rfl rfl (by decide)) ?_)
  refine list_cons rfl (op_q (q_extract rfl rfl (by decide)) ?_)
  refine list_cons rfl (op_q (q_extract rfl rfl (by decide)) ?_)
  refine list_cons rfl (op_alloc zt_59 (by decide) (by decide) rfl ?_)
  refine list_cons rfl (op_alloc zt_51 (by decide) (by decide) rfl ?_)
  refine list_cons rfl (op_store (agg_59).2 10 [10] (by intro t ht; simp only [List.mem_cons, List.not_mem_nil, or_false] at ht; subst ht; rfl) (.inr ⟨rfl, _, rfl⟩) rfl rfl rfl rfl (by first | rfl | exact flat_part (flat_map _ (fun _ => rfl) _) _ _ | exact flat_map _ (fun _ => rfl) _) (by first | rfl | (first | rfl | (simp [PV.cells, fl_len, chZ9_len]; done))) (by first | decide | omega | exact Nat.le_refl _ | (simp; done) | (simp; omega)) (by decide) rfl ?_)
  refine list_cons rfl (op_store (agg_51).2 11 [11] (by intro t ht; simp only [List.mem_cons, List.not_mem_nil, or_false] at ht; subst ht; rfl) (.inr ⟨rfl, _, rfl⟩) rfl rfl rfl rfl (by first | rfl | exact flat_part (flat_map _ (fun _ => rfl) _) _ _ | exact flat_map _ (fun _ => rfl) _) (by first | rfl | (first | rfl | (simp [PV.cells, fl_len, chZ9_len]; done))) (by first | decide | omega | exact Nat.le_refl _ | (simp; done) | (simp; omega)) (by decide) rfl ?_)
  refine list_cons rfl (op_q (q_assign rfl (by decide)) ?_)
  refine list_nil ?_
  refine hK3 _ ?_; clear hK3 K3
  refine codeT.imp (σ' := [(0, _), (1, _), (2, _), (6, _), (7, _), (8, _), (9, _), (11, _), (12, _)]) ?_ (imp_covers ⟨rfl, rfl, rfl, rfl, rfl, rfl, rfl, rfl, rfl, trivial⟩)
  refine code_seq (fun K4 hK4 => ?_)
  refine code_seq (fun K5 hK5 => ?_)
  refine code_region ?_
  refine list_cons rfl (op_q (q_move rfl (by decide)) ?_)
  refine list_cons rfl (op_q (by first | exact q_notd rfl (by decide) | exact q_not rfl (by decide)) ?_)
  refine list_cons rfl (op_q (q_move rfl (by decide)) ?_)
  refine list_guard_y rfl rfl rfl rfl (by decide) rfl ?_
  refine id (op_q (q_move rfl (by decide)) ?_)
  refine list_guard_y rfl rfl rfl rfl (by decide) rfl ?_
  refine id (op_q (by first | exact q_notd rfl (by decide) | exact q_not rfl (by decide)) ?_)
  refine list_cons rfl (op_q (q_pick rfl rfl (by decide)) ?_)
  refine list_nil ?_
  refine hK5 _ ?_; clear hK5 K5
  refine code_cond_f rfl ?_
  refine code_skip ?_
  refine hK4 _ ?_; clear hK4 K4
  refine code_seq (fun K6 hK6 => ?_)
  refine code_region ?_
  refine list_cons rfl (op_q (q_load_agg agg_51 11 (.inr ⟨rfl, _, rfl⟩) rfl rfl (by first | decide | omega | exact Nat.le_refl _ | (simp; done) | (simp; omega)) (by first | rfl | exact flat_part (fl_flat _) _ _) (by decide)) ?_)
  refine list_cons rfl (op_call _ (impl_opposite (sm9 (digT.getD d.toNat 0) p q 10) (pw9 q 7) (sm9_bd hF 10).1 (sm9_le hD hF) (by have h1 := pw9_7 (x := q) (n := 7) (by have := hF.1; omega) (by have := hF.1; omega) (by omega); have h2 := pw9_pos (x := q) (by have := hF.1; omega) 7; omega)) rfl rfl (by decide) (by decide) (by decide) rfl ?_)
  rintro _ rfl
  refine list_cons rfl (op_store (agg_26).2 6 [6] (by intro t ht; simp only [List.mem_cons, List.not_mem_nil, or_false] at ht; subst ht; rfl) (.inr ⟨rfl, _, rfl⟩) rfl rfl rfl rfl (by first | rfl | exact flat_part (flat_map _ (fun _ => rfl) _) _ _ | exact flat_map _ (fun _ => rfl) _) (by first | rfl | (first | rfl | (simp [PV.cells, fl_len, chZ9_len]; done))) (by first | decide | omega | exact Nat.le_refl _ | (simp; done) | (simp; omega)) (by decide) rfl ?_)
  refine list_cons rfl (op_q (q_assign rfl (by decide)) ?_)
  refine list_nil ?_
  refine hK6 _ ?_; clear hK6 K6
  refine codeT.imp (σ' := [(0, _), (1, _), (2, _), (6, _), (7, _), (8, _), (9, _), (11, _), (12, _)]) ?_ (imp_covers ⟨rfl, rfl, rfl, rfl, rfl, rfl, rfl, rfl, rfl, trivial⟩)
  refine code_ret ?_
  refine ends_ret (cs := []) rfl rfl rfl rfl trivial ?_
  first | rfl

set_option maxRecDepth 8000 in
set_option maxHeartbeats 2000000 in
theorem impl_NoDigitYN (d p q : Int) (hD : 0 ≤ d ∧ d ≤ 9) (hF : ¬ FkP p q) : PCalls Tryd.prog 15 [.int .i64 d, .int .i64 p, .int .i64 q] (· = [.val (.agg [.int .i64 0, .int .i64 0]), .val (.bool false)]) := by
  refine pcalls_of_code (n := 35) az Tryd.func15 (by kernel_rfl) rfl rfl (Nat.le_of_ble_eq_true rfl) (by intro t u h; simp [Tryd.f15] at h; obtain ⟨_, rfl⟩ := h <;> first | exact resTy_agg agg_26 (by decide)) ?_
  have hcf := fun c n k => fl_flat (chZ9 c p q n k)
  have hcl := fun c n k => fl_20 c p q n k
  refine code_seq (fun K1 hK1 => ?_)
  refine code_region ?_
  refine list_cons rfl (op_alloc zt_26 (by decide) (by decide) rfl ?_)
  refine list_cons rfl (op_q (q_assign rfl (by decide)) ?_)
  refine list_nil ?_
  refine hK1 _ ?_; clear hK1 K1
  refine code_seq (fun K2 hK2 => ?_)
  refine code_region ?_
  refine list_cons rfl (op_q (q_move rfl (by decide)) ?_)
  refine list_cons rfl (op_call _ (impl_CellOf d) rfl rfl (by decide) (by decide) (by decide) rfl ?_)
  rintro _ rfl; simp only [if_pos hD, decide_eq_true hD]
  refine list_cons rfl (op_q (q_move rfl (by decide)) ?_)
  refine list_cons rfl (op_q (q_extract rfl rfl (by decide)) ?_)
  refine list_cons rfl (op_q (q_extract rfl rfl (by decide)) ?_)
  refine list_cons rfl (op_q (q_assign rfl (by decide)) ?_)
  refine list_cons rfl (op_q (q_assign rfl (by decide)) ?_)
  refine list_nil ?_
  refine hK2 _ ?_; clear hK2 K2
  refine codeT.imp (σ' := [(0, _), (1, _), (2, _), (6, _), (7, _), (8, _), (9, _)]) ?_ (imp_covers ⟨rfl, rfl, rfl, rfl, rfl, rfl, rfl, trivial⟩)
  refine code_seq (fun K3 hK3 => ?_)
  refine code_region ?_
  refine list_cons rfl (op_q (q_move rfl (by decide)) ?_)
  refine list_cons rfl (op_q (q_move rfl (by decide)) ?_)
  refine list_cons rfl (op_q (q_move rfl (by decide)) ?_)
  refine list_cons rfl (op_call _ (impl_digitChancesN (digT.getD d.toNat 0) p q (fun k => hF k.2)) rfl rfl (by decide) (by decide) (by decide) rfl ?_)
  rintro _ rfl
  refine list_cons rfl (op_q (q_move rfl (by decide)) ?_)
  refine list_cons rfl (op_q (q_extract rfl rfl (by decide)) ?_)
  refine list_cons rfl (op_q (q_extract rfl rfl (by decide)) ?_)
  refine list_cons rfl (op_q (q_extract rfl rfl (by decide)) ?_)
  refine list_cons rfl (op_alloc zt_59 (by decide) (by decide) rfl ?_)
  refine list_cons rfl (op_alloc zt_51 (by decide) (by decide) rfl ?_)
  refine list_cons rfl (op_store (agg_59).2 10 [10] (by intro t ht; simp only [List.mem_cons, List.not_mem_nil, or_false] at ht; subst ht; rfl) (.inr ⟨rfl, _, rfl⟩) rfl rfl rfl rfl (by first | rfl | exact flat_part (flat_map _ (fun _ => rfl) _) _ _ | exact flat_map _ (fun _ => rfl) _) (by first | rfl | (first | rfl | (simp [PV.cells, fl_len, chZ9_len]; done))) (by first | decide | omega | exact Nat.le_refl _ | (simp; done) | (simp; omega)) (by decide) rfl ?_)
  refine list_cons rfl (op_store (agg_51).2 11 [11] (by intro t ht; simp only [List.mem_cons, List.not_mem_nil, or_false] at ht; subst ht; rfl) (.inr ⟨rfl, _, rfl⟩) rfl rfl rfl rfl (by first | rfl | exact flat_part (flat_map _ (fun _ => rfl) _) _ _ | exact flat_map _ (fun _ => rfl) _) (by first | rfl | (first | rfl | (simp [PV.cells, fl_len, chZ9_len]; done))) (by first | decide | omega | exact Nat.le_refl _ | (simp; done) | (simp; omega)) (by decide) rfl ?_)
  refine list_cons rfl (op_q (q_assign rfl (by decide)) ?_)
  refine list_nil ?_
  refine hK3 _ ?_; clear hK3 K3
  refine codeT.imp (σ' := [(0, _), (1, _), (2, _), (6, _), (7, _), (8, _), (9, _), (11, _), (12, _)]) ?_ (imp_covers ⟨rfl, rfl, rfl, rfl, rfl, rfl, rfl, rfl, rfl, trivial⟩)
  refine code_seq (fun K4 hK4 => ?_)
  refine code_seq (fun K5 hK5 => ?_)
  refine code_region ?_
  refine list_cons rfl (op_q (q_move rfl (by decide)) ?_)
  refine list_cons rfl (op_q (by first | exact q_notd rfl (by decide) | exact q_not rfl (by decide)) ?_)
  refine list_cons rfl (op_q (q_move rfl (by decide)) ?_)
  refine list_guard_y rfl rfl rfl rfl (by decide) rfl ?_
  refine id (op_q (q_move rfl (by decide)) ?_)
  refine list_guard_y rfl rfl rfl rfl (by decide) rfl ?_
  refine id (op_q (by first | exact q_notd rfl (by decide) | exact q_not rfl (by decide)) ?_)
  refine list_cons rfl (op_q (q_pick rfl rfl (by decide)) ?_)
  refine list_nil ?_
  refine hK5 _ ?_; clear hK5 K5
  refine code_cond_t rfl ?_
  refine code_seq (fun K6 hK6 => ?_)
  refine code_region ?_
  refine list_cons rfl (op_q (q_build bt_26 (parts := []) rfl rfl (by decide)) ?_)
  refine list_cons rfl (op_store (agg_26).2 6 [6] (by intro t ht; simp only [List.mem_cons, List.not_mem_nil, or_false] at ht; subst ht; rfl) (.inr ⟨rfl, _, rfl⟩) rfl rfl rfl rfl (by first | rfl | exact flat_part (flat_map _ (fun _ => rfl) _) _ _ | exact flat_map _ (fun _ => rfl) _) (by first | rfl | (first | rfl | (simp [PV.cells, fl_len, chZ9_len]; done))) (by first | decide | omega | exact Nat.le_refl _ | (simp; done) | (simp; omega)) (by decide) rfl ?_)
  refine list_cons rfl (op_q (q_assign rfl (by decide)) ?_)
  refine list_nil ?_
  refine hK6 _ ?_; clear hK6 K6
  refine codeT.imp (σ' := [(0, _), (1, _), (2, _), (6, _), (7, _), (8, _), (9, _), (11, _), (12, _)]) ?_ (imp_covers ⟨rfl, rfl, rfl, rfl, rfl, rfl, rfl, rfl, rfl, trivial⟩)
  refine code_ret ?_
  refine then_r ?_; clear hK4 K4
  refine ends_ret (cs := []) rfl rfl rfl rfl trivial ?_
  first | rfl

set_option maxRecDepth 8000 in
set_option maxHeartbeats 2000000 in
theorem impl_NoDigitNY (d p q : Int) (hD : ¬ (0 ≤ d ∧ d ≤ 9)) (hF : FkP p q) : PCalls Tryd.prog 15 [.int .i64 d, .int .i64 p, .int .i64 q] (· = [.val (.agg [.int .i64 0, .int .i64 0]), .val (.bool false)]) := by
  refine pcalls_of_code (n := 35) az Tryd.func15 (by kernel_rfl) rfl rfl (Nat.le_of_ble_eq_true rfl) (by intro t u h; simp [Tryd.f15] at h; obtain ⟨_, rfl⟩ := h <;> first | exact resTy_agg agg_26 (by decide)) ?_
  have hcf := fun c n k => fl_flat (chZ9 c p q n k)
  have hcl := fun c n k => fl_20 c p q n k
  refine code_seq (fun K1 hK1 => ?_)
  refine code_region ?_
  refine list_cons rfl (op_alloc zt_26 (by decide) (by decide) rfl ?_)
  refine list_cons rfl (op_q (q_assign rfl (by decide)) ?_)
  refine list_nil ?_
  refine hK1 _ ?_; clear hK1 K1
  refine code_seq (fun K2 hK2 => ?_)
  refine code_region ?_
  refine list_cons rfl (op_q (q_move rfl (by decide)) ?_)
  refine list_cons rfl (op_call _ (impl_CellOf d) rfl rfl (by decide) (by decide) (by decide) rfl ?_)
  rintro _ rfl; simp only [if_neg hD, decide_eq_false hD]
  refine list_cons rfl (op_q (q_move rfl (by decide)) ?_)
  refine list_cons rfl (op_q (q_extract rfl rfl (by decide)) ?_)
  refine list_cons rfl (op_q (q_extract rfl rfl (by decide)) ?_)
  refine list_cons rfl (op_q (q_assign rfl (by decide)) ?_)
  refine list_cons rfl (op_q (q_assign rfl (by decide)) ?_)
  refine list_nil ?_
  refine hK2 _ ?_; clear hK2 K2
  refine codeT.imp (σ' := [(0, _), (1, _), (2, _), (6, _), (7, _), (8, _), (9, _)]) ?_ (imp_covers ⟨rfl, rfl, rfl, rfl, rfl, rfl, rfl, trivial⟩)
  refine code_seq (fun K3 hK3 => ?_)
  refine code_region ?_
  refine list_cons rfl (op_q (q_move rfl (by decide)) ?_)
  refine list_cons rfl (op_q (q_move rfl (by decide)) ?_)
  refine list_cons rfl (op_q (q_move rfl (by decide)) ?_)
  refine list_cons rfl (op_call _ (impl_digitChancesY 0 p q (by omega) hF) rfl rfl (by decide) (by decide) (by decide) rfl ?_)
  rintro _ rfl
  refine list_cons rfl (op_q (q_move rfl (by decide)) ?_)
  refine list_cons rfl (op_q (q_extract rfl rfl (by decide)) ?_)
  refine list_cons rfl (op_q (q_extract rfl rfl (by decide)) ?_)
  refine list_cons rfl (op_q (q_extract rfl rfl (by decide)) ?_)
  refine list_cons rfl (op_alloc zt_59 (by decide) (by decide) rfl ?_)
  refine list_cons rfl (op_alloc zt_51 (by decide) (by decide) rfl ?_)
  refine list_cons rfl (op_store (agg_59).2 10 [10] (by intro t ht; simp only [List.mem_cons, List.not_mem_nil, or_false] at ht; subst ht; rfl) (.inr ⟨rfl, _, rfl⟩) rfl rfl rfl rfl (by first | rfl | exact flat_part (flat_map _ (fun _ => rfl) _) _ _ | exact flat_map _ (fun _ => rfl) _) (by first | rfl | (first | rfl | (simp [PV.cells, fl_len, chZ9_len]; done))) (by first | decide | omega | exact Nat.le_refl _ | (simp; done) | (simp; omega)) (by decide) rfl ?_)
  refine list_cons rfl (op_store (agg_51).2 11 [11] (by intro t ht; simp only [List.mem_cons, List.not_mem_nil, or_false] at ht; subst ht; rfl) (.inr ⟨rfl, _, rfl⟩) rfl rfl rfl rfl (by first | rfl | exact flat_part (flat_map _ (fun _ => rfl) _) _ _ | exact flat_map _ (fun _ => rfl) _) (by first | rfl | (first | rfl | (simp [PV.cells, fl_len, chZ9_len]; done))) (by first | decide | omega | exact Nat.le_refl _ | (simp; done) | (simp; omega)) (by decide) rfl ?_)
  refine list_cons rfl (op_q (q_assign rfl (by decide)) ?_)
  refine list_nil ?_
  refine hK3 _ ?_; clear hK3 K3
  refine codeT.imp (σ' := [(0, _), (1, _), (2, _), (6, _), (7, _), (8, _), (9, _), (11, _), (12, _)]) ?_ (imp_covers ⟨rfl, rfl, rfl, rfl, rfl, rfl, rfl, rfl, rfl, trivial⟩)
  refine code_seq (fun K4 hK4 => ?_)
  refine code_seq (fun K5 hK5 => ?_)
  refine code_region ?_
  refine list_cons rfl (op_q (q_move rfl (by decide)) ?_)
  refine list_cons rfl (op_q (by first | exact q_notd rfl (by decide) | exact q_not rfl (by decide)) ?_)
  refine list_cons rfl (op_q (q_move rfl (by decide)) ?_)
  refine list_guard_n rfl rfl rfl rfl (by decide) rfl ?_
  refine list_guard_n rfl rfl rfl rfl (by decide) rfl ?_
  refine list_cons rfl (op_q (q_pick rfl rfl (by decide)) ?_)
  refine list_nil ?_
  refine hK5 _ ?_; clear hK5 K5
  refine code_cond_t rfl ?_
  refine code_seq (fun K6 hK6 => ?_)
  refine code_region ?_
  refine list_cons rfl (op_q (q_build bt_26 (parts := []) rfl rfl (by decide)) ?_)
  refine list_cons rfl (op_store (agg_26).2 6 [6] (by intro t ht; simp only [List.mem_cons, List.not_mem_nil, or_false] at ht; subst ht; rfl) (.inr ⟨rfl, _, rfl⟩) rfl rfl rfl rfl (by first | rfl | exact flat_part (flat_map _ (fun _ => rfl) _) _ _ | exact flat_map _ (fun _ => rfl) _) (by first | rfl | (first | rfl | (simp [PV.cells, fl_len, chZ9_len]; done))) (by first | decide | omega | exact Nat.le_refl _ | (simp; done) | (simp; omega)) (by decide) rfl ?_)
  refine list_cons rfl (op_q (q_assign rfl (by decide)) ?_)
  refine list_nil ?_
  refine hK6 _ ?_; clear hK6 K6
  refine codeT.imp (σ' := [(0, _), (1, _), (2, _), (6, _), (7, _), (8, _), (9, _), (11, _), (12, _)]) ?_ (imp_covers ⟨rfl, rfl, rfl, rfl, rfl, rfl, rfl, rfl, rfl, trivial⟩)
  refine code_ret ?_
  refine then_r ?_; clear hK4 K4
  refine ends_ret (cs := []) rfl rfl rfl rfl trivial ?_
  first | rfl

set_option maxRecDepth 8000 in
set_option maxHeartbeats 2000000 in
theorem impl_NoDigitNN (d p q : Int) (hD : ¬ (0 ≤ d ∧ d ≤ 9)) (hF : ¬ FkP p q) : PCalls Tryd.prog 15 [.int .i64 d, .int .i64 p, .int .i64 q] (· = [.val (.agg [.int .i64 0, .int .i64 0]), .val (.bool false)]) := by
  refine pcalls_of_code (n := 35) az Tryd.func15 (by kernel_rfl) rfl rfl (Nat.le_of_ble_eq_true rfl) (by intro t u h; simp [Tryd.f15] at h; obtain ⟨_, rfl⟩ := h <;> first | exact resTy_agg agg_26 (by decide)) ?_
  have hcf := fun c n k => fl_flat (chZ9 c p q n k)
  have hcl := fun c n k => fl_20 c p q n k
  refine code_seq (fun K1 hK1 => ?_)
  refine code_region ?_
  refine list_cons rfl (op_alloc zt_26 (by decide) (by decide) rfl ?_)
  refine list_cons rfl (op_q (q_assign rfl (by decide)) ?_)
  refine list_nil ?_
  refine hK1 _ ?_; clear hK1 K1
  refine code_seq (fun K2 hK2 => ?_)
  refine code_region ?_
  refine list_cons rfl (op_q (q_move rfl (by decide)) ?_)
  refine list_cons rfl (op_call _ (impl_CellOf d) rfl rfl (by decide) (by decide) (by decide) rfl ?_)
  rintro _ rfl; simp only [if_neg hD, decide_eq_false hD]
  refine list_cons rfl (op_q (q_move rfl (by decide)) ?_)
  refine list_cons rfl (op_q (q_extract rfl rfl (by decide)) ?_)
  refine list_cons rfl (op_q (q_extract rfl rfl (by decide)) ?_)
  refine list_cons rfl (op_q (q_assign rfl (by decide)) ?_)
  refine list_cons rfl (op_q (q_assign rfl (by decide)) ?_)
  refine list_nil ?_
  refine hK2 _ ?_; clear hK2 K2
  refine codeT.imp (σ' := [(0, _), (1, _), (2, _), (6, _), (7, _), (8, _), (9, _)]) ?_ (imp_covers ⟨rfl, rfl, rfl, rfl, rfl, rfl, rfl, trivial⟩)
  refine code_seq (fun K3 hK3 => ?_)
  refine code_region ?_
  refine list_cons rfl (op_q (q_move rfl (by decide)) ?_)
  refine list_cons rfl (op_q (q_move rfl (by decide)) ?_)
  refine list_cons rfl (op_q (q_move rfl (by decide)) ?_)
  refine list_cons rfl (op_call _ (impl_digitChancesN 0 p q (fun k => hF k.2)) rfl rfl (by decide) (by decide) (by decide) rfl ?_)
  rintro _ rfl
  refine list_cons rfl (op_q (q_move rfl (by decide)) ?_)
  refine list_cons rfl (op_q (q_extract rfl rfl (by decide)) ?_)
  refine list_cons rfl (op_q (q_extract rfl rfl (by decide)) ?_)
  refine list_cons rfl (op_q (q_extract rfl rfl (by decide)) ?_)
  refine list_cons rfl (op_alloc zt_59 (by decide) (by decide) rfl ?_)
  refine list_cons rfl (op_alloc zt_51 (by decide) (by decide) rfl ?_)
  refine list_cons rfl (op_store (agg_59).2 10 [10] (by intro t ht; simp only [List.mem_cons, List.not_mem_nil, or_false] at ht; subst ht; rfl) (.inr ⟨rfl, _, rfl⟩) rfl rfl rfl rfl (by first | rfl | exact flat_part (flat_map _ (fun _ => rfl) _) _ _ | exact flat_map _ (fun _ => rfl) _) (by first | rfl | (first | rfl | (simp [PV.cells, fl_len, chZ9_len]; done))) (by first | decide | omega | exact Nat.le_refl _ | (simp; done) | (simp; omega)) (by decide) rfl ?_)
  refine list_cons rfl (op_store (agg_51).2 11 [11] (by intro t ht; simp only [List.mem_cons, List.not_mem_nil, or_false] at ht; subst ht; rfl) (.inr ⟨rfl, _, rfl⟩) rfl rfl rfl rfl (by first | rfl | exact flat_part (flat_map _ (fun _ => rfl) _) _ _ | exact flat_map _ (fun _ => rfl) _) (by first | rfl | (first | rfl | (simp [PV.cells, fl_len, chZ9_len]; done))) (by first | decide | omega | exact Nat.le_refl _ | (simp; done) | (simp; omega)) (by decide) rfl ?_)
  refine list_cons rfl (op_q (q_assign rfl (by decide)) ?_)
  refine list_nil ?_
  refine hK3 _ ?_; clear hK3 K3
  refine codeT.imp (σ' := [(0, _), (1, _), (2, _), (6, _), (7, _), (8, _), (9, _), (11, _), (12, _)]) ?_ (imp_covers ⟨rfl, rfl, rfl, rfl, rfl, rfl, rfl, rfl, rfl, trivial⟩)
  refine code_seq (fun K4 hK4 => ?_)
  refine code_seq (fun K5 hK5 => ?_)
  refine code_region ?_
  refine list_cons rfl (op_q (q_move rfl (by decide)) ?_)
  refine list_cons rfl (op_q (by first | exact q_notd rfl (by decide) | exact q_not rfl (by decide)) ?_)
  refine list_cons rfl (op_q (q_move rfl (by decide)) ?_)
  refine list_guard_n rfl rfl rfl rfl (by decide) rfl ?_
  refine list_guard_n rfl rfl rfl rfl (by decide) rfl ?_
  refine list_cons rfl (op_q (q_pick rfl rfl (by decide)) ?_)
  refine list_nil ?_
  refine hK5 _ ?_; clear hK5 K5
  refine code_cond_t rfl ?_
  refine code_seq (fun K6 hK6 => ?_)
  refine code_region ?_
  refine list_cons rfl (op_q (q_build bt_26 (parts := []) rfl rfl (by decide)) ?_)
  refine list_cons rfl (op_store (agg_26).2 6 [6] (by intro t ht; simp only [List.mem_cons, List.not_mem_nil, or_false] at ht; subst ht; rfl) (.inr ⟨rfl, _, rfl⟩) rfl rfl rfl rfl (by first | rfl | exact flat_part (flat_map _ (fun _ => rfl) _) _ _ | exact flat_map _ (fun _ => rfl) _) (by first | rfl | (first | rfl | (simp [PV.cells, fl_len, chZ9_len]; done))) (by first | decide | omega | exact Nat.le_refl _ | (simp; done) | (simp; omega)) (by decide) rfl ?_)
  refine list_cons rfl (op_q (q_assign rfl (by decide)) ?_)
  refine list_nil ?_
  refine hK6 _ ?_; clear hK6 K6
  refine codeT.imp (σ' := [(0, _), (1, _), (2, _), (6, _), (7, _), (8, _), (9, _), (11, _), (12, _)]) ?_ (imp_covers ⟨rfl, rfl, rfl, rfl, rfl, rfl, rfl, rfl, rfl, trivial⟩)
  refine code_ret ?_
  refine then_r ?_; clear hK4 K4
  refine ends_ret (cs := []) rfl rfl rfl rfl trivial ?_
  first | rfl

theorem impl_ChanceNoDigit (d p q : Int) : PCalls Tryd.prog 15 [.int .i64 d, .int .i64 p, .int .i64 q] (· = [.val (.agg [.int .i64 (if (0 ≤ d ∧ d ≤ 9) ∧ FkP p q then frA (pw9 q 7 - sm9 (digT.getD d.toNat 0) p q 10) (pw9 q 7) else 0), .int .i64 (if (0 ≤ d ∧ d ≤ 9) ∧ FkP p q then frB (pw9 q 7 - sm9 (digT.getD d.toNat 0) p q 10) (pw9 q 7) else 0)]), .val (.bool (decide ((0 ≤ d ∧ d ≤ 9) ∧ FkP p q)))]) := by
  by_cases hD : 0 ≤ d ∧ d ≤ 9
  · by_cases hF : FkP p q
    · have e : (0 ≤ d ∧ d ≤ 9) ∧ FkP p q := ⟨hD, hF⟩
      simp only [if_pos e, decide_eq_true e]; exact impl_NoDigitYY d p q hD hF
    · have e : ¬ ((0 ≤ d ∧ d ≤ 9) ∧ FkP p q) := fun k => hF k.2
      simp only [if_neg e, decide_eq_false e]; exact impl_NoDigitYN d p q hD hF
  · have e : ¬ ((0 ≤ d ∧ d ≤ 9) ∧ FkP p q) := fun k => hD k.1
    simp only [if_neg e, decide_eq_false e]
    by_cases hF : FkP p q
    · exact impl_NoDigitNY d p q hD hF
    · exact impl_NoDigitNN d p q hD hF

set_option maxRecDepth 8000 in
set_option maxHeartbeats 2000000 in
theorem impl_ChancesForY (c p q : Int) (hC : 0 ≤ c ∧ c ≤ 127) (hF : FkP p q) (h0 : 0 < sm9 c p q 10) : PCalls Tryd.prog 18 [.int .i64 c, .int .i64 p, .int .i64 q] (· = [.own 0 26 2 (chL c p q (sm9 c p q 10) 10).length (fl (chL c p q (sm9 c p q 10) 10)), .val (.bool true)]) := by
  refine pcalls_of_code (n := 44) az Tryd.func18 (by kernel_rfl) rfl rfl (Nat.le_of_ble_eq_true rfl) (by intro t u h; simp [Tryd.f18] at h) ?_
  have hqb := pw9_7 (x := q) (n := 7) (by have := hF.1; omega) (by have := hF.1; omega) (by omega)
  have hqp := pw9_pos (x := q) (by have := hF.1; omega) 7
  have hsb := sm9_bd (c := c) hF 10
  refine code_seq (fun K1 hK1 => ?_)
  refine code_region ?_
  refine list_cons rfl (op_q (q_assign rfl (by decide)) ?_)
  refine list_cons rfl (op_q (q_assign rfl (by decide)) ?_)
  refine list_nil ?_
  refine hK1 _ ?_; clear hK1 K1
  refine code_seq (fun K2 hK2 => ?_)
  refine code_region ?_
  refine list_cons rfl (op_q (q_move rfl (by decide)) ?_)
  refine list_cons rfl (op_q (q_move rfl (by decide)) ?_)
  refine list_cons rfl (op_q (q_move rfl (by decide)) ?_)
  refine list_cons rfl (op_call _ (impl_digitChancesY c p q hC hF) rfl rfl (by decide) (by decide) (by decide) rfl ?_)
  rintro _ rfl
  refine list_cons rfl (op_q (q_move rfl (by decide)) ?_)
  refine list_cons rfl (op_q (q_extract rfl rfl (by decide)) ?_)
  refine list_cons rfl (op_q (q_extract rfl rfl (by decide)) ?_)
  refine list_cons rfl (op_q (q_extract rfl rfl (by decide)) ?_)
  refine list_cons rfl (op_alloc zt_59 (by decide) (by decide) rfl ?_)
  refine list_cons rfl (op_alloc zt_51 (by decide) (by decide) rfl ?_)
  refine list_cons rfl (op_store (agg_59).2 8 [8] (by intro t ht; simp only [List.mem_cons, List.not_mem_nil, or_false] at ht; subst ht; rfl) (.inr ⟨rfl, _, rfl⟩) rfl rfl rfl rfl (by first | rfl | exact flat_part (flat_map _ (fun _ => rfl) _) _ _ | exact flat_map _ (fun _ => rfl) _) (by first | rfl | (first | rfl | (simp [PV.cells, fl_len, chZ9_len]; done))) (by first | decide | omega | exact Nat.le_refl _ | (rw [fl_20]; omega) | (simp [fl_len, chZ9_len]; done) | (simp [fl_len, chZ9_len]; omega)) (by decide) rfl ?_)
  refine list_cons rfl (op_store (agg_51).2 9 [9] (by intro t ht; simp only [List.mem_cons, List.not_mem_nil, or_false] at ht; subst ht; rfl) (.inr ⟨rfl, _, rfl⟩) rfl rfl rfl rfl (by first | rfl | exact flat_part (flat_map _ (fun _ => rfl) _) _ _ | exact flat_map _ (fun _ => rfl) _) (by first | rfl | (first | rfl | (simp [PV.cells, fl_len, chZ9_len]; done))) (by first | decide | omega | exact Nat.le_refl _ | (rw [fl_20]; omega) | (simp [fl_len, chZ9_len]; done) | (simp [fl_len, chZ9_len]; omega)) (by decide) rfl ?_)
  refine list_cons rfl (op_q (q_assign rfl (by decide)) ?_)
  refine list_nil ?_
  refine hK2 _ ?_; clear hK2 K2
  refine codeT.imp (σ' := [(0, _), (1, _), (2, _), (6, _), (7, _), (8, _), (9, _), (10, _)]) ?_ (imp_covers ⟨rfl, rfl, rfl, rfl, rfl, rfl, rfl, rfl, trivial⟩)
  refine code_seq (fun K3 hK3 => ?_)
  refine code_seq (fun K4 hK4 => ?_)
  refine code_region ?_
  refine list_cons rfl (op_q (q_move rfl (by decide)) ?_)
  refine list_cons rfl (op_q (by first | exact q_notd rfl (by decide) | exact q_not rfl (by decide)) ?_)
  refine list_cons rfl (op_q (q_move rfl (by decide)) ?_)
  refine list_guard_y rfl rfl rfl rfl (by decide) rfl ?_
  refine id (op_q (q_load_agg agg_51 9 (.inr ⟨rfl, _, rfl⟩) rfl rfl (by first | decide | omega | exact Nat.le_refl _ | (simp; done) | (simp; omega)) (by first | rfl | exact flat_part (fl_flat _) _ _) (by decide)) ?_)
  refine list_guard_y rfl rfl rfl rfl (by decide) rfl ?_
  refine id (op_q (q_load_agg_g agg_51 rfl (by decide) rfl (by decide)) ?_)
  refine list_guard_y rfl rfl rfl rfl (by decide) rfl ?_
  refine id (op_q (q_aggeq (by decide) agg_51 eqty_51 eqg_51 rfl rfl (by first | exact ⟨_, _, rfl, ⟨_, rfl⟩, ⟨_, _, rfl, ⟨_, rfl⟩, trivial⟩⟩) (by first | exact ⟨_, _, rfl, ⟨_, rfl⟩, ⟨_, _, rfl, ⟨_, rfl⟩, trivial⟩⟩) rfl rfl (by decide)) ?_)
  refine list_cons rfl (op_q (q_pick rfl rfl (by decide)) ?_)
  refine list_nil ?_
  refine hK4 _ ?_; clear hK4 K4
  refine code_cond_d rfl (fun h1 => ?_) (fun h1 => ?_)
  · skip
    (try simp only [Decidable.not_not] at h1)
    exfalso
    have hz := (fr_zero (a := sm9 c p q 10) (n := pw9 q 7) (by omega) hqp).1 ⟨h1.1, h1.2.1⟩; omega
  (try simp only [Decidable.not_not] at h1)
  refine code_skip ?_
  refine hK3 _ ?_; clear hK3 K3
  refine codeT.imp (σ' := [(0, _), (1, _), (2, _), (6, _), (7, _), (8, _), (9, _), (10, _)]) ?_ (imp_covers ⟨rfl, rfl, rfl, rfl, rfl, rfl, rfl, rfl, trivial⟩)
  refine code_seq (fun K5 hK5 => ?_)
  refine code_region ?_
  refine list_cons rfl (op_make (m := 10) sl_33 rfl rfl (by omega) (by decide) (by decide) rfl ?_)
  refine list_cons rfl (op_q (q_assign rfl (by decide)) ?_)
  refine list_nil ?_
  refine hK5 _ ?_; clear hK5 K5
  refine code_seq (fun K6 hK6 => ?_)
  refine code_seq (fun K7 hK7 => ?_)
  refine code_region ?_
  refine list_cons rfl (op_q (q_load_agg agg_59 8 (.inr ⟨rfl, _, rfl⟩) rfl rfl (by first | decide | omega | exact Nat.le_refl _ | (simp; done) | (simp; omega)) (by first | rfl | exact flat_part (fl_flat _) _ _) (by decide)) ?_)
  refine list_cons rfl (op_q (q_move rfl (by decide)) ?_)
  refine list_nil ?_
  refine hK7 _ ?_; clear hK7 K7
  refine code_block ?_
  refine code_loop (X := PV × Bool × Bool × Nat × List PV × Int) (fun x => [(0, .val (.int .i64 c)), (1, .val (.int .i64 p)), (2, .val (.int .i64 q)), (6, .val x.1), (7, .val (.bool x.2.1)), (9, .box 9 51 [.int .i64 (frA (sm9 c p q 10) (pw9 q 7)), .int .i64 (frB (sm9 c p q 10) (pw9 q 7))]), (10, .val (.bool x.2.2.1)), (11, .own 30 26 2 x.2.2.2.1 x.2.2.2.2.1), (31, .val (.agg (fl (chZ9 c p q (pw9 q 7) 10)))), (32, .val (.int .i64 x.2.2.2.2.2))]) (fun x => 0 ≤ x.2.2.2.2.2 ∧ x.2.2.2.2.2 ≤ 10 ∧ x.2.2.2.1 = 10 ∧ x.2.2.2.2.1 = fl (chZ9 c p q (sm9 c p q 10) x.2.2.2.2.2.toNat)) (fun x => (10 - x.2.2.2.2.2).toNat) (_, _, _, _, _, _) (imp_covers ⟨rfl, rfl, rfl, rfl, rfl, rfl, rfl, rfl, rfl, rfl, trivial⟩) ?_ ?_
  · (try dsimp only)
    exact ⟨by omega, by omega, rfl, rfl⟩
  · intro x hI
    obtain ⟨t6_p, t7, ok, list_n, list_c, t32⟩ := x
    replace hI : 0 ≤ t32 ∧ t32 ≤ 10 ∧ list_n = 10 ∧ list_c = fl (chZ9 c p q (sm9 c p q 10) t32.toNat) := hI
    show codeT _ _ _ [(0, .val (.int .i64 c)), (1, .val (.int .i64 p)), (2, .val (.int .i64 q)), (6, .val t6_p), (7, .val (.bool t7)), (9, .box 9 51 [.int .i64 (frA (sm9 c p q 10) (pw9 q 7)), .int .i64 (frB (sm9 c p q 10) (pw9 q 7))]), (10, .val (.bool ok)), (11, .own 30 26 2 list_n list_c), (31, .val (.agg (fl (chZ9 c p q (pw9 q 7) 10)))), (32, .val (.int .i64 t32))] _
    obtain ⟨i1, i2, rfl, rfl⟩ := hI
    have hpb := prt_bd (c := c) (a := digT.getD t32.toNat 0) hF
    refine code_seq (fun K8 hK8 => ?_)
    refine code_region ?_
    refine list_cons rfl (op_q (q_lt rfl rfl (by decide)) ?_)
    refine list_nil ?_
    refine hK8 _ ?_; clear hK8 K8
    refine code_seq (fun K9 hK9 => ?_)
    refine code_cond_d rfl (fun h2 => ?_) (fun h2 => ?_)
    · skip
      (try simp only [Decidable.not_not] at h2)
      refine code_skip ?_
      refine hK9 _ ?_; clear hK9 K9
      refine code_seq (fun K10 hK10 => ?_)
      refine code_block ?_
      refine code_seq (fun K11 hK11 => ?_)
      refine code_region ?_
      refine list_cons rfl (op_q (q_move rfl (by decide)) ?_)
      refine list_cons rfl (op_q (q_cast (q_index_arrA Tryd.underlying59 agg_51 rfl rfl (by omega) (by omega) (by decide)) (congrArg (fun z => SV.val (PV.agg z)) (by rw [fl_at _ _ (by rw [chZ9_len]; omega), chZ9_at _ _ _ _ (by omega)]))) ?_)
      refine list_cons rfl (op_alloc zt_51 (by decide) (by decide) rfl ?_)
      refine list_cons rfl (op_q (q_assign rfl (by decide)) ?_)
      refine list_cons rfl (op_store (agg_51).2 13 [13] (by intro t ht; simp only [List.mem_cons, List.not_mem_nil, or_false] at ht; subst ht; rfl) (.inr ⟨rfl, _, rfl⟩) rfl rfl rfl rfl (by first | rfl | exact flat_part (flat_map _ (fun _ => rfl) _) _ _ | exact flat_map _ (fun _ => rfl) _) (by first | rfl | (first | rfl | (simp [PV.cells, fl_len, chZ9_len]; done))) (by first | decide | omega | exact Nat.le_refl _ | (rw [fl_20]; omega) | (simp [fl_len, chZ9_len]; done) | (simp [fl_len, chZ9_len]; omega)) (by decide) rfl ?_)
      refine list_nil ?_
      refine hK11 _ ?_; clear hK11 K11
      refine codeT.imp (σ' := [(0, _), (1, _), (2, _), (6, _), (7, _), (9, _), (10, _), (11, _), (12, _), (13, _), (31, _), (32, _)]) ?_ (imp_covers ⟨rfl, rfl, rfl, rfl, rfl, rfl, rfl, rfl, rfl, rfl, rfl, rfl, trivial⟩)
      refine code_region ?_
      refine list_cons rfl (op_q (q_move rfl (by decide)) ?_)
      refine list_cons rfl (op_q (q_move rfl (by decide)) ?_)
      refine list_cons rfl (op_q (q_load_agg agg_51 13 (.inr ⟨rfl, _, rfl⟩) rfl rfl (by first | decide | omega | exact Nat.le_refl _ | (simp; done) | (simp; omega)) (by first | rfl | exact flat_part (fl_flat _) _ _) (by decide)) ?_)
      refine list_cons rfl (op_q (q_load_agg agg_51 9 (.inr ⟨rfl, _, rfl⟩) rfl rfl (by first | decide | omega | exact Nat.le_refl _ | (simp; done) | (simp; omega)) (by first | rfl | exact flat_part (fl_flat _) _ _) (by decide)) ?_)
      refine list_cons rfl (op_call _ (impl_overN (prt c (digT.getD t32.toNat 0) p q) (sm9 c p q 10) (pw9 q 7) (by omega) (by omega) (by omega)) rfl rfl (by decide) (by decide) (by decide) rfl ?_)
      rintro _ rfl
      refine list_cons rfl (op_q (q_indexAddr_own sl_33 rfl rfl (by omega) (by omega) (by decide)) ?_)
      refine list_cons rfl (op_store (agg_26).2 11 [11, 36] (by intro t ht; simp only [List.mem_cons, List.not_mem_nil, or_false] at ht; rcases ht with rfl | rfl <;> rfl) (.inl rfl) rfl rfl rfl rfl (by first | rfl | exact flat_part (flat_map _ (fun _ => rfl) _) _ _ | exact flat_map _ (fun _ => rfl) _) (by first | rfl | (first | rfl | (simp [PV.cells, fl_len, chZ9_len]; done))) (by first | decide | omega | exact Nat.le_refl _ | (rw [fl_20]; omega) | (simp [fl_len, chZ9_len]; done) | (simp [fl_len, chZ9_len]; omega)) (by decide) rfl ?_)
      refine list_nil ?_
      refine blk_n ?_
      refine hK10 _ ?_; clear hK10 K10
      refine codeT.imp (σ' := [(0, _), (1, _), (2, _), (6, _), (7, _), (9, _), (10, _), (11, _), (12, _), (13, _), (31, _), (32, _)]) ?_ (imp_covers ⟨rfl, rfl, rfl, rfl, rfl, rfl, rfl, rfl, rfl, rfl, rfl, rfl, trivial⟩)
      refine code_region ?_
      refine list_cons rfl (op_q (by first | exact q_addI rfl rfl (by decide) (by omega) (by omega) | exact q_ib rfl rfl rfl (by decide)) ?_)
      refine list_cons rfl (op_q (q_move rfl (by decide)) ?_)
      refine list_nil ?_
      refine then_n ⟨(_, _, _, _, _, _), imp_covers ⟨rfl, rfl, rfl, rfl, rfl, rfl, rfl, rfl, rfl, rfl, trivial⟩, ?_, ?_⟩
      · (try dsimp only)
        rw [show (t32 + 1).toNat = t32.toNat + 1 by omega]
        exact ⟨by omega, by omega, rfl, chZ9_putF c p q _ (by omega) rfl⟩
      · (try dsimp only); omega
    (try simp only [Decidable.not_not] at h2)
    refine code_exit ?_
    refine then_x ?_; clear hK9 K9
    refine then_x ?_
    refine blk_hit ?_
    refine hK6 _ ?_; clear hK6 K6
    refine code_seq (fun K12 hK12 => ?_)
    refine code_region ?_
    refine list_cons rfl (op_q (q_move rfl (by decide)) ?_)
    refine list_cons rfl (op_q (q_assign rfl (by decide)) ?_)
    refine list_cons rfl (op_q (q_assign rfl (by decide)) ?_)
    refine list_nil ?_
    refine hK12 _ ?_; clear hK12 K12
    refine code_ret ?_
    refine ends_ret (cs := []) rfl rfl rfl rfl trivial ?_
    first | (rw [show t32.toNat = 10 by omega, chZ9_end, chL_len]; done)

set_option maxRecDepth 8000 in
set_option maxHeartbeats 2000000 in
theorem impl_ChancesForZ (c p q : Int) (hC : 0 ≤ c ∧ c ≤ 127) (hF : FkP p q) (h0 : sm9 c p q 10 = 0) : PCalls Tryd.prog 18 [.int .i64 c, .int .i64 p, .int .i64 q] (· = [.own 0 26 2 0 [], .val (.bool false)]) := by
  refine pcalls_of_code (n := 44) az Tryd.func18 (by kernel_rfl) rfl rfl (Nat.le_of_ble_eq_true rfl) (by intro t u h; simp [Tryd.f18] at h) ?_
  have hqb := pw9_7 (x := q) (n := 7) (by have := hF.1; omega) (by have := hF.1; omega) (by omega)
  have hqp := pw9_pos (x := q) (by have := hF.1; omega) 7
  have hsb := sm9_bd (c := c) hF 10
  refine code_seq (fun K1 hK1 => ?_)
  refine code_region ?_
  refine list_cons rfl (op_q (q_assign rfl (by decide)) ?_)
  refine list_cons rfl (op_q (q_assign rfl (by decide)) ?_)
  refine list_nil ?_
  refine hK1 _ ?_; clear hK1 K1
  refine code_seq (fun K2 hK2 => ?_)
  refine code_region ?_
  refine list_cons rfl (op_q (q_move rfl (by decide)) ?_)
  refine list_cons rfl (op_q (q_move rfl (by decide)) ?_)
  refine list_cons rfl (op_q (q_move rfl (by decide)) ?_)
  refine list_cons rfl (op_call _ (impl_digitChancesY c p q hC hF) rfl rfl (by decide) (by decide) (by decide) rfl ?_)
  rintro _ rfl
  refine list_cons rfl (op_q (q_move rfl (by decide)) ?_)
  refine list_cons rfl (op_q (q_extract rfl rfl (by decide)) ?_)
  refine list_cons rfl (op_q (q_extract rfl rfl (by decide)) ?_)
  refine list_cons rfl (op_q (q_extract rfl rfl (by decide)) ?_)
  refine list_cons rfl (op_alloc zt_59 (by decide) (by decide) rfl ?_)
  refine list_cons rfl (op_alloc zt_51 (by decide) (by decide) rfl ?_)
  refine list_cons rfl (op_store (agg_59).2 8 [8] (by intro t ht; simp only [List.mem_cons, List.not_mem_nil, or_false] at ht; subst ht; rfl) (.inr ⟨rfl, _, rfl⟩) rfl rfl rfl rfl (by first | rfl | exact flat_part (flat_map _ (fun _ => rfl) _) _ _ | exact flat_map _ (fun _ => rfl) _) (by first | rfl | (first | rfl | (simp [PV.cells, fl_len, chZ9_len]; done))) (by first | decide | omega | exact Nat.le_refl _ | (rw [fl_20]; omega) | (simp [fl_len, chZ9_len]; done) | (simp [fl_len, chZ9_len]; omega)) (by decide) rfl ?_)
  refine list_cons rfl (op_store (agg_51).2 9 [9] (by intro t ht; simp only [List.mem_cons, List.not_mem_nil, or_false] at ht; subst ht; rfl) (.inr ⟨rfl, _, rfl⟩) rfl rfl rfl rfl (by first | rfl | exact flat_part (flat_map _ (fun _ => rfl) _) _ _ | exact flat_map _ (fun _ => rfl) _) (by first | rfl | (first | rfl | (simp [PV.cells, fl_len, chZ9_len]; done))) (by first | decide | omega | exact Nat.le_refl _ | (rw [fl_20]; omega) | (simp [fl_len, chZ9_len]; done) | (simp [fl_len, chZ9_len]; omega)) (by decide) rfl ?_)
  refine list_cons rfl (op_q (q_assign rfl (by decide)) ?_)
  refine list_nil ?_
  refine hK2 _ ?_; clear hK2 K2
  refine codeT.imp (σ' := [(0, _), (1, _), (2, _), (6, _), (7, _), (8, _), (9, _), (10, _)]) ?_ (imp_covers ⟨rfl, rfl, rfl, rfl, rfl, rfl, rfl, rfl, trivial⟩)
  refine code_seq (fun K3 hK3 => ?_)
  refine code_seq (fun K4 hK4 => ?_)
  refine code_region ?_
  refine list_cons rfl (op_q (q_move rfl (by decide)) ?_)
  refine list_cons rfl (op_q (by first | exact q_notd rfl (by decide) | exact q_not rfl (by decide)) ?_)
  refine list_cons rfl (op_q (q_move rfl (by decide)) ?_)
  refine list_guard_y rfl rfl rfl rfl (by decide) rfl ?_
  refine id (op_q (q_load_agg agg_51 9 (.inr ⟨rfl, _, rfl⟩) rfl rfl (by first | decide | omega | exact Nat.le_refl _ | (simp; done) | (simp; omega)) (by first | rfl | exact flat_part (fl_flat _) _ _) (by decide)) ?_)
  refine list_guard_y rfl rfl rfl rfl (by decide) rfl ?_
  refine id (op_q (q_load_agg_g agg_51 rfl (by decide) rfl (by decide)) ?_)
  refine list_guard_y rfl rfl rfl rfl (by decide) rfl ?_
  refine id (op_q (q_aggeq (by decide) agg_51 eqty_51 eqg_51 rfl rfl (by first | exact ⟨_, _, rfl, ⟨_, rfl⟩, ⟨_, _, rfl, ⟨_, rfl⟩, trivial⟩⟩) (by first | exact ⟨_, _, rfl, ⟨_, rfl⟩, ⟨_, _, rfl, ⟨_, rfl⟩, trivial⟩⟩) rfl rfl (by decide)) ?_)
  refine list_cons rfl (op_q (q_pick rfl rfl (by decide)) ?_)
  refine list_nil ?_
  refine hK4 _ ?_; clear hK4 K4
  refine code_cond_d rfl (fun h1 => ?_) (fun h1 => ?_)
  · skip
    (try simp only [Decidable.not_not] at h1)
    refine code_seq (fun K5 hK5 => ?_)
    refine code_region ?_
    refine list_cons rfl (op_buildSlice sl_33 (parts := []) rfl rfl rfl (by decide) (by decide) (by decide) rfl ?_)
    refine list_cons rfl (op_q (q_assign rfl (by decide)) ?_)
    refine list_cons rfl (op_q (q_assign rfl (by decide)) ?_)
    refine list_nil ?_
    refine hK5 _ ?_; clear hK5 K5
    refine codeT.imp (σ' := [(0, _), (1, _), (2, _), (6, _), (7, _), (8, _), (9, _), (10, _)]) ?_ (imp_covers ⟨rfl, rfl, rfl, rfl, rfl, rfl, rfl, rfl, trivial⟩)
    refine code_ret ?_
    refine then_r ?_; clear hK3 K3
    refine ends_ret (cs := []) rfl rfl rfl rfl trivial ?_
    first | rfl
  (try simp only [Decidable.not_not] at h1)
  exfalso
  have hz := (fr_zero (a := sm9 c p q 10) (n := pw9 q 7) (by omega) hqp).2 h0; exact h1 ⟨hz.1, hz.2, trivial⟩

set_option maxRecDepth 8000 in
set_option maxHeartbeats 2000000 in
theorem impl_ChancesForN (c p q : Int) (hW : ¬ ((0 ≤ c ∧ c ≤ 127) ∧ FkP p q)) : PCalls Tryd.prog 18 [.int .i64 c, .int .i64 p, .int .i64 q] (· = [.own 0 26 2 0 [], .val (.bool false)]) := by
  refine pcalls_of_code (n := 44) az Tryd.func18 (by kernel_rfl) rfl rfl (Nat.le_of_ble_eq_true rfl) (by intro t u h; simp [Tryd.f18] at h) ?_
  refine code_seq (fun K1 hK1 => ?_)
  refine code_region ?_
  refine list_cons rfl (op_q (q_assign rfl (by decide)) ?_)
  refine list_cons rfl (op_q (q_assign rfl (by decide)) ?_)
  refine list_nil ?_
  refine hK1 _ ?_; clear hK1 K1
  refine code_seq (fun K2 hK2 => ?_)
  refine code_region ?_
  refine list_cons rfl (op_q (q_move rfl (by decide)) ?_)
  refine list_cons rfl (op_q (q_move rfl (by decide)) ?_)
  refine list_cons rfl (op_q (q_move rfl (by decide)) ?_)
  refine list_cons rfl (op_call _ (impl_digitChancesN c p q hW) rfl rfl (by decide) (by decide) (by decide) rfl ?_)
  rintro _ rfl
  refine list_cons rfl (op_q (q_move rfl (by decide)) ?_)
  refine list_cons rfl (op_q (q_extract rfl rfl (by decide)) ?_)
  refine list_cons rfl (op_q (q_extract rfl rfl (by decide)) ?_)
  refine list_cons rfl (op_q (q_extract rfl rfl (by decide)) ?_)
  refine list_cons rfl (op_alloc zt_59 (by decide) (by decide) rfl ?_)
  refine list_cons rfl (op_alloc zt_51 (by decide) (by decide) rfl ?_)
  refine list_cons rfl (op_store (agg_59).2 8 [8] (by intro t ht; simp only [List.mem_cons, List.not_mem_nil, or_false] at ht; subst ht; rfl) (.inr ⟨rfl, _, rfl⟩) rfl rfl rfl rfl (by first | rfl | exact flat_part (flat_map _ (fun _ => rfl) _) _ _ | exact flat_map _ (fun _ => rfl) _) (by first | rfl | (first | rfl | (simp [PV.cells, fl_len, chZ9_len]; done))) (by first | decide | omega | exact Nat.le_refl _ | (rw [fl_20]; omega) | (simp [fl_len, chZ9_len]; done) | (simp [fl_len, chZ9_len]; omega)) (by decide) rfl ?_)
  refine list_cons rfl (op_store (agg_51).2 9 [9] (by intro t ht; simp only [List.mem_cons, List.not_mem_nil, or_false] at ht; subst ht; rfl) (.inr ⟨rfl, _, rfl⟩) rfl rfl rfl rfl (by first | rfl | exact flat_part (flat_map _ (fun _ => rfl) _) _ _ | exact flat_map _ (fun _ => rfl) _) (by first | rfl | (first | rfl | (simp [PV.cells, fl_len, chZ9_len]; done))) (by first | decide | omega | exact Nat.le_refl _ | (rw [fl_20]; omega) | (simp [fl_len, chZ9_len]; done) | (simp [fl_len, chZ9_len]; omega)) (by decide) rfl ?_)
  refine list_cons rfl (op_q (q_assign rfl (by decide)) ?_)
  refine list_nil ?_
  refine hK2 _ ?_; clear hK2 K2
  refine codeT.imp (σ' := [(0, _), (1, _), (2, _), (6, _), (7, _), (8, _), (9, _), (10, _)]) ?_ (imp_covers ⟨rfl, rfl, rfl, rfl, rfl, rfl, rfl, rfl, trivial⟩)
  refine code_seq (fun K3 hK3 => ?_)
  refine code_seq (fun K4 hK4 => ?_)
  refine code_region ?_
  refine list_cons rfl (op_q (q_move rfl (by decide)) ?_)
  refine list_cons rfl (op_q (by first | exact q_notd rfl (by decide) | exact q_not rfl (by decide)) ?_)
  refine list_cons rfl (op_q (q_move rfl (by decide)) ?_)
  refine list_guard_n rfl rfl rfl rfl (by decide) rfl ?_
  refine list_guard_n rfl rfl rfl rfl (by decide) rfl ?_
  refine list_guard_n rfl rfl rfl rfl (by decide) rfl ?_
  refine list_cons rfl (op_q (q_pick rfl rfl (by decide)) ?_)
  refine list_nil ?_
  refine hK4 _ ?_; clear hK4 K4
  refine code_cond_t rfl ?_
  refine code_seq (fun K5 hK5 => ?_)
  refine code_region ?_
  refine list_cons rfl (op_buildSlice sl_33 (parts := []) rfl rfl rfl (by decide) (by decide) (by decide) rfl ?_)
  refine list_cons rfl (op_q (q_assign rfl (by decide)) ?_)
  refine list_cons rfl (op_q (q_assign rfl (by decide)) ?_)
  refine list_nil ?_
  refine hK5 _ ?_; clear hK5 K5
  refine code_ret ?_
  refine then_r ?_; clear hK3 K3
  refine ends_ret (cs := []) rfl rfl rfl rfl trivial ?_
  first | rfl

theorem impl_ChancesFor (c p q : Int) : PCalls Tryd.prog 18 [.int .i64 c, .int .i64 p, .int .i64 q] (· = [.own 0 26 2 (if ((0 ≤ c ∧ c ≤ 127) ∧ FkP p q) ∧ 0 < sm9 c p q 10 then chL c p q (sm9 c p q 10) 10 else []).length (fl (if ((0 ≤ c ∧ c ≤ 127) ∧ FkP p q) ∧ 0 < sm9 c p q 10 then chL c p q (sm9 c p q 10) 10 else [])), .val (.bool (decide (((0 ≤ c ∧ c ≤ 127) ∧ FkP p q) ∧ 0 < sm9 c p q 10)))]) := by
  by_cases hW : ((0 ≤ c ∧ c ≤ 127) ∧ FkP p q)
  · have hb := sm9_bd (c := c) hW.2 10
    by_cases h0 : 0 < sm9 c p q 10
    · have e : ((0 ≤ c ∧ c ≤ 127) ∧ FkP p q) ∧ 0 < sm9 c p q 10 := ⟨hW, h0⟩
      simp only [if_pos e, decide_eq_true e]; exact impl_ChancesForY c p q hW.1 hW.2 h0
    · have e : ¬ (((0 ≤ c ∧ c ≤ 127) ∧ FkP p q) ∧ 0 < sm9 c p q 10) := fun k => h0 k.2
      simp only [if_neg e, decide_eq_false e]; exact impl_ChancesForZ c p q hW.1 hW.2 (by omega)
  · have e : ¬ (((0 ≤ c ∧ c ≤ 127) ∧ FkP p q) ∧ 0 < sm9 c p q 10) := fun k => hW k.1
    simp only [if_neg e, decide_eq_false e]; exact impl_ChancesForN c p q hW

end Go.Proofs.YtmjgkhfjhedpkaaDoor
