/- Contracts of functions, walked over the pure layer; each says for which arguments. -/
import Derived.Test.YtbddhdbieelpjaaDoore3Ty
import Derived.Test.YtbddhdbieelpjaaDoorTf
import Derived.Test.YtbddhdbieelpjaaDoore1
import Derived.Test.YtbddhdbieelpjaaDoorShelf
import Derived.Test.YtbddhdbieelpjaaDoore2
namespace Go.Proofs.YtbddhdbieelpjaaDoor
open Go.RowKit e3Ty
set_option linter.unusedVariables false
set_option linter.unusedSimpArgs false

theorem res_agg9 {az : TypeId → Nat} {σ : St} {t u l e : Nat} {cs : List PV} (h : σ.at t = some (.box l e cs)) (haz : (az u == 0) = false) (hf : PV.flatL cs = true) (hl : cs.length = az u) : St.res az σ [.cell t u] = some [.val (.agg cs)] := by
  unfold St.res
  rw [h, show St.res az σ [] = some [] from rfl]
  simp only [haz, Bool.false_eq_true, if_false]
  rw [hf, hl]
  simp
theorem mul_bd9 {a b m n : Int} (ha : 0 ≤ a ∧ a ≤ m) (hb : 0 ≤ b ∧ b ≤ n) : 0 ≤ a * b ∧ a * b ≤ m * n := ⟨Int.mul_nonneg ha.1 hb.1, Int.mul_le_mul ha.2 hb.2 hb.1 (by omega)⟩
theorem mul_pos9 {a b : Int} (ha : 1 ≤ a) (hb : 1 ≤ b) : 1 ≤ a * b := by
  have := Int.mul_le_mul ha hb (by omega) (by omega)
  simpa using this


set_option maxRecDepth 8000 in
set_option maxHeartbeats 2000000 in
theorem impl_fractionOf (a b : Int) (ha : 0 ≤ a ∧ a ≤ 4611686018427387904) (hb : 1 ≤ b ∧ b ≤ 4611686018427387904) : PCalls Tryd.prog 56 [.int .i64 a, .int .i64 b] (· = [.val (.agg [.int .i64 (frA (a) (b)), .int .i64 (frB (a) (b))])]) := by
  refine pcalls_of_code (n := 22) az Tryd.func56 (by kernel_rfl) rfl rfl (Nat.le_of_ble_eq_true rfl) (by intro t u h; simp [Tryd.f56] at h; obtain ⟨_, rfl⟩ := h <;> first | exact resTy_agg agg_62 (by decide)) ?_
  refine code_seq (fun K1 hK1 => ?_)
  refine code_region ?_
  refine list_cons rfl (op_alloc zt_62 (by decide) (by decide) rfl ?_)
  refine list_nil ?_
  refine hK1 _ ?_; clear hK1 K1
  refine code_seq (fun K2 hK2 => ?_)
  refine code_region ?_
  refine list_cons rfl (op_q (q_move rfl (by decide)) ?_)
  refine list_cons rfl (op_q (q_move rfl (by decide)) ?_)
  refine list_cons rfl (op_q (q_assign rfl (by decide)) ?_)
  refine list_cons rfl (op_q (q_assign rfl (by decide)) ?_)
  refine list_nil ?_
  refine hK2 _ ?_; clear hK2 K2
  refine code_seq (fun K3 hK3 => ?_)
  refine code_block ?_
  refine code_loop (X := Int × Int) (fun x => [(0, .val (.int .i64 a)), (1, .val (.int .i64 b)), (4, .box 4 62 [.int .i64 0, .int .i64 0]), (5, .val (.int .i64 x.1)), (6, .val (.int .i64 x.2))]) (fun x => 0 ≤ x.1 ∧ 0 ≤ x.2 ∧ Nat.gcd x.1.toNat x.2.toNat = Nat.gcd a.toNat b.toNat) (fun x => x.2.toNat) (_, _) (imp_covers ⟨rfl, rfl, rfl, rfl, rfl, trivial⟩) ?_ ?_
  · (try dsimp only)
    exact ⟨by omega, by omega, Nat.gcd_comm _ _⟩
  · intro x hI
    obtain ⟨divisor, rest⟩ := x
    replace hI : 0 ≤ divisor ∧ 0 ≤ rest ∧ Nat.gcd divisor.toNat rest.toNat = Nat.gcd a.toNat b.toNat := hI
    show codeT _ _ _ [(0, .val (.int .i64 a)), (1, .val (.int .i64 b)), (4, .box 4 62 [.int .i64 0, .int .i64 0]), (5, .val (.int .i64 divisor)), (6, .val (.int .i64 rest))] _
    obtain ⟨i1, i2, i3⟩ := hI
    refine code_seq (fun K4 hK4 => ?_)
    refine code_seq (fun K5 hK5 => ?_)
    refine code_region ?_
    refine list_cons rfl (op_q (q_move rfl (by decide)) ?_)
    refine list_cons rfl (op_q (q_ne rfl rfl (by decide)) ?_)
    refine list_nil ?_
    refine hK5 _ ?_; clear hK5 K5
    refine code_cond_d rfl (fun h1 => ?_) (fun h1 => ?_)
    · skip
      (try simp only [Decidable.not_not] at h1); (try have hy : rest = 0 := by assumption); (try subst hy); (try have hx := gcd_end9 i3 i1); (try have hg := gcd_pos9 (a := a) hb.1)
      refine code_skip ?_
      refine hK4 _ ?_; clear hK4 K4
      refine code_block ?_
      refine code_draw (by kernel_rfl) (by kernel_rfl) ?_
      refine draw_q rfl (q_move rfl (by decide)) ?_
      refine draw_q rfl (q_move rfl (by decide)) ?_
      refine draw_q rfl (q_move rfl (by decide)) ?_
      refine draw_q rfl (by first | exact q_remI rfl rfl (by decide) (by omega) (by omega) | exact q_rem rfl rfl (by omega) (by decide)) ?_
      refine draw_q rfl (q_assign rfl (by decide)) ?_
      refine draw_q rfl (q_assign rfl (by decide)) ?_
      refine draw_nil ?_
      refine blk_n ?_
      refine then_n ⟨(_, _), imp_covers ⟨rfl, rfl, rfl, rfl, rfl, trivial⟩, ?_, ?_⟩
      · (try dsimp only)
        exact ⟨by omega, Int.emod_nonneg _ (by omega), gcd_stepI i1 i2 i3⟩
      · have := Int.emod_lt_of_pos divisor (show 0 < rest by omega); (try dsimp only); omega
    (try simp only [Decidable.not_not] at h1); (try have hy : rest = 0 := by assumption); (try subst hy); (try have hx := gcd_end9 i3 i1); (try have hg := gcd_pos9 (a := a) hb.1)
    refine code_exit ?_
    refine then_x ?_; clear hK4 K4
    refine then_x ?_
    refine blk_hit ?_
    refine hK3 _ ?_; clear hK3 K3
    refine code_seq (fun K6 hK6 => ?_)
    refine any_start fun ob1_0 => ?_
    refine any_op (rd := [0]) ob1_0 rfl rfl rfl (anyT_quiet [(0, _)] ⟨rfl, trivial⟩ rfl (q_move rfl (by decide))) (fun ob1_1 => ?_)
    refine any_op (rd := [5]) ob1_1 rfl rfl rfl (anyT_quiet [(5, _)] ⟨rfl, trivial⟩ rfl (q_move rfl (by decide))) (fun ob1_2 => ?_)
    refine any_op (rd := [15, 16]) ob1_2 rfl rfl rfl (anyT_quiet [(15, _), (16, _)] ⟨rfl, rfl, trivial⟩ rfl (by first | exact q_quoI rfl rfl (by decide) (by omega) (by omega) (by omega) | exact q_quoT rfl rfl (by omega) (by decide) (by omega) (by omega) | exact q_quo rfl rfl (by omega) (by decide))) (fun ob1_3 => ?_)
    refine any_op (rd := [1]) ob1_3 rfl rfl rfl (anyT_quiet [(1, _)] ⟨rfl, trivial⟩ rfl (q_move rfl (by decide))) (fun ob1_4 => ?_)
    refine any_op (rd := [5]) ob1_4 rfl rfl rfl (anyT_quiet [(5, _)] ⟨rfl, trivial⟩ rfl (q_move rfl (by decide))) (fun ob1_5 => ?_)
    refine any_op (rd := [18, 19]) ob1_5 rfl rfl rfl (anyT_quiet [(18, _), (19, _)] ⟨rfl, rfl, trivial⟩ rfl (by first | exact q_quoI rfl rfl (by decide) (by omega) (by omega) (by omega) | exact q_quoT rfl rfl (by omega) (by decide) (by omega) (by omega) | exact q_quo rfl rfl (by omega) (by decide))) (fun ob1_6 => ?_)
    refine any_end [[], [], [0, 1], [], [], [3, 4], [0, 1, 2, 3, 4, 5], [0, 1, 2, 3, 4, 5, 6]] ob1_6 (by kernel_rfl) (Nat.le_of_ble_eq_true rfl) (by decide) (by decide) (by kernel_rfl) (by kernel_rfl) (by kernel_rfl) (by kernel_rfl) (by kernel_rfl) ?_
    clear ob1_0 ob1_1 ob1_2 ob1_3 ob1_4 ob1_5 ob1_6
    refine listT.imp (σ' := [(0, _), (1, _), (4, _), (5, _), (6, _), (9, _), (10, _), (15, _), (16, _), (17, _), (18, _), (19, _), (20, _)]) ?_ (imp_covers ⟨rfl, rfl, rfl, rfl, rfl, rfl, rfl, rfl, rfl, rfl, rfl, rfl, rfl, trivial⟩)
    refine list_cons rfl (op_q (q_build bt_62 (parts := [(0, .tmp 17), (1, .tmp 20)]) rfl rfl (by decide)) ?_)
    refine list_cons rfl (op_store (agg_62).2 4 [4] (by intro t ht; simp only [List.mem_cons, List.not_mem_nil, or_false] at ht; subst ht; rfl) (.inr ⟨rfl, _, rfl⟩) rfl rfl rfl rfl (by first | rfl | exact flat_part (flat_map _ (fun _ => rfl) _) _ _ | exact flat_map _ (fun _ => rfl) _) (by first | rfl | (simp [PV.cells]; done)) (by first | decide | omega | exact Nat.le_refl _ | (simp; done) | (simp; omega)) (by decide) rfl ?_)
    refine list_nil ?_
    refine hK6 _ ?_; clear hK6 K6
    refine codeT.imp (σ' := [(0, _), (1, _), (4, _), (5, _), (6, _)]) ?_ (imp_covers ⟨rfl, rfl, rfl, rfl, rfl, trivial⟩)
    refine code_ret ?_
    refine ends_ret (cs := []) rfl rfl rfl rfl trivial ?_
    subst hx
    rw [frA_div ha.1, frB_div (by omega)]
    rfl

set_option maxRecDepth 4000 in
theorem impl_toPower (z n : Int) (h0 : 0 ≤ z) (h1 : z ≤ 10) (hn : n ≤ 7) : PCalls Tryd.prog 57 [.int .i64 z, .int .i64 n] (· = [.val (.int .i64 (pw9 z n.toNat))]) := by
  refine pcalls_of_code (n := 14) az Tryd.func57 (by kernel_rfl) rfl rfl (Nat.le_of_ble_eq_true rfl) (by intro t u h; simp [Tryd.f57] at h) ?_
  refine code_seq (fun K1 hK1 => ?_)
  refine code_region ?_
  refine list_cons rfl (op_q (q_assign rfl (by decide)) ?_)
  refine list_nil ?_
  refine hK1 _ ?_; clear hK1 K1
  refine code_seq (fun K2 hK2 => ?_)
  refine code_region ?_
  refine list_cons rfl (op_q (q_assign rfl (by decide)) ?_)
  refine list_nil ?_
  refine hK2 _ ?_; clear hK2 K2
  refine code_seq (fun K3 hK3 => ?_)
  refine code_seq (fun K4 hK4 => ?_)
  refine code_region ?_
  refine list_cons rfl (op_q (q_move rfl (by decide)) ?_)
  refine list_cons rfl (op_q (q_move rfl (by decide)) ?_)
  refine list_nil ?_
  refine hK4 _ ?_; clear hK4 K4
  refine code_block ?_
  refine code_loop (X := Int × Int × Int) (fun x => [(0, .val (.int .i64 z)), (1, .val (.int .i64 n)), (4, .val (.int .i64 x.1)), (5, .val (.int .i64 x.2.1)), (6, .val (.int .i64 n)), (7, .val (.int .i64 x.2.2))]) (fun x => 0 ≤ x.2.2 ∧ x.2.2 ≤ max n 0 ∧ x.2.1 = pw9 z x.2.2.toNat) (fun x => (n - x.2.2).toNat) (_, _, _) (imp_covers ⟨rfl, rfl, rfl, rfl, rfl, rfl, trivial⟩) ?_ ?_
  · (try dsimp only)
    exact ⟨by omega, by omega, rfl⟩
  · intro x hI
    obtain ⟨t4, product, t7⟩ := x
    replace hI : 0 ≤ t7 ∧ t7 ≤ max n 0 ∧ product = pw9 z t7.toNat := hI
    show codeT _ _ _ [(0, .val (.int .i64 z)), (1, .val (.int .i64 n)), (4, .val (.int .i64 t4)), (5, .val (.int .i64 product)), (6, .val (.int .i64 n)), (7, .val (.int .i64 t7))] _
    obtain ⟨i1, i2, rfl⟩ := hI
    have hb := pw9_7 h0 h1 (n := t7.toNat) (by omega)
    have hm1 := Int.mul_nonneg hb.1 h0
    have hm2 := Int.mul_le_mul hb.2 h1 h0 (by omega)
    refine code_seq (fun K5 hK5 => ?_)
    refine code_region ?_
    refine list_cons rfl (op_q (q_lt rfl rfl (by decide)) ?_)
    refine list_nil ?_
    refine hK5 _ ?_; clear hK5 K5
    refine code_seq (fun K6 hK6 => ?_)
    refine code_cond_d rfl (fun h1 => ?_) (fun h1 => ?_)
    · skip
      (try simp only [Decidable.not_not] at h1)
      refine code_skip ?_
      refine hK6 _ ?_; clear hK6 K6
      refine code_seq (fun K7 hK7 => ?_)
      refine code_block ?_
      refine code_region ?_
      refine list_cons rfl (op_q (q_move rfl (by decide)) ?_)
      refine list_cons rfl (op_q (q_move rfl (by decide)) ?_)
      refine list_cons rfl (op_q (by first | exact q_mulI rfl rfl (by decide) (by omega) (by omega) | exact q_ib rfl rfl rfl (by decide)) ?_)
      refine list_cons rfl (op_q (q_assign rfl (by decide)) ?_)
      refine list_nil ?_
      refine blk_n ?_
      refine hK7 _ ?_; clear hK7 K7
      refine code_region ?_
      refine list_cons rfl (op_q (by first | exact q_addI rfl rfl (by decide) (by omega) (by omega) | exact q_ib rfl rfl rfl (by decide)) ?_)
      refine list_cons rfl (op_q (q_move rfl (by decide)) ?_)
      refine list_nil ?_
      refine then_n ⟨(_, _, _), imp_covers ⟨rfl, rfl, rfl, rfl, rfl, rfl, trivial⟩, ?_, ?_⟩
      · (try dsimp only)
        exact ⟨by omega, by omega, by rw [show (t7 + 1).toNat = t7.toNat + 1 by omega]; rfl⟩
      · (try dsimp only); omega
    (try simp only [Decidable.not_not] at h1)
    refine code_exit ?_
    refine then_x ?_; clear hK6 K6
    refine then_x ?_
    refine blk_hit ?_
    refine hK3 _ ?_; clear hK3 K3
    refine code_seq (fun K8 hK8 => ?_)
    refine code_region ?_
    refine list_cons rfl (op_q (q_move rfl (by decide)) ?_)
    refine list_cons rfl (op_q (q_assign rfl (by decide)) ?_)
    refine list_nil ?_
    refine hK8 _ ?_; clear hK8 K8
    refine code_ret ?_
    refine ends_ret (cs := []) rfl rfl rfl rfl trivial ?_
    rw [show t7.toNat = n.toNat by omega]

set_option maxRecDepth 8000 in
set_option maxHeartbeats 2000000 in
theorem impl_meanOf0 (f : FuncId) (g : Nat → Int) (n : Int) (hn : 1 ≤ n ∧ n ≤ 10000) (hg : ∀ i, i < n.toNat → 0 ≤ g i ∧ g i ≤ 1000) (hf : ∀ i : Nat, i < n.toNat → PCalls Tryd.prog f [.int .i64 (i : Int)] (· = [.val (.int .i64 (g i))])) : PCalls Tryd.prog 71 [.int .i64 n, .clo f []] (· = [.val (.agg [.int .i64 (frA (sumI g n.toNat) (n)), .int .i64 (frB (sumI g n.toNat) (n))])]) := by
  refine pcalls_of_code (n := 20) az Tryd.func71 (by kernel_rfl) rfl rfl (Nat.le_of_ble_eq_true rfl) (by intro t u h; simp [Tryd.f71] at h; obtain ⟨_, rfl⟩ := h <;> first | exact resTy_agg agg_62 (by decide)) ?_
  refine code_seq (fun K1 hK1 => ?_)
  refine code_region ?_
  refine list_cons rfl (op_alloc zt_62 (by decide) (by decide) rfl ?_)
  refine list_nil ?_
  refine hK1 _ ?_; clear hK1 K1
  refine code_seq (fun K2 hK2 => ?_)
  refine code_region ?_
  refine list_cons rfl (op_q (q_assign rfl (by decide)) ?_)
  refine list_nil ?_
  refine hK2 _ ?_; clear hK2 K2
  refine code_seq (fun K3 hK3 => ?_)
  refine code_seq (fun K4 hK4 => ?_)
  refine code_region ?_
  refine list_cons rfl (op_q (q_move rfl (by decide)) ?_)
  refine list_cons rfl (op_q (q_move rfl (by decide)) ?_)
  refine list_nil ?_
  refine hK4 _ ?_; clear hK4 K4
  refine code_block ?_
  refine code_loop (X := Int × Int) (fun x => [(0, .val (.int .i64 n)), (1, .val (.clo f [])), (4, .box 4 62 [.int .i64 0, .int .i64 0]), (5, .val (.int .i64 x.1)), (7, .val (.int .i64 n)), (8, .val (.int .i64 x.2))]) (fun x => 0 ≤ x.2 ∧ x.2 ≤ n ∧ x.1 = sumI g x.2.toNat) (fun x => (n - x.2).toNat) (_, _) (imp_covers ⟨rfl, rfl, rfl, rfl, rfl, rfl, trivial⟩) ?_ ?_
  · (try dsimp only)
    exact ⟨by omega, by omega, rfl⟩
  · intro x hI
    obtain ⟨sum, t8⟩ := x
    replace hI : 0 ≤ t8 ∧ t8 ≤ n ∧ sum = sumI g t8.toNat := hI
    show codeT _ _ _ [(0, .val (.int .i64 n)), (1, .val (.clo f [])), (4, .box 4 62 [.int .i64 0, .int .i64 0]), (5, .val (.int .i64 sum)), (7, .val (.int .i64 n)), (8, .val (.int .i64 t8))] _
    obtain ⟨i1, i2, i3⟩ := hI
    have hsb := sumI_bd' (f := g) (m := 1000) t8.toNat (fun i hi => hg i (by omega))
    have hgi := fun e : t8 < n => hg t8.toNat (by omega)
    have ht8 : ((t8.toNat : Nat) : Int) = t8 := Int.toNat_of_nonneg i1
    refine code_seq (fun K5 hK5 => ?_)
    refine code_region ?_
    refine list_cons rfl (op_q (q_lt rfl rfl (by decide)) ?_)
    refine list_nil ?_
    refine hK5 _ ?_; clear hK5 K5
    refine code_seq (fun K6 hK6 => ?_)
    refine code_cond_d rfl (fun h1 => ?_) (fun h1 => ?_)
    · skip
      (try simp only [Decidable.not_not] at h1); (try have hgj := hgi h1); (try have hfj := hf t8.toNat (by omega)); (try rw [ht8] at hfj)
      refine code_skip ?_
      refine hK6 _ ?_; clear hK6 K6
      refine code_seq (fun K7 hK7 => ?_)
      refine code_block ?_
      refine code_seq (fun K8 hK8 => ?_)
      refine code_region ?_
      refine list_cons rfl (op_q (q_move rfl (by decide)) ?_)
      refine list_cons rfl (op_q (q_assign rfl (by decide)) ?_)
      refine list_nil ?_
      refine hK8 _ ?_; clear hK8 K8
      refine code_region ?_
      refine list_cons rfl (op_q (q_move rfl (by decide)) ?_)
      refine list_cons rfl (op_q (q_move rfl (by decide)) ?_)
      refine list_cons rfl (op_q (q_move rfl (by decide)) ?_)
      refine list_cons rfl (op_callF _ rfl rfl (hfj) rfl rfl (by decide) (by decide) (by decide) rfl ?_)
      rintro _ _ rfl
      refine list_cons rfl (op_q (by first | exact q_addI rfl rfl (by decide) (by omega) (by omega) | exact q_ib rfl rfl rfl (by decide)) ?_)
      refine list_cons rfl (op_q (q_assign rfl (by decide)) ?_)
      refine list_nil ?_
      refine blk_n ?_
      refine hK7 _ ?_; clear hK7 K7
      refine codeT.imp (σ' := [(0, _), (1, _), (4, _), (5, _), (6, _), (7, _), (8, _)]) ?_ (imp_covers ⟨rfl, rfl, rfl, rfl, rfl, rfl, rfl, trivial⟩)
      refine code_region ?_
      refine list_cons rfl (op_q (by first | exact q_addI rfl rfl (by decide) (by omega) (by omega) | exact q_ib rfl rfl rfl (by decide)) ?_)
      refine list_cons rfl (op_q (q_move rfl (by decide)) ?_)
      refine list_nil ?_
      refine then_n ⟨(_, _), imp_covers ⟨rfl, rfl, rfl, rfl, rfl, rfl, trivial⟩, ?_, ?_⟩
      · (try dsimp only)
        exact ⟨by omega, by omega, by rw [sumI_1 i1, i3]⟩
      · (try dsimp only); omega
    (try simp only [Decidable.not_not] at h1); (try have hgj := hgi h1); (try have hfj := hf t8.toNat (by omega)); (try rw [ht8] at hfj)
    refine code_exit ?_
    refine then_x ?_; clear hK6 K6
    refine then_x ?_
    refine blk_hit ?_
    refine hK3 _ ?_; clear hK3 K3
    refine code_seq (fun K9 hK9 => ?_)
    refine code_region ?_
    refine list_cons rfl (op_q (q_move rfl (by decide)) ?_)
    refine list_cons rfl (op_q (q_move rfl (by decide)) ?_)
    refine list_cons rfl (op_call _ (impl_fractionOf _ _ (by omega) (by omega)) rfl rfl (by decide) (by decide) (by decide) rfl ?_)
    rintro _ rfl
    refine list_cons rfl (op_store (agg_62).2 4 [4] (by intro t ht; simp only [List.mem_cons, List.not_mem_nil, or_false] at ht; subst ht; rfl) (.inr ⟨rfl, _, rfl⟩) rfl rfl rfl rfl (by first | rfl | exact flat_part (flat_map _ (fun _ => rfl) _) _ _ | exact flat_map _ (fun _ => rfl) _) (by first | rfl | (simp [PV.cells]; done)) (by first | decide | omega | exact Nat.le_refl _ | (simp; done) | (simp; omega)) (by decide) rfl ?_)
    refine list_nil ?_
    refine hK9 _ ?_; clear hK9 K9
    refine codeT.imp (σ' := [(0, _), (1, _), (4, _), (5, _), (7, _), (8, _)]) ?_ (imp_covers ⟨rfl, rfl, rfl, rfl, rfl, rfl, trivial⟩)
    refine code_ret ?_
    refine ends_ret (cs := []) rfl rfl rfl rfl trivial ?_
    first | (rw [i3, show t8.toNat = n.toNat by omega]; rfl)

set_option maxRecDepth 8000 in
set_option maxHeartbeats 2000000 in
theorem impl_meanOfI (f : FuncId) (g : Nat → Int) (n : Int) (hn : 1 ≤ n ∧ n ≤ 10000) (hg : ∀ i, i < n.toNat → 0 ≤ g i ∧ g i ≤ 1000) (r : Int) (hf : ∀ i : Nat, i < n.toNat → PCalls Tryd.prog f [.int .i64 r, .int .i64 (i : Int)] (· = [.val (.int .i64 (g i))])) : PCalls Tryd.prog 71 [.int .i64 n, .mth f [.int .i64 r]] (· = [.val (.agg [.int .i64 (frA (sumI g n.toNat) (n)), .int .i64 (frB (sumI g n.toNat) (n))])]) := by
  refine pcalls_of_code (n := 20) az Tryd.func71 (by kernel_rfl) rfl rfl (Nat.le_of_ble_eq_true rfl) (by intro t u h; simp [Tryd.f71] at h; obtain ⟨_, rfl⟩ := h <;> first | exact resTy_agg agg_62 (by decide)) ?_
  refine code_seq (fun K1 hK1 => ?_)
  refine code_region ?_
  refine list_cons rfl (op_alloc zt_62 (by decide) (by decide) rfl ?_)
  refine list_nil ?_
  refine hK1 _ ?_; clear hK1 K1
  refine code_seq (fun K2 hK2 => ?_)
  refine code_region ?_
  refine list_cons rfl (op_q (q_assign rfl (by decide)) ?_)
  refine list_nil ?_
  refine hK2 _ ?_; clear hK2 K2
  refine code_seq (fun K3 hK3 => ?_)
  refine code_seq (fun K4 hK4 => ?_)
  refine code_region ?_
  refine list_cons rfl (op_q (q_move rfl (by decide)) ?_)
  refine list_cons rfl (op_q (q_move rfl (by decide)) ?_)
  refine list_nil ?_
  refine hK4 _ ?_; clear hK4 K4
  refine code_block ?_
  refine code_loop (X := Int × Int) (fun x => [(0, .val (.int .i64 n)), (1, .val (.mth f [.int .i64 r])), (4, .box 4 62 [.int .i64 0, .int .i64 0]), (5, .val (.int .i64 x.1)), (7, .val (.int .i64 n)), (8, .val (.int .i64 x.2))]) (fun x => 0 ≤ x.2 ∧ x.2 ≤ n ∧ x.1 = sumI g x.2.toNat) (fun x => (n - x.2).toNat) (_, _) (imp_covers ⟨rfl, rfl, rfl, rfl, rfl, rfl, trivial⟩) ?_ ?_
  · (try dsimp only)
    exact ⟨by omega, by omega, rfl⟩
  · intro x hI
    obtain ⟨sum, t8⟩ := x
    replace hI : 0 ≤ t8 ∧ t8 ≤ n ∧ sum = sumI g t8.toNat := hI
    show codeT _ _ _ [(0, .val (.int .i64 n)), (1, .val (.mth f [.int .i64 r])), (4, .box 4 62 [.int .i64 0, .int .i64 0]), (5, .val (.int .i64 sum)), (7, .val (.int .i64 n)), (8, .val (.int .i64 t8))] _
    obtain ⟨i1, i2, i3⟩ := hI
    have hsb := sumI_bd' (f := g) (m := 1000) t8.toNat (fun i hi => hg i (by omega))
    have hgi := fun e : t8 < n => hg t8.toNat (by omega)
    have ht8 : ((t8.toNat : Nat) : Int) = t8 := Int.toNat_of_nonneg i1
    refine code_seq (fun K5 hK5 => ?_)
    refine code_region ?_
    refine list_cons rfl (op_q (q_lt rfl rfl (by decide)) ?_)
    refine list_nil ?_
    refine hK5 _ ?_; clear hK5 K5
    refine code_seq (fun K6 hK6 => ?_)
    refine code_cond_d rfl (fun h1 => ?_) (fun h1 => ?_)
    · skip
      (try simp only [Decidable.not_not] at h1); (try have hgj := hgi h1); (try have hfj := hf t8.toNat (by omega)); (try rw [ht8] at hfj)
      refine code_skip ?_
      refine hK6 _ ?_; clear hK6 K6
      refine code_seq (fun K7 hK7 => ?_)
      refine code_block ?_
      refine code_seq (fun K8 hK8 => ?_)
      refine code_region ?_
      refine list_cons rfl (op_q (q_move rfl (by decide)) ?_)
      refine list_cons rfl (op_q (q_assign rfl (by decide)) ?_)
      refine list_nil ?_
      refine hK8 _ ?_; clear hK8 K8
      refine code_region ?_
      refine list_cons rfl (op_q (q_move rfl (by decide)) ?_)
      refine list_cons rfl (op_q (q_move rfl (by decide)) ?_)
      refine list_cons rfl (op_q (q_move rfl (by decide)) ?_)
      refine list_cons rfl (op_callW _ rfl rfl rfl rfl (pcV (hfj)) (by decide) ?_)
      rintro _ rfl
      refine list_cons rfl (op_q (by first | exact q_addI rfl rfl (by decide) (by omega) (by omega) | exact q_ib rfl rfl rfl (by decide)) ?_)
      refine list_cons rfl (op_q (q_assign rfl (by decide)) ?_)
      refine list_nil ?_
      refine blk_n ?_
      refine hK7 _ ?_; clear hK7 K7
      refine codeT.imp (σ' := [(0, _), (1, _), (4, _), (5, _), (6, _), (7, _), (8, _)]) ?_ (imp_covers ⟨rfl, rfl, rfl, rfl, rfl, rfl, rfl, trivial⟩)
      refine code_region ?_
      refine list_cons rfl (op_q (by first | exact q_addI rfl rfl (by decide) (by omega) (by omega) | exact q_ib rfl rfl rfl (by decide)) ?_)
      refine list_cons rfl (op_q (q_move rfl (by decide)) ?_)
      refine list_nil ?_
      refine then_n ⟨(_, _), imp_covers ⟨rfl, rfl, rfl, rfl, rfl, rfl, trivial⟩, ?_, ?_⟩
      · (try dsimp only)
        exact ⟨by omega, by omega, by rw [sumI_1 i1, i3]⟩
      · (try dsimp only); omega
    (try simp only [Decidable.not_not] at h1); (try have hgj := hgi h1); (try have hfj := hf t8.toNat (by omega)); (try rw [ht8] at hfj)
    refine code_exit ?_
    refine then_x ?_; clear hK6 K6
    refine then_x ?_
    refine blk_hit ?_
    refine hK3 _ ?_; clear hK3 K3
    refine code_seq (fun K9 hK9 => ?_)
    refine code_region ?_
    refine list_cons rfl (op_q (q_move rfl (by decide)) ?_)
    refine list_cons rfl (op_q (q_move rfl (by decide)) ?_)
    refine list_cons rfl (op_call _ (impl_fractionOf _ _ (by omega) (by omega)) rfl rfl (by decide) (by decide) (by decide) rfl ?_)
    rintro _ rfl
    refine list_cons rfl (op_store (agg_62).2 4 [4] (by intro t ht; simp only [List.mem_cons, List.not_mem_nil, or_false] at ht; subst ht; rfl) (.inr ⟨rfl, _, rfl⟩) rfl rfl rfl rfl (by first | rfl | exact flat_part (flat_map _ (fun _ => rfl) _) _ _ | exact flat_map _ (fun _ => rfl) _) (by first | rfl | (simp [PV.cells]; done)) (by first | decide | omega | exact Nat.le_refl _ | (simp; done) | (simp; omega)) (by decide) rfl ?_)
    refine list_nil ?_
    refine hK9 _ ?_; clear hK9 K9
    refine codeT.imp (σ' := [(0, _), (1, _), (4, _), (5, _), (7, _), (8, _)]) ?_ (imp_covers ⟨rfl, rfl, rfl, rfl, rfl, rfl, trivial⟩)
    refine code_ret ?_
    refine ends_ret (cs := []) rfl rfl rfl rfl trivial ?_
    first | (rw [i3, show t8.toNat = n.toNat by omega]; rfl)

set_option maxRecDepth 8000 in
set_option maxHeartbeats 2000000 in
theorem impl_meanOfS (f : FuncId) (g : Nat → Int) (n : Int) (hn : 1 ≤ n ∧ n ≤ 10000) (hg : ∀ i, i < n.toNat → 0 ≤ g i ∧ g i ≤ 1000) (k : Nat) (cs : List PV) (hf : ∀ i : Nat, i < n.toNat → PCalls Tryd.prog f [.sl k cs, .int .i64 (i : Int)] (· = [.val (.int .i64 (g i))])) : PCalls Tryd.prog 71 [.int .i64 n, .mth f [.sl k cs]] (· = [.val (.agg [.int .i64 (frA (sumI g n.toNat) (n)), .int .i64 (frB (sumI g n.toNat) (n))])]) := by
  refine pcalls_of_code (n := 20) az Tryd.func71 (by kernel_rfl) rfl rfl (Nat.le_of_ble_eq_true rfl) (by intro t u h; simp [Tryd.f71] at h; obtain ⟨_, rfl⟩ := h <;> first | exact resTy_agg agg_62 (by decide)) ?_
  refine code_seq (fun K1 hK1 => ?_)
  refine code_region ?_
  refine list_cons rfl (op_alloc zt_62 (by decide) (by decide) rfl ?_)
  refine list_nil ?_
  refine hK1 _ ?_; clear hK1 K1
  refine code_seq (fun K2 hK2 => ?_)
  refine code_region ?_
  refine list_cons rfl (op_q (q_assign rfl (by decide)) ?_)
  refine list_nil ?_
  refine hK2 _ ?_; clear hK2 K2
  refine code_seq (fun K3 hK3 => ?_)
  refine code_seq (fun K4 hK4 => ?_)
  refine code_region ?_
  refine list_cons rfl (op_q (q_move rfl (by decide)) ?_)
  refine list_cons rfl (op_q (q_move rfl (by decide)) ?_)
  refine list_nil ?_
  refine hK4 _ ?_; clear hK4 K4
  refine code_block ?_
  refine code_loop (X := Int × Int) (fun x => [(0, .val (.int .i64 n)), (1, .par 1 (.mth f [.sl k cs])), (4, .box 4 62 [.int .i64 0, .int .i64 0]), (5, .val (.int .i64 x.1)), (7, .val (.int .i64 n)), (8, .val (.int .i64 x.2))]) (fun x => 0 ≤ x.2 ∧ x.2 ≤ n ∧ x.1 = sumI g x.2.toNat) (fun x => (n - x.2).toNat) (_, _) (imp_covers ⟨rfl, rfl, rfl, rfl, rfl, rfl, trivial⟩) ?_ ?_
  · (try dsimp only)
    exact ⟨by omega, by omega, rfl⟩
  · intro x hI
    obtain ⟨sum, t8⟩ := x
    replace hI : 0 ≤ t8 ∧ t8 ≤ n ∧ sum = sumI g t8.toNat := hI
    show codeT _ _ _ [(0, .val (.int .i64 n)), (1, .par 1 (.mth f [.sl k cs])), (4, .box 4 62 [.int .i64 0, .int .i64 0]), (5, .val (.int .i64 sum)), (7, .val (.int .i64 n)), (8, .val (.int .i64 t8))] _
    obtain ⟨i1, i2, i3⟩ := hI
    have hsb := sumI_bd' (f := g) (m := 1000) t8.toNat (fun i hi => hg i (by omega))
    have hgi := fun e : t8 < n => hg t8.toNat (by omega)
    have ht8 : ((t8.toNat : Nat) : Int) = t8 := Int.toNat_of_nonneg i1
    refine code_seq (fun K5 hK5 => ?_)
    refine code_region ?_
    refine list_cons rfl (op_q (q_lt rfl rfl (by decide)) ?_)
    refine list_nil ?_
    refine hK5 _ ?_; clear hK5 K5
    refine code_seq (fun K6 hK6 => ?_)
    refine code_cond_d rfl (fun h1 => ?_) (fun h1 => ?_)
    · skip
      (try simp only [Decidable.not_not] at h1); (try have hgj := hgi h1); (try have hfj := hf t8.toNat (by omega)); (try rw [ht8] at hfj)
      refine code_skip ?_
      refine hK6 _ ?_; clear hK6 K6
      refine code_seq (fun K7 hK7 => ?_)
      refine code_block ?_
      refine code_seq (fun K8 hK8 => ?_)
      refine code_region ?_
      refine list_cons rfl (op_q (q_move rfl (by decide)) ?_)
      refine list_cons rfl (op_q (q_assign rfl (by decide)) ?_)
      refine list_nil ?_
      refine hK8 _ ?_; clear hK8 K8
      refine code_region ?_
      refine list_cons rfl (op_q (q_move rfl (by decide)) ?_)
      refine list_cons rfl (op_q (q_move rfl (by decide)) ?_)
      refine list_cons rfl (op_q (q_move rfl (by decide)) ?_)
      refine list_cons rfl (op_callW _ rfl rfl rfl rfl (pcV (hfj)) (by decide) ?_)
      rintro _ rfl
      refine list_cons rfl (op_q (by first | exact q_addI rfl rfl (by decide) (by omega) (by omega) | exact q_ib rfl rfl rfl (by decide)) ?_)
      refine list_cons rfl (op_q (q_assign rfl (by decide)) ?_)
      refine list_nil ?_
      refine blk_n ?_
      refine hK7 _ ?_; clear hK7 K7
      refine codeT.imp (σ' := [(0, _), (1, _), (4, _), (5, _), (6, _), (7, _), (8, _)]) ?_ (imp_covers ⟨rfl, rfl, rfl, rfl, rfl, rfl, rfl, trivial⟩)
      refine code_region ?_
      refine list_cons rfl (op_q (by first | exact q_addI rfl rfl (by decide) (by omega) (by omega) | exact q_ib rfl rfl rfl (by decide)) ?_)
      refine list_cons rfl (op_q (q_move rfl (by decide)) ?_)
      refine list_nil ?_
      refine then_n ⟨(_, _), imp_covers ⟨rfl, rfl, rfl, rfl, rfl, rfl, trivial⟩, ?_, ?_⟩
      · (try dsimp only)
        exact ⟨by omega, by omega, by rw [sumI_1 i1, i3]⟩
      · (try dsimp only); omega
    (try simp only [Decidable.not_not] at h1); (try have hgj := hgi h1); (try have hfj := hf t8.toNat (by omega)); (try rw [ht8] at hfj)
    refine code_exit ?_
    refine then_x ?_; clear hK6 K6
    refine then_x ?_
    refine blk_hit ?_
    refine hK3 _ ?_; clear hK3 K3
    refine code_seq (fun K9 hK9 => ?_)
    refine code_region ?_
    refine list_cons rfl (op_q (q_move rfl (by decide)) ?_)
    refine list_cons rfl (op_q (q_move rfl (by decide)) ?_)
    refine list_cons rfl (op_call _ (impl_fractionOf _ _ (by omega) (by omega)) rfl rfl (by decide) (by decide) (by decide) rfl ?_)
    rintro _ rfl
    refine list_cons rfl (op_store (agg_62).2 4 [4] (by intro t ht; simp only [List.mem_cons, List.not_mem_nil, or_false] at ht; subst ht; rfl) (.inr ⟨rfl, _, rfl⟩) rfl rfl rfl rfl (by first | rfl | exact flat_part (flat_map _ (fun _ => rfl) _) _ _ | exact flat_map _ (fun _ => rfl) _) (by first | rfl | (simp [PV.cells]; done)) (by first | decide | omega | exact Nat.le_refl _ | (simp; done) | (simp; omega)) (by decide) rfl ?_)
    refine list_nil ?_
    refine hK9 _ ?_; clear hK9 K9
    refine codeT.imp (σ' := [(0, _), (1, _), (4, _), (5, _), (7, _), (8, _)]) ?_ (imp_covers ⟨rfl, rfl, rfl, rfl, rfl, rfl, trivial⟩)
    refine code_ret ?_
    refine ends_ret (cs := []) rfl rfl rfl rfl trivial ?_
    first | (rw [i3, show t8.toNat = n.toNat by omega]; rfl)

theorem plc_ex (l : List Int) (b k : Int) : 0 ≤ plc l b k ↔ ∃ x ∈ l, FdP b k x := by
  unfold plc
  constructor
  · intro h
    split at h
    · rename_i i hi
      have h1 := List.find?_some (p := fun i => decide (FdP b k (l.getD i 0))) hi
      have h2 := List.mem_range.1 (List.mem_of_find?_eq_some hi)
      refine ⟨l.getD i 0, ?_, of_decide_eq_true h1⟩
      rw [List.getD_eq_getElem?_getD, List.getElem?_eq_getElem h2]; exact List.getElem_mem h2
    · omega
  · rintro ⟨x, hx, hf⟩
    obtain ⟨i, hi, rfl⟩ := List.getElem_of_mem hx
    split
    · omega
    · rename_i hn
      have := List.find?_eq_none.1 hn i (List.mem_range.2 hi)
      exact absurd (decide_eq_true (show FdP b k (l.getD i 0) by rw [List.getD_eq_getElem?_getD, List.getElem?_eq_getElem hi]; exact hf)) this
theorem fnd_rev (l : List Int) (fo : Bool) : fnd l.reverse fo = fnd l fo := by
  unfold fnd fndK
  apply List.filter_congr
  intro s _
  have : decide (0 ≤ plc l.reverse s.1 s.2) = decide (0 ≤ plc l s.1 s.2) := decide_eq_decide.mpr (by rw [plc_ex, plc_ex]; simp)
  rw [this]
theorem ful_rev (l : List Int) : FulP l.reverse ↔ FulP l := by unfold FulP; rw [fnd_rev]
theorem tst_rev {l : List Int} (h : TstP l) : TstP l.reverse := TstP.of_mem (by rw [List.length_reverse]; exact h.1) fun x hx => h.mem (by simpa using hx)
/-- The digits from the last place on, and zeros. -/
def tsZ9 (n m k : Nat) : List Int := List.replicate (m - k) 0 ++ (tst9 n k).reverse
theorem tsZ9_len (n : Nat) {m k : Nat} (h : k ≤ m) : (tsZ9 n m k).length = m := by unfold tsZ9; simp [tst9_len]; omega
theorem tsZ9_put (n : Nat) {m k : Nat} (h : k < m) : (tsZ9 n m k).set (m - 1 - k) ((n / 10 ^ k % 10 : Nat) : Int) = tsZ9 n m (k + 1) := by
  unfold tsZ9
  rw [List.set_append_left _ _ (by simp; omega), show m - k = (m - (k + 1)) + 1 by omega, List.replicate_succ', List.set_append_right _ _ (by simp; omega), List.length_replicate, show m - 1 - k - (m - (k + 1)) = 0 by omega, tst9, List.reverse_append]
  simp
theorem tsZ9_put' (n : Nat) {m k : Nat} {i v : Int} (h : k < m) (hi : i = (m : Int) - 1 - k) (hv : v = ((n / 10 ^ k % 10 : Nat) : Int)) : putAt ((tsZ9 n m k).map (PV.int .i64)) (i.toNat * 1) [PV.int .i64 v] = (tsZ9 n m (k + 1)).map (PV.int .i64) := by
  rw [put_map1 (PV.int .i64) _ (by rw [tsZ9_len n (by omega)]; omega), show i.toNat = m - 1 - k by omega, hv, tsZ9_put n h]
theorem tsZ9_end (n m : Nat) : tsZ9 n m m = (tst9 n m).reverse := by unfold tsZ9; simp

set_option maxRecDepth 8000 in
set_option maxHeartbeats 2000000 in
theorem impl_test (m n : Int) (hm : 0 ≤ m ∧ m ≤ 4) (hn : 0 ≤ n ∧ n ≤ 100000) : PCalls Tryd.prog 105 [.int .i64 m, .int .i64 n] (· = [.own 0 3 1 ((tst9 n.toNat m.toNat).reverse).length (((tst9 n.toNat m.toNat).reverse).map (.int .i64))]) := by
  refine pcalls_of_code (n := 26) az Tryd.func105 (by kernel_rfl) rfl rfl (Nat.le_of_ble_eq_true rfl) (by intro t u h; simp [Tryd.f105] at h) ?_
  refine code_seq (fun K1 hK1 => ?_)
  refine code_region ?_
  refine list_cons rfl (op_q (q_assign rfl (by decide)) ?_)
  refine list_nil ?_
  refine hK1 _ ?_; clear hK1 K1
  refine code_seq (fun K2 hK2 => ?_)
  refine code_region ?_
  refine list_cons rfl (op_q (q_move rfl (by decide)) ?_)
  refine list_cons rfl (op_makeI sl_81 rfl rfl (by omega) (by omega) (by decide) (by decide) rfl ?_)
  refine list_cons rfl (op_q (q_assign rfl (by decide)) ?_)
  refine list_nil ?_
  refine hK2 _ ?_; clear hK2 K2
  refine code_seq (fun K3 hK3 => ?_)
  refine code_region ?_
  refine list_cons rfl (op_q (q_move rfl (by decide)) ?_)
  refine list_cons rfl (op_q (q_assign rfl (by decide)) ?_)
  refine list_nil ?_
  refine hK3 _ ?_; clear hK3 K3
  refine code_seq (fun K4 hK4 => ?_)
  refine code_seq (fun K5 hK5 => ?_)
  refine code_region ?_
  refine list_cons rfl (op_q (q_move rfl (by decide)) ?_)
  refine list_cons rfl (op_q (q_len_sl Tryd.underlying81 rfl rfl (by decide)) ?_)
  refine list_cons rfl (op_q (by first | exact q_subI rfl rfl (by decide) (by omega) (by omega) | exact q_ib rfl rfl rfl (by decide)) ?_)
  refine list_cons rfl (op_q (q_assign rfl (by decide)) ?_)
  refine list_nil ?_
  refine hK5 _ ?_; clear hK5 K5
  refine code_block ?_
  refine code_loop (X := PV × Nat × List PV × Int × Int) (fun x => [(0, .val (.int .i64 m)), (1, .val (.int .i64 n)), (4, .val x.1), (5, .own 9 3 1 x.2.1 x.2.2.1), (6, .val (.int .i64 x.2.2.2.1)), (7, .val (.int .i64 x.2.2.2.2))]) (fun x => -1 ≤ x.2.2.2.2 ∧ x.2.2.2.2 ≤ m - 1 ∧ (0 ≤ x.2.2.2.1 ∧ x.2.2.2.1 ≤ 100000) ∧ x.2.1 = m.toNat ∧ x.2.2.2.1.toNat = n.toNat / 10 ^ (m - 1 - x.2.2.2.2).toNat ∧ x.2.2.1 = (tsZ9 n.toNat m.toNat (m - 1 - x.2.2.2.2).toNat).map (.int .i64)) (fun x => (x.2.2.2.2 + 1).toNat) (_, _, _, _, _) (imp_covers ⟨rfl, rfl, rfl, rfl, rfl, rfl, trivial⟩) ?_ ?_
  · (try dsimp only)
    have hK : (m - 1 - (((m.toNat : Nat) : Int) - 1)).toNat = 0 := by omega
    refine ⟨by omega, by omega, hn, rfl, ?_, ?_⟩
    · rw [hK]; simp
    · rw [hK]; exact (zeros_map1 (PV.int .i64) 0 m.toNat).trans (by simp [tsZ9, tst9])
  · intro x hI
    obtain ⟨t4_p, digits_n, digits_c, left, place⟩ := x
    replace hI : -1 ≤ place ∧ place ≤ m - 1 ∧ (0 ≤ left ∧ left ≤ 100000) ∧ digits_n = m.toNat ∧ left.toNat = n.toNat / 10 ^ (m - 1 - place).toNat ∧ digits_c = (tsZ9 n.toNat m.toNat (m - 1 - place).toNat).map (.int .i64) := hI
    show codeT _ _ _ [(0, .val (.int .i64 m)), (1, .val (.int .i64 n)), (4, .val t4_p), (5, .own 9 3 1 digits_n digits_c), (6, .val (.int .i64 left)), (7, .val (.int .i64 place))] _
    obtain ⟨i1, i2, i3, rfl, i4, rfl⟩ := hI
    have hzl := tsZ9_len n.toNat (m := m.toNat) (k := (m - 1 - place).toNat) (by omega)
    refine code_seq (fun K6 hK6 => ?_)
    refine code_seq (fun K7 hK7 => ?_)
    refine code_region ?_
    refine list_cons rfl (op_q (q_move rfl (by decide)) ?_)
    refine list_cons rfl (op_q (q_ge rfl rfl (by decide)) ?_)
    refine list_nil ?_
    refine hK7 _ ?_; clear hK7 K7
    refine code_cond_d rfl (fun h1 => ?_) (fun h1 => ?_)
    · skip
      (try simp only [Decidable.not_not] at h1)
      refine code_skip ?_
      refine hK6 _ ?_; clear hK6 K6
      refine code_seq (fun K8 hK8 => ?_)
      refine code_block ?_
      refine code_seq (fun K9 hK9 => ?_)
      refine code_region ?_
      refine list_cons rfl (op_q (q_move rfl (by decide)) ?_)
      refine list_cons rfl (op_q (q_move rfl (by decide)) ?_)
      refine list_cons rfl (op_q (q_move rfl (by decide)) ?_)
      refine list_cons rfl (op_q (by first | exact q_remI rfl rfl (by decide) (by omega) (by omega) | exact q_rem rfl rfl (by omega) (by decide)) ?_)
      refine list_cons rfl (op_q (q_indexAddr_own sl_81 rfl rfl (by omega) (by omega) (by decide)) ?_)
      refine list_cons rfl (op_store (one_3).2 5 [5, 18] (by intro t ht; simp only [List.mem_cons, List.not_mem_nil, or_false] at ht; rcases ht with rfl | rfl <;> rfl) (.inl rfl) rfl rfl rfl rfl rfl rfl (by first | decide | omega | exact Nat.le_refl _ | (simp; done) | (simp; omega)) (by decide) rfl ?_)
      refine list_nil ?_
      refine hK9 _ ?_; clear hK9 K9
      refine codeT.imp (σ' := [(0, _), (1, _), (4, _), (5, _), (6, _), (7, _)]) ?_ (imp_covers ⟨rfl, rfl, rfl, rfl, rfl, rfl, trivial⟩)
      refine code_region ?_
      refine list_cons rfl (op_q (q_move rfl (by decide)) ?_)
      refine list_cons rfl (op_q (by first | exact q_quoI rfl rfl (by decide) (by omega) (by omega) (by omega) | exact q_quoT rfl rfl (by omega) (by decide) (by omega) (by omega) | exact q_quo rfl rfl (by omega) (by decide)) ?_)
      refine list_cons rfl (op_q (q_assign rfl (by decide)) ?_)
      refine list_nil ?_
      refine blk_n ?_
      refine hK8 _ ?_; clear hK8 K8
      refine code_region ?_
      refine list_cons rfl (op_q (q_move rfl (by decide)) ?_)
      refine list_cons rfl (op_q (by first | exact q_subI rfl rfl (by decide) (by omega) (by omega) | exact q_ib rfl rfl rfl (by decide)) ?_)
      refine list_cons rfl (op_q (q_assign rfl (by decide)) ?_)
      refine list_nil ?_
      refine then_n ⟨(_, _, _, _, _), imp_covers ⟨rfl, rfl, rfl, rfl, rfl, rfl, trivial⟩, ?_, ?_⟩
      · (try dsimp only)
        have hK : (m - 1 - (place - 1)).toNat = (m - 1 - place).toNat + 1 := by omega
        refine ⟨by omega, by omega, by omega, rfl, ?_, ?_⟩
        · rw [hK, ← tst9_div, ← i4]; omega
        · rw [hK]
          exact tsZ9_put' n.toNat (i := place) (by omega) (by omega) (by rw [← i4]; omega)
      · (try dsimp only); omega
    (try simp only [Decidable.not_not] at h1)
    refine code_exit ?_
    refine then_x ?_; clear hK6 K6
    refine then_x ?_
    refine blk_hit ?_
    refine hK4 _ ?_; clear hK4 K4
    refine code_seq (fun K10 hK10 => ?_)
    refine code_region ?_
    refine list_cons rfl (op_q (q_move rfl (by decide)) ?_)
    refine list_cons rfl (op_q (q_assign rfl (by decide)) ?_)
    refine list_nil ?_
    refine hK10 _ ?_; clear hK10 K10
    refine code_ret ?_
    refine ends_ret (cs := []) rfl rfl rfl rfl trivial ?_
    rw [show (m - 1 - place).toNat = m.toNat by omega, tsZ9_end, List.length_reverse, tst9_len]

set_option maxRecDepth 8000 in
set_option maxHeartbeats 2000000 in
theorem impl_digitsDrawn (m : Int) : PCalls Tryd.prog 80 [.int .i64 m] (· = [.val (.int .i64 (if (0 ≤ m ∧ m ≤ 4) then ten9 m.toNat else 0)), .val (.int .i64 (if (0 ≤ m ∧ m ≤ 4) then m else 0)), .val (.bool (decide (0 ≤ m ∧ m ≤ 4)))]) := by
  refine pcalls_of_code (n := 14) az Tryd.func80 (by kernel_rfl) rfl rfl (Nat.le_of_ble_eq_true rfl) (by intro t u h; simp [Tryd.f80] at h) ?_
  refine code_seq (fun K1 hK1 => ?_)
  refine code_region ?_
  refine list_cons rfl (op_q (q_assign rfl (by decide)) ?_)
  refine list_cons rfl (op_q (q_assign rfl (by decide)) ?_)
  refine list_cons rfl (op_q (q_assign rfl (by decide)) ?_)
  refine list_nil ?_
  refine hK1 _ ?_; clear hK1 K1
  refine code_seq (fun K2 hK2 => ?_)
  refine code_seq (fun K3 hK3 => ?_)
  refine code_region ?_
  refine list_cons rfl (op_q (q_move rfl (by decide)) ?_)
  refine list_cons rfl (op_q (q_lt rfl rfl (by decide)) ?_)
  refine list_cons rfl (op_q (q_move rfl (by decide)) ?_)
  refine list_guard_d rfl rfl rfl rfl (by decide) rfl (by decide) (fun h1 => ?_) (fun h1 => ?_)
  · simp only [Bool.false_eq_true, if_true, if_false, Decidable.not_not] at h1
    refine id (op_q (q_move rfl (by decide)) ?_)
    refine list_guard_y rfl rfl rfl rfl (by decide) rfl ?_
    refine id (op_q (q_gt rfl rfl (by decide)) ?_)
    refine list_cons rfl (op_q (q_pick rfl rfl (by decide)) ?_)
    refine list_nil ?_
    refine hK3 _ ?_; clear hK3 K3
    refine code_cond_d rfl (fun h2 => ?_) (fun h2 => ?_)
    · skip
      (try simp only [Decidable.not_not] at h2)
      refine code_seq (fun K4 hK4 => ?_)
      refine code_region ?_
      refine list_cons rfl (op_q (q_assign rfl (by decide)) ?_)
      refine list_cons rfl (op_q (q_assign rfl (by decide)) ?_)
      refine list_cons rfl (op_q (q_assign rfl (by decide)) ?_)
      refine list_nil ?_
      refine hK4 _ ?_; clear hK4 K4
      refine code_ret ?_
      refine then_r ?_; clear hK2 K2
      refine ends_ret (cs := []) rfl rfl rfl rfl trivial ?_
      first
        | (have e : ¬ (0 ≤ m ∧ m ≤ 4) := by omega
           simp only [if_neg e, decide_eq_false e]; first | done | rfl)
        | (have e : 0 ≤ m ∧ m ≤ 4 := by omega
           simp only [if_pos e, decide_eq_true e]; first | done | rfl)
    (try simp only [Decidable.not_not] at h2)
    refine code_skip ?_
    refine hK2 _ ?_; clear hK2 K2
    refine code_seq (fun K5 hK5 => ?_)
    refine code_region ?_
    refine list_cons rfl (op_q (q_move rfl (by decide)) ?_)
    refine list_cons rfl (op_call _ (impl_toPower 10 m (by omega) (by omega) (by omega)) rfl rfl (by decide) (by decide) (by decide) rfl ?_)
    rintro _ rfl; rw [pw9_ten]
    refine list_cons rfl (op_q (q_move rfl (by decide)) ?_)
    refine list_cons rfl (op_q (q_assign rfl (by decide)) ?_)
    refine list_cons rfl (op_q (q_assign rfl (by decide)) ?_)
    refine list_cons rfl (op_q (q_assign rfl (by decide)) ?_)
    refine list_nil ?_
    refine hK5 _ ?_; clear hK5 K5
    refine codeT.imp (σ' := [(0, _), (2, _), (3, _), (4, _)]) ?_ (imp_covers ⟨rfl, rfl, rfl, rfl, trivial⟩)
    refine code_ret ?_
    refine ends_ret (cs := []) rfl rfl rfl rfl trivial ?_
    first
      | (have e : ¬ (0 ≤ m ∧ m ≤ 4) := by omega
         simp only [if_neg e, decide_eq_false e]; first | done | rfl)
      | (have e : 0 ≤ m ∧ m ≤ 4 := by omega
         simp only [if_pos e, decide_eq_true e]; first | done | rfl)
  simp only [Bool.false_eq_true, if_true, if_false, Decidable.not_not] at h1
  refine list_guard_n rfl rfl rfl rfl (by decide) rfl ?_
  refine list_cons rfl (op_q (q_pick rfl rfl (by decide)) ?_)
  refine list_nil ?_
  refine hK3 _ ?_; clear hK3 K3
  refine code_cond_t rfl ?_
  refine code_seq (fun K6 hK6 => ?_)
  refine code_region ?_
  refine list_cons rfl (op_q (q_assign rfl (by decide)) ?_)
  refine list_cons rfl (op_q (q_assign rfl (by decide)) ?_)
  refine list_cons rfl (op_q (q_assign rfl (by decide)) ?_)
  refine list_nil ?_
  refine hK6 _ ?_; clear hK6 K6
  refine code_ret ?_
  refine then_r ?_; clear hK2 K2
  refine ends_ret (cs := []) rfl rfl rfl rfl trivial ?_
  first
    | (have e : ¬ (0 ≤ m ∧ m ≤ 4) := by omega
       simp only [if_neg e, decide_eq_false e]; first | done | rfl)
    | (have e : 0 ≤ m ∧ m ≤ 4 := by omega
       simp only [if_pos e, decide_eq_true e]; first | done | rfl)

theorem mc_all : sumI (fun n => mc9 (n / 10) (n % 10)) 100 = sumI mcS 10 := by decide +kernel
theorem tst9_two (n : Nat) (h : n < 100) : (tst9 n 2).reverse = [((n / 10 : Nat) : Int), ((n % 10 : Nat) : Int)] := by
  show [((n / 10 ^ 1 % 10 : Nat) : Int), ((n / 10 ^ 0 % 10 : Nat) : Int)] = _
  rw [show n / 10 ^ 1 % 10 = n / 10 by omega, show n / 10 ^ 0 % 10 = n % 10 by simp]
theorem chT_two (n : Nat) (h : n < 100) : chT (tst9 n 2).reverse 1 = mc9 (n / 10) (n % 10) := by
  rw [tst9_two n h]
  show (0 : Int) + ((cnt7 ((digT.getD (((n / 10 : Nat) : Int)).toNat 0).toNat ^^^ (digT.getD (((n % 10 : Nat) : Int)).toNat 0).toNat) : Nat) : Int) = mc9 (n / 10) (n % 10)
  rw [Int.toNat_natCast, Int.toNat_natCast, Int.zero_add]; rfl

set_option maxRecDepth 8000 in
set_option maxHeartbeats 2000000 in
theorem impl_changes (n : Int) (hn : 0 ≤ n ∧ n < 100) : PCalls Tryd.prog 85 [.int .i64 2, .int .i64 n] (· = [.val (.int .i64 (mc9 (n.toNat / 10) (n.toNat % 10)))]) := by
  refine pcalls_of_code (n := 15) az Tryd.func85 (by kernel_rfl) rfl rfl (Nat.le_of_ble_eq_true rfl) (by intro t u h; simp [Tryd.f85] at h) ?_
  have hm : (0 : Int) ≤ 2 ∧ (2 : Int) ≤ 4 := by omega
  have htt := tst9_tst n.toNat (m := 2) (by omega)
  have htr := tst_rev htt
  have htl := tst9_len n.toNat 2
  have hrl : (tst9 n.toNat 2).reverse.length = 2 := by rw [List.length_reverse, htl]
  refine code_seq (fun K1 hK1 => ?_)
  refine code_region ?_
  refine list_cons rfl (op_q (q_assign rfl (by decide)) ?_)
  refine list_nil ?_
  refine hK1 _ ?_; clear hK1 K1
  refine code_seq (fun K2 hK2 => ?_)
  refine code_region ?_
  refine list_cons rfl (op_q (q_move rfl (by decide)) ?_)
  refine list_cons rfl (op_q (q_move rfl (by decide)) ?_)
  refine list_cons rfl (op_call _ (impl_test 2 n hm (by omega)) rfl rfl (by decide) (by decide) (by decide) rfl ?_)
  rintro _ rfl; rw [show Int.toNat 2 = 2 from rfl]
  refine list_cons rfl (op_call _ (impl_ChangesOf (tst9 n.toNat 2).reverse (by omega)) rfl rfl (by decide) (by decide) (by decide) rfl ?_)
  rintro _ rfl; rw [if_pos htr, hrl, show 2 - 1 = 1 from rfl, chT_two n.toNat (by omega)]
  refine list_cons rfl (op_q (q_move rfl (by decide)) ?_)
  refine list_cons rfl (op_q (q_extract rfl rfl (by decide)) ?_)
  refine list_cons rfl (op_q (q_extract rfl rfl (by decide)) ?_)
  refine list_cons rfl (op_q (q_assign rfl (by decide)) ?_)
  refine list_cons rfl (op_q (q_assign rfl (by decide)) ?_)
  refine list_nil ?_
  refine hK2 _ ?_; clear hK2 K2
  refine codeT.imp (σ' := [(0, _), (1, _), (4, _), (5, _)]) ?_ (imp_covers ⟨rfl, rfl, rfl, rfl, trivial⟩)
  refine code_seq (fun K3 hK3 => ?_)
  refine code_region ?_
  refine list_cons rfl (op_q (q_move rfl (by decide)) ?_)
  refine list_cons rfl (op_q (q_assign rfl (by decide)) ?_)
  refine list_nil ?_
  refine hK3 _ ?_; clear hK3 K3
  refine code_ret ?_
  refine ends_ret (cs := []) rfl rfl rfl rfl trivial ?_
  first | rfl

theorem mean_changes (i : Nat) (h : i < 100) : PCalls Tryd.prog 85 [.int .i64 2, .int .i64 (i : Int)] (· = [.val (.int .i64 (mc9 (i / 10) (i % 10)))]) := by
  have := impl_changes (i : Int) (by omega)
  rw [Int.toNat_natCast] at this
  exact this

set_option maxRecDepth 8000 in
set_option maxHeartbeats 2000000 in
theorem impl_MeanChanges  : PCalls Tryd.prog 48 [] (· = [.val (.agg [.int .i64 (frA (sumI mcS 10) (100)), .int .i64 (frB (sumI mcS 10) (100))])]) := by
  refine pcalls_of_code (n := 13) az Tryd.func48 (by kernel_rfl) rfl rfl (Nat.le_of_ble_eq_true rfl) (by intro t u h; simp [Tryd.f48] at h; obtain ⟨_, rfl⟩ := h <;> first | exact resTy_agg agg_26 (by decide)) ?_
  refine code_seq (fun K1 hK1 => ?_)
  refine code_region ?_
  refine list_cons rfl (op_alloc zt_26 (by decide) (by decide) rfl ?_)
  refine list_nil ?_
  refine hK1 _ ?_; clear hK1 K1
  refine code_seq (fun K2 hK2 => ?_)
  refine code_region ?_
  refine list_cons rfl (op_call _ (impl_digitsDrawn 2) rfl rfl (by decide) (by decide) (by decide) rfl ?_)
  rintro _ rfl; rw [if_pos (show (0 : Int) ≤ 2 ∧ (2 : Int) ≤ 4 by omega), if_pos (show (0 : Int) ≤ 2 ∧ (2 : Int) ≤ 4 by omega), show ten9 (Int.toNat 2) = 100 from rfl]
  refine list_cons rfl (op_q (q_move rfl (by decide)) ?_)
  refine list_cons rfl (op_q (q_extract rfl rfl (by decide)) ?_)
  refine list_cons rfl (op_q (q_extract rfl rfl (by decide)) ?_)
  refine list_cons rfl (op_q (q_extract rfl rfl (by decide)) ?_)
  refine list_cons rfl (op_q (q_assign rfl (by decide)) ?_)
  refine list_cons rfl (op_q (q_assign rfl (by decide)) ?_)
  refine list_cons rfl (op_q (q_assign rfl (by decide)) ?_)
  refine list_nil ?_
  refine hK2 _ ?_; clear hK2 K2
  refine codeT.imp (σ' := [(0, _), (1, _), (2, _)]) ?_ (imp_covers ⟨rfl, rfl, rfl, trivial⟩)
  refine code_seq (fun K3 hK3 => ?_)
  refine code_region ?_
  refine list_cons rfl (op_q (q_move rfl (by decide)) ?_)
  refine list_cons rfl (op_q (q_move rfl (by decide)) ?_)
  refine list_cons rfl (op_q (q_makeMth rfl rfl rfl rfl (by decide)) ?_)
  refine list_cons rfl (op_call _ (impl_meanOfI 85 (fun n => mc9 (n / 10) (n % 10)) 100 (by omega) (fun i hi => by have := mc9_bd (i / 10) (i % 10); omega) 2 (fun i hi => mean_changes i hi)) rfl rfl (by decide) (by decide) (by decide) rfl ?_)
  rintro _ rfl; rw [show Int.toNat 100 = 100 from rfl, mc_all]
  refine list_cons rfl (op_store (agg_26).2 0 [0] (by intro t ht; simp only [List.mem_cons, List.not_mem_nil, or_false] at ht; subst ht; rfl) (.inr ⟨rfl, _, rfl⟩) rfl rfl rfl rfl (by first | rfl | exact flat_part (flat_map _ (fun _ => rfl) _) _ _ | exact flat_map _ (fun _ => rfl) _) (by first | rfl | (simp [PV.cells]; done)) (by first | decide | omega | exact Nat.le_refl _ | (simp; done) | (simp; omega)) (by decide) rfl ?_)
  refine list_nil ?_
  refine hK3 _ ?_; clear hK3 K3
  refine codeT.imp (σ' := [(0, _), (1, _), (2, _)]) ?_ (imp_covers ⟨rfl, rfl, rfl, trivial⟩)
  refine code_ret ?_
  refine ends_ret (cs := []) rfl rfl rfl rfl trivial ?_
  first | rfl

end Go.Proofs.YtbddhdbieelpjaaDoor
