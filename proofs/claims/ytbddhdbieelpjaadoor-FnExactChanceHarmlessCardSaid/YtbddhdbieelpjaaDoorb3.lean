/- Contracts of functions, walked over the pure layer; each says for which arguments. -/
import Derived.Test.YtbddhdbieelpjaaDoorb3Ty
import Derived.Test.YtbddhdbieelpjaaDoorTf
import Derived.Test.YtbddhdbieelpjaaDoorb1
import Derived.Test.YtbddhdbieelpjaaDoorShelf
import Derived.Test.YtbddhdbieelpjaaDoorb2
namespace Go.Proofs.YtbddhdbieelpjaaDoor
open Go.RowKit b3Ty
set_option linter.unusedVariables false
set_option linter.unusedSimpArgs false

theorem res_agg9 {az : TypeId → Nat} {σ : St} {t u l e : Nat} {cs : List PV} (h : σ.at t = some (.box l e cs)) (haz : (az u == 0) = false) (hf : PV.flatL cs = true) (hl : cs.length = az u) : St.res az σ [.cell t u] = some [.val (.agg cs)] := by
  unfold St.res
  rw [h, show St.res az σ [] = some [] from rfl]
  simp only [haz, Bool.false_eq_true, if_false]
  rw [hf, hl]
  simp
theorem mul_bd9 {a b m n : Int} (ha : 0 ≤ a ∧ a ≤ m) (hb : 0 ≤ b ∧ b ≤ n) : 0 ≤ a * b ∧ a * b ≤ m * n := ⟨Int.mul_nonneg ha.1 hb.1, Int.mul_le_mul ha.2 hb.2 hb.1 (by omega)⟩
theorem mul_pos9 {a b : Int} (ha : 1 ≤ a) (hb : 1 ≤ b) : 1 ≤ a * b := by
  have := Int.mul_le_mul ha hb (by omega) (by omega)
  simpa using this


set_option maxRecDepth 8000 in
set_option maxHeartbeats 2000000 in
theorem impl_fractionOf (a b : Int) (ha : 0 ≤ a ∧ a ≤ 4611686018427387904) (hb : 1 ≤ b ∧ b ≤ 4611686018427387904) : PCalls Tryd.prog 56 [.int .i64 a, .int .i64 b] (· = [.val (.agg [.int .i64 (frA (a) (b)), .int .i64 (frB (a) (b))])]) := by
  refine pcalls_of_code (n := 22) az Tryd.func56 (by kernel_rfl) rfl rfl (Nat.le_of_ble_eq_true rfl) (by intro t u h; simp [Tryd.f56] at h; obtain ⟨_, rfl⟩ := h <;> first | exact resTy_agg agg_62 (by decide)) ?_
  refine code_seq (fun K1 hK1 => ?_)
  refine code_region ?_
  refine list_cons rfl (op_alloc zt_62 (by decide) (by decide) rfl ?_)
  refine list_nil ?_
  refine hK1 _ ?_; clear hK1 K1
  refine code_seq (fun K2 hK2 => ?_)
  refine code_region ?_
  refine list_cons rfl (op_q (q_move rfl (by decide)) ?_)
  refine list_cons rfl (op_q (q_move rfl (by decide)) ?_)
  refine list_cons rfl (op_q (q_assign rfl (by decide)) ?_)
  refine list_cons rfl (op_q (q_assign rfl (by decide)) ?_)
  refine list_nil ?_
  refine hK2 _ ?_; clear hK2 K2
  refine code_seq (fun K3 hK3 => ?_)
  refine code_block ?_
  refine code_loop (X := Int × Int) (fun x => [(0, .val (.int .i64 a)), (1, .val (.int .i64 b)), (4, .box 4 62 [.int .i64 0, .int .i64 0]), (5, .val (.int .i64 x.1)), (6, .val (.int .i64 x.2))]) (fun x => 0 ≤ x.1 ∧ 0 ≤ x.2 ∧ Nat.gcd x.1.toNat x.2.toNat = Nat.gcd a.toNat b.toNat) (fun x => x.2.toNat) (_, _) (imp_covers ⟨rfl, rfl, rfl, rfl, rfl, trivial⟩) ?_ ?_
  · (try dsimp only)
    exact ⟨by omega, by omega, Nat.gcd_comm _ _⟩
  · intro x hI
    obtain ⟨divisor, rest⟩ := x
    replace hI : 0 ≤ divisor ∧ 0 ≤ rest ∧ Nat.gcd divisor.toNat rest.toNat = Nat.gcd a.toNat b.toNat := hI
    show codeT _ _ _ [(0, .val (.int .i64 a)), (1, .val (.int .i64 b)), (4, .box 4 62 [.int .i64 0, .int .i64 0]), (5, .val (.int .i64 divisor)), (6, .val (.int .i64 rest))] _
    obtain ⟨i1, i2, i3⟩ := hI
    refine code_seq (fun K4 hK4 => ?_)
    refine code_seq (fun K5 hK5 => ?_)
    refine code_region ?_
    refine list_cons rfl (op_q (q_move rfl (by decide)) ?_)
    refine list_cons rfl (op_q (q_ne rfl rfl (by decide)) ?_)
    refine list_nil ?_
    refine hK5 _ ?_; clear hK5 K5
    refine code_cond_d rfl (fun h1 => ?_) (fun h1 => ?_)
    · skip
      (try simp only [Decidable.not_not] at h1); (try have hy : rest = 0 := by assumption); (try subst hy); (try have hx := gcd_end9 i3 i1); (try have hg := gcd_pos9 (a := a) hb.1)
      refine code_skip ?_
      refine hK4 _ ?_; clear hK4 K4
      refine code_block ?_
      refine code_draw (by kernel_rfl) (by kernel_rfl) ?_
      refine draw_q rfl (q_move rfl (by decide)) ?_
      refine draw_q rfl (q_move rfl (by decide)) ?_
      refine draw_q rfl (q_move rfl (by decide)) ?_
      refine draw_q rfl (by first | exact q_remI rfl rfl (by decide) (by omega) (by omega) | exact q_rem rfl rfl (by omega) (by decide)) ?_
      refine draw_q rfl (q_assign rfl (by decide)) ?_
      refine draw_q rfl (q_assign rfl (by decide)) ?_
      refine draw_nil ?_
      refine blk_n ?_
      refine then_n ⟨(_, _), imp_covers ⟨rfl, rfl, rfl, rfl, rfl, trivial⟩, ?_, ?_⟩
      · (try dsimp only)
        exact ⟨by omega, Int.emod_nonneg _ (by omega), gcd_stepI i1 i2 i3⟩
      · have := Int.emod_lt_of_pos divisor (show 0 < rest by omega); (try dsimp only); omega
    (try simp only [Decidable.not_not] at h1); (try have hy : rest = 0 := by assumption); (try subst hy); (try have hx := gcd_end9 i3 i1); (try have hg := gcd_pos9 (a := a) hb.1)
    refine code_exit ?_
    refine then_x ?_; clear hK4 K4
    refine then_x ?_
    refine blk_hit ?_
    refine hK3 _ ?_; clear hK3 K3
    refine code_seq (fun K6 hK6 => ?_)
    refine any_start fun ob1_0 => ?_
    refine any_op (rd := [0]) ob1_0 rfl rfl rfl (anyT_quiet [(0, _)] ⟨rfl, trivial⟩ rfl (q_move rfl (by decide))) (fun ob1_1 => ?_)
    refine any_op (rd := [5]) ob1_1 rfl rfl rfl (anyT_quiet [(5, _)] ⟨rfl, trivial⟩ rfl (q_move rfl (by decide))) (fun ob1_2 => ?_)
    refine any_op (rd := [15, 16]) ob1_2 rfl rfl rfl (anyT_quiet [(15, _), (16, _)] ⟨rfl, rfl, trivial⟩ rfl (by first | exact q_quoI rfl rfl (by decide) (by omega) (by omega) (by omega) | exact q_quoT rfl rfl (by omega) (by decide) (by omega) (by omega) | exact q_quo rfl rfl (by omega) (by decide))) (fun ob1_3 => ?_)
    refine any_op (rd := [1]) ob1_3 rfl rfl rfl (anyT_quiet [(1, _)] ⟨rfl, trivial⟩ rfl (q_move rfl (by decide))) (fun ob1_4 => ?_)
    refine any_op (rd := [5]) ob1_4 rfl rfl rfl (anyT_quiet [(5, _)] ⟨rfl, trivial⟩ rfl (q_move rfl (by decide))) (fun ob1_5 => ?_)
    refine any_op (rd := [18, 19]) ob1_5 rfl rfl rfl (anyT_quiet [(18, _), (19, _)] ⟨rfl, rfl, trivial⟩ rfl (by first | exact q_quoI rfl rfl (by decide) (by omega) (by omega) (by omega) | exact q_quoT rfl rfl (by omega) (by decide) (by omega) (by omega) | exact q_quo rfl rfl (by omega) (by decide))) (fun ob1_6 => ?_)
    refine any_end [[], [], [0, 1], [], [], [3, 4], [0, 1, 2, 3, 4, 5], [0, 1, 2, 3, 4, 5, 6]] ob1_6 (by kernel_rfl) (Nat.le_of_ble_eq_true rfl) (by decide) (by decide) (by kernel_rfl) (by kernel_rfl) (by kernel_rfl) (by kernel_rfl) (by kernel_rfl) ?_
    clear ob1_0 ob1_1 ob1_2 ob1_3 ob1_4 ob1_5 ob1_6
    refine listT.imp (σ' := [(0, _), (1, _), (4, _), (5, _), (6, _), (9, _), (10, _), (15, _), (16, _), (17, _), (18, _), (19, _), (20, _)]) ?_ (imp_covers ⟨rfl, rfl, rfl, rfl, rfl, rfl, rfl, rfl, rfl, rfl, rfl, rfl, rfl, trivial⟩)
    refine list_cons rfl (op_q (q_build bt_62 (parts := [(0, .tmp 17), (1, .tmp 20)]) rfl rfl (by decide)) ?_)
    refine list_cons rfl (op_store (agg_62).2 4 [4] (by intro t ht; simp only [List.mem_cons, List.not_mem_nil, or_false] at ht; subst ht; rfl) (.inr ⟨rfl, _, rfl⟩) rfl rfl rfl rfl (by first | rfl | exact flat_part (flat_map _ (fun _ => rfl) _) _ _ | exact flat_map _ (fun _ => rfl) _) (by first | rfl | (simp [PV.cells]; done)) (by first | decide | omega | exact Nat.le_refl _ | (simp; done) | (simp; omega)) (by decide) rfl ?_)
    refine list_nil ?_
    refine hK6 _ ?_; clear hK6 K6
    refine codeT.imp (σ' := [(0, _), (1, _), (4, _), (5, _), (6, _)]) ?_ (imp_covers ⟨rfl, rfl, rfl, rfl, rfl, trivial⟩)
    refine code_ret ?_
    refine ends_ret (cs := []) rfl rfl rfl rfl trivial ?_
    subst hx
    rw [frA_div ha.1, frB_div (by omega)]
    rfl

set_option maxRecDepth 8000 in
set_option maxHeartbeats 2000000 in
theorem impl_meanOf0 (f : FuncId) (g : Nat → Int) (n : Int) (hn : 1 ≤ n ∧ n ≤ 10000) (hg : ∀ i, i < n.toNat → 0 ≤ g i ∧ g i ≤ 1000) (hf : ∀ i : Nat, i < n.toNat → PCalls Tryd.prog f [.int .i64 (i : Int)] (· = [.val (.int .i64 (g i))])) : PCalls Tryd.prog 71 [.int .i64 n, .clo f []] (· = [.val (.agg [.int .i64 (frA (sumI g n.toNat) (n)), .int .i64 (frB (sumI g n.toNat) (n))])]) := by
  refine pcalls_of_code (n := 20) az Tryd.func71 (by kernel_rfl) rfl rfl (Nat.le_of_ble_eq_true rfl) (by intro t u h; simp [Tryd.f71] at h; obtain ⟨_, rfl⟩ := h <;> first | exact resTy_agg agg_62 (by decide)) ?_
  refine code_seq (fun K1 hK1 => ?_)
  refine code_region ?_
  refine list_cons rfl (op_alloc zt_62 (by decide) (by decide) rfl ?_)
  refine list_nil ?_
  refine hK1 _ ?_; clear hK1 K1
  refine code_seq (fun K2 hK2 => ?_)
  refine code_region ?_
  refine list_cons rfl (op_q (q_assign rfl (by decide)) ?_)
  refine list_nil ?_
  refine hK2 _ ?_; clear hK2 K2
  refine code_seq (fun K3 hK3 => ?_)
  refine code_seq (fun K4 hK4 => ?_)
  refine code_region ?_
  refine list_cons rfl (op_q (q_move rfl (by decide)) ?_)
  refine list_cons rfl (op_q (q_move rfl (by decide)) ?_)
  refine list_nil ?_
  refine hK4 _ ?_; clear hK4 K4
  refine code_block ?_
  refine code_loop (X := Int × Int) (fun x => [(0, .val (.int .i64 n)), (1, .val (.clo f [])), (4, .box 4 62 [.int .i64 0, .int .i64 0]), (5, .val (.int .i64 x.1)), (7, .val (.int .i64 n)), (8, .val (.int .i64 x.2))]) (fun x => 0 ≤ x.2 ∧ x.2 ≤ n ∧ x.1 = sumI g x.2.toNat) (fun x => (n - x.2).toNat) (_, _) (imp_covers ⟨rfl, rfl, rfl, rfl, rfl, rfl, trivial⟩) ?_ ?_
  · (try dsimp only)
    exact ⟨by omega, by omega, rfl⟩
  · intro x hI
    obtain ⟨sum, t8⟩ := x
    replace hI : 0 ≤ t8 ∧ t8 ≤ n ∧ sum = sumI g t8.toNat := hI
    show codeT _ _ _ [(0, .val (.int .i64 n)), (1, .val (.clo f [])), (4, .box 4 62 [.int .i64 0, .int .i64 0]), (5, .val (.int .i64 sum)), (7, .val (.int .i64 n)), (8, .val (.int .i64 t8))] _
    obtain ⟨i1, i2, i3⟩ := hI
    have hsb := sumI_bd' (f := g) (m := 1000) t8.toNat (fun i hi => hg i (by omega))
    have hgi := fun e : t8 < n => hg t8.toNat (by omega)
    have ht8 : ((t8.toNat : Nat) : Int) = t8 := Int.toNat_of_nonneg i1
    refine code_seq (fun K5 hK5 => ?_)
    refine code_region ?_
    refine list_cons rfl (op_q (q_lt rfl rfl (by decide)) ?_)
    refine list_nil ?_
    refine hK5 _ ?_; clear hK5 K5
    refine code_seq (fun K6 hK6 => ?_)
    refine code_cond_d rfl (fun h1 => ?_) (fun h1 => ?_)
    · skip
      (try simp only [Decidable.not_not] at h1); (try have hgj := hgi h1); (try have hfj := hf t8.toNat (by omega)); (try rw [ht8] at hfj)
      refine code_skip ?_
      refine hK6 _ ?_; clear hK6 K6
      refine code_seq (fun K7 hK7 => ?_)
      refine code_block ?_
      refine code_seq (fun K8 hK8 => ?_)
      refine code_region ?_
      refine list_cons rfl (op_q (q_move rfl (by decide)) ?_)
      refine list_cons rfl (op_q (q_assign rfl (by decide)) ?_)
      refine list_nil ?_
      refine hK8 _ ?_; clear hK8 K8
      refine code_region ?_
      refine list_cons rfl (op_q (q_move rfl (by decide)) ?_)
      refine list_cons rfl (op_q (q_move rfl (by decide)) ?_)
      refine list_cons rfl (op_q (q_move rfl (by decide)) ?_)
      refine list_cons rfl (op_callF _ rfl rfl (hfj) rfl rfl (by decide) (by decide) (by decide) rfl ?_)
      rintro _ _ rfl
      refine list_cons rfl (op_q (by first | exact q_addI rfl rfl (by decide) (by omega) (by omega) | exact q_ib rfl rfl rfl (by decide)) ?_)
      refine list_cons rfl (op_q (q_assign rfl (by decide)) ?_)
      refine list_nil ?_
      refine blk_n ?_
      refine hK7 _ ?_; clear hK7 K7
      refine codeT.imp (σ' := [(0, _), (1, _), (4, _), (5, _), (6, _), (7, _), (8, _)]) ?_ (imp_covers ⟨rfl, rfl, rfl, rfl, rfl, rfl, rfl, trivial⟩)
      refine code_region ?_
      refine list_cons rfl (op_q (by first | exact q_addI rfl rfl (by decide) (by omega) (by omega) | exact q_ib rfl rfl rfl (by decide)) ?_)
      refine list_cons rfl (op_q (q_move rfl (by decide)) ?_)
      refine list_nil ?_
      refine then_n ⟨(_, _), imp_covers ⟨rfl, rfl, rfl, rfl, rfl, rfl, trivial⟩, ?_, ?_⟩
      · (try dsimp only)
        exact ⟨by omega, by omega, by rw [sumI_1 i1, i3]⟩
      · (try dsimp only); omega
    (try simp only [Decidable.not_not] at h1); (try have hgj := hgi h1); (try have hfj := hf t8.toNat (by omega)); (try rw [ht8] at hfj)
    refine code_exit ?_
    refine then_x ?_; clear hK6 K6
    refine then_x ?_
    refine blk_hit ?_
    refine hK3 _ ?_; clear hK3 K3
    refine code_seq (fun K9 hK9 => ?_)
    refine code_region ?_
    refine list_cons rfl (op_q (q_move rfl (by decide)) ?_)
    refine list_cons rfl (op_q (q_move rfl (by decide)) ?_)
    refine list_cons rfl (op_call _ (impl_fractionOf _ _ (by omega) (by omega)) rfl rfl (by decide) (by decide) (by decide) rfl ?_)
    rintro _ rfl
    refine list_cons rfl (op_store (agg_62).2 4 [4] (by intro t ht; simp only [List.mem_cons, List.not_mem_nil, or_false] at ht; subst ht; rfl) (.inr ⟨rfl, _, rfl⟩) rfl rfl rfl rfl (by first | rfl | exact flat_part (flat_map _ (fun _ => rfl) _) _ _ | exact flat_map _ (fun _ => rfl) _) (by first | rfl | (simp [PV.cells]; done)) (by first | decide | omega | exact Nat.le_refl _ | (simp; done) | (simp; omega)) (by decide) rfl ?_)
    refine list_nil ?_
    refine hK9 _ ?_; clear hK9 K9
    refine codeT.imp (σ' := [(0, _), (1, _), (4, _), (5, _), (7, _), (8, _)]) ?_ (imp_covers ⟨rfl, rfl, rfl, rfl, rfl, rfl, trivial⟩)
    refine code_ret ?_
    refine ends_ret (cs := []) rfl rfl rfl rfl trivial ?_
    first | (rw [i3, show t8.toNat = n.toNat by omega]; rfl)

set_option maxRecDepth 8000 in
set_option maxHeartbeats 2000000 in
theorem impl_meanOfI (f : FuncId) (g : Nat → Int) (n : Int) (hn : 1 ≤ n ∧ n ≤ 10000) (hg : ∀ i, i < n.toNat → 0 ≤ g i ∧ g i ≤ 1000) (r : Int) (hf : ∀ i : Nat, i < n.toNat → PCalls Tryd.prog f [.int .i64 r, .int .i64 (i : Int)] (· = [.val (.int .i64 (g i))])) : PCalls Tryd.prog 71 [.int .i64 n, .mth f [.int .i64 r]] (· = [.val (.agg [.int .i64 (frA (sumI g n.toNat) (n)), .int .i64 (frB (sumI g n.toNat) (n))])]) := by
  refine pcalls_of_code (n := 20) az Tryd.func71 (by kernel_rfl) rfl rfl (Nat.le_of_ble_eq_true rfl) (by intro t u h; simp [Tryd.f71] at h; obtain ⟨_, rfl⟩ := h <;> first | exact resTy_agg agg_62 (by decide)) ?_
  refine code_seq (fun K1 hK1 => ?_)
  refine code_region ?_
  refine list_cons rfl (op_alloc zt_62 (by decide) (by decide) rfl ?_)
  refine list_nil ?_
  refine hK1 _ ?_; clear hK1 K1
  refine code_seq (fun K2 hK2 => ?_)
  refine code_region ?_
  refine list_cons rfl (op_q (q_assign rfl (by decide)) ?_)
  refine list_nil ?_
  refine hK2 _ ?_; clear hK2 K2
  refine code_seq (fun K3 hK3 => ?_)
  refine code_seq (fun K4 hK4 => ?_)
  refine code_region ?_
  refine list_cons rfl (op_q (q_move rfl (by decide)) ?_)
  refine list_cons rfl (op_q (q_move rfl (by decide)) ?_)
  refine list_nil ?_
  refine hK4 _ ?_; clear hK4 K4
  refine code_block ?_
  refine code_loop (X := Int × Int) (fun x => [(0, .val (.int .i64 n)), (1, .val (.mth f [.int .i64 r])), (4, .box 4 62 [.int .i64 0, .int .i64 0]), (5, .val (.int .i64 x.1)), (7, .val (.int .i64 n)), (8, .val (.int .i64 x.2))]) (fun x => 0 ≤ x.2 ∧ x.2 ≤ n ∧ x.1 = sumI g x.2.toNat) (fun x => (n - x.2).toNat) (_, _) (imp_covers ⟨rfl, rfl, rfl, rfl, rfl, rfl, trivial⟩) ?_ ?_
  · (try dsimp only)
    exact ⟨by omega, by omega, rfl⟩
  · intro x hI
    obtain ⟨sum, t8⟩ := x
    replace hI : 0 ≤ t8 ∧ t8 ≤ n ∧ sum = sumI g t8.toNat := hI
    show codeT _ _ _ [(0, .val (.int .i64 n)), (1, .val (.mth f [.int .i64 r])), (4, .box 4 62 [.int .i64 0, .int .i64 0]), (5, .val (.int .i64 sum)), (7, .val (.int .i64 n)), (8, .val (.int .i64 t8))] _
    obtain ⟨i1, i2, i3⟩ := hI
    have hsb := sumI_bd' (f := g) (m := 1000) t8.toNat (fun i hi => hg i (by omega))
    have hgi := fun e : t8 < n => hg t8.toNat (by omega)
    have ht8 : ((t8.toNat : Nat) : Int) = t8 := Int.toNat_of_nonneg i1
    refine code_seq (fun K5 hK5 => ?_)
    refine code_region ?_
    refine list_cons rfl (op_q (q_lt rfl rfl (by decide)) ?_)
    refine list_nil ?_
    refine hK5 _ ?_; clear hK5 K5
    refine code_seq (fun K6 hK6 => ?_)
    refine code_cond_d rfl (fun h1 => ?_) (fun h1 => ?_)
    · skip
      (try simp only [Decidable.not_not] at h1); (try have hgj := hgi h1); (try have hfj := hf t8.toNat (by omega)); (try rw [ht8] at hfj)
      refine code_skip ?_
      refine hK6 _ ?_; clear hK6 K6
      refine code_seq (fun K7 hK7 => ?_)
      refine code_block ?_
      refine code_seq (fun K8 hK8 => ?_)
      refine code_region ?_
      refine list_cons rfl (op_q (q_move rfl (by decide)) ?_)
      refine list_cons rfl (op_q (q_assign rfl (by decide)) ?_)
      refine list_nil ?_
      refine hK8 _ ?_; clear hK8 K8
      refine code_region ?_
      refine list_cons rfl (op_q (q_move rfl (by decide)) ?_)
      refine list_cons rfl (op_q (q_move rfl (by decide)) ?_)
      refine list_cons rfl (op_q (q_move rfl (by decide)) ?_)
      refine list_cons rfl (op_callW _ rfl rfl rfl rfl (pcV (hfj)) (by decide) ?_)
      rintro _ rfl
      refine list_cons rfl (op_q (by first | exact q_addI rfl rfl (by decide) (by omega) (by omega) | exact q_ib rfl rfl rfl (by decide)) ?_)
      refine list_cons rfl (op_q (q_assign rfl (by decide)) ?_)
      refine list_nil ?_
      refine blk_n ?_
      refine hK7 _ ?_; clear hK7 K7
      refine codeT.imp (σ' := [(0, _), (1, _), (4, _), (5, _), (6, _), (7, _), (8, _)]) ?_ (imp_covers ⟨rfl, rfl, rfl, rfl, rfl, rfl, rfl, trivial⟩)
      refine code_region ?_
      refine list_cons rfl (op_q (by first | exact q_addI rfl rfl (by decide) (by omega) (by omega) | exact q_ib rfl rfl rfl (by decide)) ?_)
      refine list_cons rfl (op_q (q_move rfl (by decide)) ?_)
      refine list_nil ?_
      refine then_n ⟨(_, _), imp_covers ⟨rfl, rfl, rfl, rfl, rfl, rfl, trivial⟩, ?_, ?_⟩
      · (try dsimp only)
        exact ⟨by omega, by omega, by rw [sumI_1 i1, i3]⟩
      · (try dsimp only); omega
    (try simp only [Decidable.not_not] at h1); (try have hgj := hgi h1); (try have hfj := hf t8.toNat (by omega)); (try rw [ht8] at hfj)
    refine code_exit ?_
    refine then_x ?_; clear hK6 K6
    refine then_x ?_
    refine blk_hit ?_
    refine hK3 _ ?_; clear hK3 K3
    refine code_seq (fun K9 hK9 => ?_)
    refine code_region ?_
    refine list_cons rfl (op_q (q_move rfl (by decide)) ?_)
    refine list_cons rfl (op_q (q_move rfl (by decide)) ?_)
    refine list_cons rfl (op_call _ (impl_fractionOf _ _ (by omega) (by omega)) rfl rfl (by decide) (by decide) (by decide) rfl ?_)
    rintro _ rfl
    refine list_cons rfl (op_store (agg_62).2 4 [4] (by intro t ht; simp only [List.mem_cons, List.not_mem_nil, or_false] at ht; subst ht; rfl) (.inr ⟨rfl, _, rfl⟩) rfl rfl rfl rfl (by first | rfl | exact flat_part (flat_map _ (fun _ => rfl) _) _ _ | exact flat_map _ (fun _ => rfl) _) (by first | rfl | (simp [PV.cells]; done)) (by first | decide | omega | exact Nat.le_refl _ | (simp; done) | (simp; omega)) (by decide) rfl ?_)
    refine list_nil ?_
    refine hK9 _ ?_; clear hK9 K9
    refine codeT.imp (σ' := [(0, _), (1, _), (4, _), (5, _), (7, _), (8, _)]) ?_ (imp_covers ⟨rfl, rfl, rfl, rfl, rfl, rfl, trivial⟩)
    refine code_ret ?_
    refine ends_ret (cs := []) rfl rfl rfl rfl trivial ?_
    first | (rw [i3, show t8.toNat = n.toNat by omega]; rfl)

set_option maxRecDepth 8000 in
set_option maxHeartbeats 2000000 in
theorem impl_meanOfS (f : FuncId) (g : Nat → Int) (n : Int) (hn : 1 ≤ n ∧ n ≤ 10000) (hg : ∀ i, i < n.toNat → 0 ≤ g i ∧ g i ≤ 1000) (k : Nat) (cs : List PV) (hf : ∀ i : Nat, i < n.toNat → PCalls Tryd.prog f [.sl k cs, .int .i64 (i : Int)] (· = [.val (.int .i64 (g i))])) : PCalls Tryd.prog 71 [.int .i64 n, .mth f [.sl k cs]] (· = [.val (.agg [.int .i64 (frA (sumI g n.toNat) (n)), .int .i64 (frB (sumI g n.toNat) (n))])]) := by
  refine pcalls_of_code (n := 20) az Tryd.func71 (by kernel_rfl) rfl rfl (Nat.le_of_ble_eq_true rfl) (by intro t u h; simp [Tryd.f71] at h; obtain ⟨_, rfl⟩ := h <;> first | exact resTy_agg agg_62 (by decide)) ?_
  refine code_seq (fun K1 hK1 => ?_)
  refine code_region ?_
  refine list_cons rfl (op_alloc zt_62 (by decide) (by decide) rfl ?_)
  refine list_nil ?_
  refine hK1 _ ?_; clear hK1 K1
  refine code_seq (fun K2 hK2 => ?_)
  refine code_region ?_
  refine list_cons rfl (op_q (q_assign rfl (by decide)) ?_)
  refine list_nil ?_
  refine hK2 _ ?_; clear hK2 K2
  refine code_seq (fun K3 hK3 => ?_)
  refine code_seq (fun K4 hK4 => ?_)
  refine code_region ?_
  refine list_cons rfl (op_q (q_move rfl (by decide)) ?_)
  refine list_cons rfl (op_q (q_move rfl (by decide)) ?_)
  refine list_nil ?_
  refine hK4 _ ?_; clear hK4 K4
  refine code_block ?_
  refine code_loop (X := Int × Int) (fun x => [(0, .val (.int .i64 n)), (1, .par 1 (.mth f [.sl k cs])), (4, .box 4 62 [.int .i64 0, .int .i64 0]), (5, .val (.int .i64 x.1)), (7, .val (.int .i64 n)), (8, .val (.int .i64 x.2))]) (fun x => 0 ≤ x.2 ∧ x.2 ≤ n ∧ x.1 = sumI g x.2.toNat) (fun x => (n - x.2).toNat) (_, _) (imp_covers ⟨rfl, rfl, rfl, rfl, rfl, rfl, trivial⟩) ?_ ?_
  · (try dsimp only)
    exact ⟨by omega, by omega, rfl⟩
  · intro x hI
    obtain ⟨sum, t8⟩ := x
    replace hI : 0 ≤ t8 ∧ t8 ≤ n ∧ sum = sumI g t8.toNat := hI
    show codeT _ _ _ [(0, .val (.int .i64 n)), (1, .par 1 (.mth f [.sl k cs])), (4, .box 4 62 [.int .i64 0, .int .i64 0]), (5, .val (.int .i64 sum)), (7, .val (.int .i64 n)), (8, .val (.int .i64 t8))] _
    obtain ⟨i1, i2, i3⟩ := hI
    have hsb := sumI_bd' (f := g) (m := 1000) t8.toNat (fun i hi => hg i (by omega))
    have hgi := fun e : t8 < n => hg t8.toNat (by omega)
    have ht8 : ((t8.toNat : Nat) : Int) = t8 := Int.toNat_of_nonneg i1
    refine code_seq (fun K5 hK5 => ?_)
    refine code_region ?_
    refine list_cons rfl (op_q (q_lt rfl rfl (by decide)) ?_)
    refine list_nil ?_
    refine hK5 _ ?_; clear hK5 K5
    refine code_seq (fun K6 hK6 => ?_)
    refine code_cond_d rfl (fun h1 => ?_) (fun h1 => ?_)
    · skip
      (try simp only [Decidable.not_not] at h1); (try have hgj := hgi h1); (try have hfj := hf t8.toNat (by omega)); (try rw [ht8] at hfj)
      refine code_skip ?_
      refine hK6 _ ?_; clear hK6 K6
      refine code_seq (fun K7 hK7 => ?_)
      refine code_block ?_
      refine code_seq (fun K8 hK8 => ?_)
      refine code_region ?_
      refine list_cons rfl (op_q (q_move rfl (by decide)) ?_)
      refine list_cons rfl (op_q (q_assign rfl (by decide)) ?_)
      refine list_nil ?_
      refine hK8 _ ?_; clear hK8 K8
      refine code_region ?_
      refine list_cons rfl (op_q (q_move rfl (by decide)) ?_)
      refine list_cons rfl (op_q (q_move rfl (by decide)) ?_)
      refine list_cons rfl (op_q (q_move rfl (by decide)) ?_)
      refine list_cons rfl (op_callW _ rfl rfl rfl rfl (pcV (hfj)) (by decide) ?_)
      rintro _ rfl
      refine list_cons rfl (op_q (by first | exact q_addI rfl rfl (by decide) (by omega) (by omega) | exact q_ib rfl rfl rfl (by decide)) ?_)
      refine list_cons rfl (op_q (q_assign rfl (by decide)) ?_)
      refine list_nil ?_
      refine blk_n ?_
      refine hK7 _ ?_; clear hK7 K7
      refine codeT.imp (σ' := [(0, _), (1, _), (4, _), (5, _), (6, _), (7, _), (8, _)]) ?_ (imp_covers ⟨rfl, rfl, rfl, rfl, rfl, rfl, rfl, trivial⟩)
      refine code_region ?_
      refine list_cons rfl (op_q (by first | exact q_addI rfl rfl (by decide) (by omega) (by omega) | exact q_ib rfl rfl rfl (by decide)) ?_)
      refine list_cons rfl (op_q (q_move rfl (by decide)) ?_)
      refine list_nil ?_
      refine then_n ⟨(_, _), imp_covers ⟨rfl, rfl, rfl, rfl, rfl, rfl, trivial⟩, ?_, ?_⟩
      · (try dsimp only)
        exact ⟨by omega, by omega, by rw [sumI_1 i1, i3]⟩
      · (try dsimp only); omega
    (try simp only [Decidable.not_not] at h1); (try have hgj := hgi h1); (try have hfj := hf t8.toNat (by omega)); (try rw [ht8] at hfj)
    refine code_exit ?_
    refine then_x ?_; clear hK6 K6
    refine then_x ?_
    refine blk_hit ?_
    refine hK3 _ ?_; clear hK3 K3
    refine code_seq (fun K9 hK9 => ?_)
    refine code_region ?_
    refine list_cons rfl (op_q (q_move rfl (by decide)) ?_)
    refine list_cons rfl (op_q (q_move rfl (by decide)) ?_)
    refine list_cons rfl (op_call _ (impl_fractionOf _ _ (by omega) (by omega)) rfl rfl (by decide) (by decide) (by decide) rfl ?_)
    rintro _ rfl
    refine list_cons rfl (op_store (agg_62).2 4 [4] (by intro t ht; simp only [List.mem_cons, List.not_mem_nil, or_false] at ht; subst ht; rfl) (.inr ⟨rfl, _, rfl⟩) rfl rfl rfl rfl (by first | rfl | exact flat_part (flat_map _ (fun _ => rfl) _) _ _ | exact flat_map _ (fun _ => rfl) _) (by first | rfl | (simp [PV.cells]; done)) (by first | decide | omega | exact Nat.le_refl _ | (simp; done) | (simp; omega)) (by decide) rfl ?_)
    refine list_nil ?_
    refine hK9 _ ?_; clear hK9 K9
    refine codeT.imp (σ' := [(0, _), (1, _), (4, _), (5, _), (7, _), (8, _)]) ?_ (imp_covers ⟨rfl, rfl, rfl, rfl, rfl, rfl, trivial⟩)
    refine code_ret ?_
    refine ends_ret (cs := []) rfl rfl rfl rfl trivial ?_
    first | (rw [i3, show t8.toNat = n.toNat by omega]; rfl)

theorem flat_app9 : ∀ {a b : List PV}, PV.flatL a = true → PV.flatL b = true → PV.flatL (a ++ b) = true
  | [], b, _, h => h
  | x :: a, b, h1, h2 => by
    simp only [PV.flatL, Bool.and_eq_true] at h1
    show (x.flat && PV.flatL (a ++ b)) = true
    rw [h1.1, flat_app9 h1.2 h2]; rfl
/-- What is drawn among the first rounds. -/
def drB (k : Int) (j : Nat) : Bool := decide (fyOf j = 0 ∧ ((cnt7 (fxOf j).toNat : Nat) : Int) = k)
def dI (k : Int) (i : Nat) : List (Int × Int) := (((fltA 16384).take i).filter (drB k)).map fun j => (fxOf j, fyOf j)
theorem dI_len (k : Int) (i : Nat) : (dI k i).length ≤ 16384 := by
  unfold dI
  rw [List.length_map]
  exact Nat.le_trans (List.length_filter_le _ _) (Nat.le_trans (by rw [List.length_take]; exact Nat.min_le_right _ _) (fltA_len 16384))
theorem dI_succ (k : Int) {i : Nat} (h : i < (fltA 16384).length) : dI k (i + 1) = dI k i ++ if drB k ((fltA 16384).getD i 0) = true then [(fxOf ((fltA 16384).getD i 0), fyOf ((fltA 16384).getD i 0))] else [] := by
  unfold dI
  rw [List.take_add_one, List.getElem?_eq_getElem h, List.getD_eq_getElem?_getD, List.getElem?_eq_getElem h, Option.getD_some, Option.toList_some, List.filter_append, List.map_append]
  refine congrArg (_ ++ ·) ?_
  rw [List.filter_cons]
  split <;> rfl
theorem dI_yes (k : Int) {i : Nat} (h : i < (fltA 16384).length) (hf : fyOf ((fltA 16384).getD i 0) = 0 ∧ ((cnt7 (fxOf ((fltA 16384).getD i 0)).toNat : Nat) : Int) = k) : dI k (i + 1) = dI k i ++ [(fxOf ((fltA 16384).getD i 0), fyOf ((fltA 16384).getD i 0))] := by
  rw [dI_succ k h, if_pos (show drB k _ = true from decide_eq_true hf)]
theorem dI_no (k : Int) {i : Nat} (h : i < (fltA 16384).length) (hf : ¬ (fyOf ((fltA 16384).getD i 0) = 0 ∧ ((cnt7 (fxOf ((fltA 16384).getD i 0)).toNat : Nat) : Int) = k)) : dI k (i + 1) = dI k i := by
  rw [dI_succ k h, if_neg (fun z : drB k _ = true => hf (of_decide_eq_true z)), List.append_nil]
/-- The Faults that are drawn: the sets of k dark bars, in order. -/
def drL (k : Int) : List (Int × Int) := ((List.range 128).filter fun (d : Nat) => decide (((cnt7 d : Nat) : Int) = k)).map fun (d : Nat) => ((d : Int), (0 : Int))
def drQ (k : Int) (j : Nat) : Bool := decide (j % 128 = 0 ∧ ((cnt7 (j / 128) : Nat) : Int) = k)
theorem drQ_at (k : Int) (n : Nat) : (List.range 128).filter (fun m => drQ k (n * 128 + m)) = if ((cnt7 n : Nat) : Int) = k then [0] else [] := by
  have e0 : ∀ m : Nat, m < 128 → drQ k (n * 128 + m) = decide (m = 0 ∧ ((cnt7 n : Nat) : Int) = k) := fun m hm => by
    unfold drQ
    rw [show (n * 128 + m) / 128 = n by omega]
    exact decide_eq_decide.mpr ⟨fun z => ⟨by have := z.1; omega, z.2⟩, fun z => ⟨by have := z.1; omega, z.2⟩⟩
  rw [List.filter_congr (q := fun m => decide (m = 0 ∧ ((cnt7 n : Nat) : Int) = k)) (fun m hm => e0 m (List.mem_range.1 hm)), List.range_succ_eq_map, List.filter_cons]
  have e1 : List.filter (fun m => decide (m = 0 ∧ ((cnt7 n : Nat) : Int) = k)) (List.map Nat.succ (List.range 127)) = [] := by
    rw [List.filter_eq_nil_iff]
    intro a ha
    obtain ⟨b, _, rfl⟩ := List.mem_map.1 ha
    simp
  rw [e1]
  by_cases hk : ((cnt7 n : Nat) : Int) = k
  · rw [if_pos (decide_eq_true ⟨rfl, hk⟩), if_pos hk]
  · rw [if_neg (fun z => hk (of_decide_eq_true z).2), if_neg hk]
theorem drL_gen (k : Int) : ∀ n : Nat, ((List.range (n * 128)).filter (drQ k)).map (fun j => (fxOf j, fyOf j)) = ((List.range n).filter fun (d : Nat) => decide (((cnt7 d : Nat) : Int) = k)).map fun (d : Nat) => ((d : Int), (0 : Int)) := by
  intro n
  induction n with
  | zero => simp
  | succ n ih =>
    rw [show (n + 1) * 128 = n * 128 + 128 by omega, List.range_add, List.filter_append, List.map_append, ih, List.filter_map, List.range_succ (n := n), List.filter_append, List.map_append]
    congr 1
    rw [show (drQ k ∘ fun x => n * 128 + x) = fun m => drQ k (n * 128 + m) from rfl, drQ_at, List.filter_cons, List.filter_nil]
    by_cases hk : ((cnt7 n : Nat) : Int) = k
    · rw [if_pos hk, if_pos (decide_eq_true hk)]
      show [(fxOf (n * 128 + 0), fyOf (n * 128 + 0))] = [((n : Int), (0 : Int))]
      rw [show fxOf (n * 128 + 0) = (n : Int) by unfold fxOf; omega, show fyOf (n * 128 + 0) = (0 : Int) by unfold fyOf; omega]
    · rw [if_neg hk, if_neg (fun z => hk (of_decide_eq_true z))]; rfl
theorem drB_Q (k : Int) {j : Nat} (h : j < 128 * 128) : (decide (FaultP (fxOf j) (fyOf j)) && drB k j) = drQ k j := by
  unfold drB drQ
  rw [← Bool.decide_and]
  refine decide_eq_decide.mpr ⟨fun z => ?_, fun z => ?_⟩
  · have h1 := z.2.1; have h2 := z.2.2
    unfold fyOf at h1; unfold fxOf at h2
    exact ⟨by omega, h2⟩
  · have h1 := z.1; have h2 := z.2
    refine ⟨⟨?_, ?_, ?_⟩, ?_, h2⟩
    · unfold fxOf; omega
    · unfold fyOf; omega
    · unfold fyOf; rw [h1]; simp
    · unfold fyOf; omega
theorem dI_end (k : Int) : dI k (fltA 16384).length = drL k := by
  unfold dI drL
  rw [List.take_length, ← drL_gen k 128]
  refine congrArg (List.map _) ?_
  unfold fltA
  rw [List.filter_filter, show (16384 : Nat) = 128 * 128 by omega]
  apply List.filter_congr
  intro j hj
  rw [Bool.and_comm]
  exact drB_Q k (List.mem_range.1 hj)
theorem dI_ex (k : Int) : ∃ gI : Nat → List (Int × Int), gI 0 = [] ∧ (∀ i, (gI i).length ≤ 16384) ∧ gI (fltA 16384).length = drL k ∧ (∀ i, i < (fltA 16384).length → (fyOf ((fltA 16384).getD i 0) = 0 ∧ ((cnt7 (fxOf ((fltA 16384).getD i 0)).toNat : Nat) : Int) = k) → gI (i + 1) = gI i ++ [(fxOf ((fltA 16384).getD i 0), fyOf ((fltA 16384).getD i 0))]) ∧ ∀ i, i < (fltA 16384).length → ¬ (fyOf ((fltA 16384).getD i 0) = 0 ∧ ((cnt7 (fxOf ((fltA 16384).getD i 0)).toNat : Nat) : Int) = k) → gI (i + 1) = gI i :=
  ⟨dI k, by unfold dI; rw [List.take_zero]; rfl, dI_len k, dI_end k, fun i h z => dI_yes k h z, fun i h z => dI_no k h z⟩
theorem snocD9 {g g' : List (Int × Int)} {a b : Int} (h : g' = g ++ [(a, b)]) : ((g.length + 1, fl g ++ [PV.int .i64 a, PV.int .i64 b]) : Nat × List PV) = (g'.length, fl g') := by
  subst h; rw [List.length_append]; simp [fl]
theorem sameD9 {g g' : List (Int × Int)} (h : g' = g) : ((g.length, fl g) : Nat × List PV) = (g'.length, fl g') := by rw [h]
/-- The sum over what is drawn is that over the sets of k. -/
theorem drL_sum (k : Int) (f : Nat → Int) : ∀ n : Nat, sumI (fun i => f ((((List.range n).filter fun (d : Nat) => decide (((cnt7 d : Nat) : Int) = k)).getD i 0))) ((List.range n).filter fun (d : Nat) => decide (((cnt7 d : Nat) : Int) = k)).length = dkS k f n
  | 0 => rfl
  | n + 1 => by
    have ih := drL_sum k f n
    rw [List.range_succ, List.filter_append]
    generalize (List.range n).filter (fun (d : Nat) => decide (((cnt7 d : Nat) : Int) = k)) = L at ih ⊢
    have e : dkS k f (n + 1) = dkS k f n + if ((cnt7 n : Nat) : Int) = k then f n else 0 := rfl
    rw [e, ← ih]
    by_cases hk : ((cnt7 n : Nat) : Int) = k
    · have e1 : List.filter (fun (d : Nat) => decide (((cnt7 d : Nat) : Int) = k)) [n] = [n] := by simp [hk]
      rw [e1, if_pos hk, List.length_append]
      show sumI _ L.length + _ = _
      congr 1
      · apply sumI_congr
        intro i hi
        rw [List.getD_eq_getElem?_getD, List.getElem?_append_left hi, ← List.getD_eq_getElem?_getD]
      · show f ((L ++ [n]).getD L.length 0) = f n
        rw [List.getD_eq_getElem?_getD, List.getElem?_append_right (Nat.le_refl _), Nat.sub_self]; rfl
    · have e1 : List.filter (fun (d : Nat) => decide (((cnt7 d : Nat) : Int) = k)) [n] = [] := by simp [hk]
      rw [e1, if_neg hk, List.append_nil]; omega
theorem drL_len (k : Int) : ((drL k).length : Int) = dkN k 128 := by
  have h := drL_sum k (fun _ => 1) 128
  have e : ∀ n : Nat, sumI (fun _ => 1) n = (n : Int) := by
    intro n
    induction n with
    | zero => rfl
    | succ n ih => show sumI (fun _ => 1) n + 1 = _; rw [ih]; omega
  rw [e] at h
  unfold drL
  rw [List.length_map, h]; rfl
theorem drL_at (k : Int) {i : Nat} (h : i < (drL k).length) : ∃ d : Nat, d < 128 ∧ (drL k).getD i (0, 0) = ((d : Int), (0 : Int)) ∧ d = ((List.range 128).filter fun (d : Nat) => decide (((cnt7 d : Nat) : Int) = k)).getD i 0 := by
  have hl : i < ((List.range 128).filter fun (d : Nat) => decide (((cnt7 d : Nat) : Int) = k)).length := by unfold drL at h; simpa using h
  refine ⟨_, ?_, ?_, rfl⟩
  · rw [List.getD_eq_getElem?_getD, List.getElem?_eq_getElem hl, Option.getD_some]
    exact List.mem_range.1 (List.mem_filter.1 (List.getElem_mem hl)).1
  · unfold drL
    rw [List.getD_eq_getElem?_getD, List.getElem?_map, List.getD_eq_getElem?_getD, List.getElem?_eq_getElem hl]; rfl
theorem drS_eq (k : Int) (f : Nat → Int) : sumI (fun i => f ((drL k).getD i (0, 0)).1.toNat) (drL k).length = dkS k f 128 := by
  rw [← drL_sum k f 128]
  have hl : (drL k).length = ((List.range 128).filter fun (d : Nat) => decide (((cnt7 d : Nat) : Int) = k)).length := by unfold drL; simp
  rw [hl]
  apply sumI_congr
  intro i hi
  obtain ⟨d, _, h2, h3⟩ := drL_at k (i := i) (by rw [hl]; exact hi)
  show f ((drL k).getD i (0, 0)).1.toNat = _
  rw [h2, ← h3]; rfl
theorem drL_grp (k : Int) {i : Nat} (h : i < (drL k).length) : FaultP ((drL k).getD i (0, 0)).1 ((drL k).getD i (0, 0)).2 ∧ grp ((drL k).getD i (0, 0)).1 ((drL k).getD i (0, 0)).2 = grp ((((drL k).getD i (0, 0)).1.toNat : Nat) : Int) 0 := by
  obtain ⟨d, h1, h2, _⟩ := drL_at k h
  rw [h2]
  exact ⟨⟨by omega, by omega, by simp⟩, by simp⟩

set_option maxRecDepth 8000 in
set_option maxHeartbeats 2000000 in
theorem impl_faultsDrawnY (k : Int) (hk : 0 ≤ k ∧ k ≤ 7) : PCalls Tryd.prog 74 [.int .i64 k] (· = [.own 0 49 2 (drL k).length (fl (drL k)), .val (.bool true)]) := by
  refine pcalls_of_code (n := 32) az Tryd.func74 (by kernel_rfl) rfl rfl (Nat.le_of_ble_eq_true rfl) (by intro t u h; simp [Tryd.f74] at h) ?_
  obtain ⟨gI, g0, gL, gE, gY, gN⟩ := dI_ex k
  refine code_seq (fun K1 hK1 => ?_)
  refine code_region ?_
  refine list_cons rfl (op_box rfl (.inl ⟨rfl, rfl⟩) (by decide) (by decide) rfl ?_)
  refine list_cons rfl (op_q (q_assign rfl (by decide)) ?_)
  refine list_cons rfl (op_q (q_assign rfl (by decide)) ?_)
  refine list_nil ?_
  refine hK1 _ ?_; clear hK1 K1
  refine code_seq (fun K2 hK2 => ?_)
  refine code_seq (fun K3 hK3 => ?_)
  refine code_region ?_
  refine list_cons rfl (op_q (q_load_box1 one_3 rfl rfl (by decide)) ?_)
  refine list_cons rfl (op_q (q_lt rfl rfl (by decide)) ?_)
  refine list_cons rfl (op_q (q_move rfl (by decide)) ?_)
  refine list_guard_d rfl rfl rfl rfl (by decide) rfl (by decide) (fun h1 => ?_) (fun h1 => ?_)
  · simp only [Bool.false_eq_true, if_true, if_false, Decidable.not_not] at h1
    (try simp only [Decidable.not_not] at h1); (try have hq : (fxOf ((fltA 16384).getD i 0) = fxOf ((fltA 16384).getD i 0) ∧ fyOf ((fltA 16384).getD i 0) = 0 ∧ True) := h1)
    refine id (op_q (q_load_box1 one_3 rfl rfl (by decide)) ?_)
    refine list_guard_y rfl rfl rfl rfl (by decide) rfl ?_
    refine id (op_q (q_gt rfl rfl (by decide)) ?_)
    refine list_cons rfl (op_q (q_pick rfl rfl (by decide)) ?_)
    refine list_nil ?_
    refine hK3 _ ?_; clear hK3 K3
    refine code_cond_d rfl (fun h2 => ?_) (fun h2 => ?_)
    · skip
      (try simp only [Decidable.not_not] at h2); (try have hq : (fxOf ((fltA 16384).getD i 0) = fxOf ((fltA 16384).getD i 0) ∧ fyOf ((fltA 16384).getD i 0) = 0 ∧ True) := h2)
      refine code_seq (fun K4 hK4 => ?_)
      refine code_region ?_
      refine list_cons rfl (op_q (q_assign rfl (by decide)) ?_)
      refine list_cons rfl (op_q (q_assign rfl (by decide)) ?_)
      refine list_nil ?_
      refine hK4 _ ?_; clear hK4 K4
      refine code_ret ?_
      refine then_r ?_; clear hK2 K2
      refine ends_ret (cs := []) rfl rfl rfl rfl trivial ?_
      first
        | (exfalso; omega)
        | (rw [← gE]; done)
        | (rw [← gE]; rfl)
    (try simp only [Decidable.not_not] at h2); (try have hq : (fxOf ((fltA 16384).getD i 0) = fxOf ((fltA 16384).getD i 0) ∧ fyOf ((fltA 16384).getD i 0) = 0 ∧ True) := h2)
    refine code_skip ?_
    refine hK2 _ ?_; clear hK2 K2
    refine code_seq (fun K5 hK5 => ?_)
    refine code_region ?_
    refine list_cons rfl (op_buildSlice sl_77 (parts := []) rfl rfl rfl (by decide) (by decide) (by decide) rfl ?_)
    refine list_cons rfl (op_allocR (e := 49) (size := 2) (k := 1) zt_77 (by decide) (by decide) rfl ?_)
    refine list_cons rfl (op_storeR (one_77).2 4 (.inr ⟨rfl, rfl⟩) rfl rfl (by decide) (by decide) (by first | exact flat_app9 (fl_flat _) rfl | rfl) Nat.zero_lt_one rfl ?_)
    refine list_nil ?_
    refine hK5 _ ?_; clear hK5 K5
    refine codeT.imp (σ' := [(0, .val (.int .i64 k)), (1, .box 1 3 [.int .i64 k]), (2, .val (.sl 0 [])), (3, .val (.bool false)), (4, .boxR 4 77 49 2 [some ((gI 0).length, fl (gI 0))])]) ?_ (imp_covers ⟨rfl, rfl, rfl, rfl, (congrArg (fun (z : Nat × List PV) => some (SV.boxR 4 77 49 2 [some z])) (show ((0 : Nat), ([] : List PV)) = ((gI 0).length, fl (gI 0)) by rw [g0]; rfl)), trivial⟩)
    refine code_seq (fun K6 hK6 => ?_)
    refine code_block ?_
    refine code_rangeFunc0 (allFaults_it) ((fun (s0 s1 s2 s3 : SV) (i : Nat) => ([(0, s0), (1, s1), (2, s2), (3, s3), (4, .boxR 4 77 49 2 [some ((gI i).length, fl (gI i))])] : St)) _ _ _ _) (fun i => True) (trivial) rfl (by decide) rfl (fun _ _ => ⟨rfl, rfl⟩) (fun _ => rfl) rfl (imp_covers ⟨rfl, rfl, rfl, rfl, rfl, trivial⟩) (fun i hi hIi => ?_) (fun hIi => ?_)
    · intro K7 hK7
      refine codeT.imp (σ' := [(14, .val (.agg [.int .i64 (fxOf ((fltA 16384).getD i 0)), .int .i64 (fyOf ((fltA 16384).getD i 0))])), (0, _), (1, _), (2, _), (3, _), (4, _)]) ?_ (imp_covers ⟨rfl, rfl, rfl, rfl, rfl, rfl, trivial⟩)
      have hf := fE_ok hi
      refine code_region ?_
      refine list_cons rfl (op_alloc zt_49 (by decide) (by decide) rfl ?_)
      refine list_cons rfl (op_store (agg_49).2 5 [5] (by intro t ht; simp only [List.mem_cons, List.not_mem_nil, or_false] at ht; subst ht; rfl) (.inr ⟨rfl, _, rfl⟩) rfl rfl rfl rfl (by first | rfl | exact flat_part (flat_map _ (fun _ => rfl) _) _ _ | exact flat_map _ (fun _ => rfl) _) (by first | rfl | (simp [PV.cells]; done)) (by first | decide | omega | exact Nat.le_refl _ | (simp; done) | (simp; omega)) (by decide) rfl ?_)
      refine list_nil ?_
      refine hK7 _ rfl ?_; clear hK7 K7
      refine codeT.imp (σ' := [(0, _), (1, _), (2, _), (3, _), (4, _), (5, _), (14, _)]) ?_ (imp_covers ⟨rfl, rfl, rfl, rfl, rfl, rfl, rfl, trivial⟩)
      refine code_block ?_
      refine code_seq (fun K8 hK8 => ?_)
      refine code_region ?_
      refine list_cons rfl (op_q (q_fieldAddr fi_49_0 rfl rfl (by decide)) ?_)
      refine list_cons rfl (op_q (q_load one_3 5 rfl rfl rfl (by first | rfl | exact get_map1 _ 0 _ (by first | omega | (simp; omega))) (by decide)) ?_)
      refine list_cons rfl (op_q (q_build bt_49 (parts := [(0, .tmp 16)]) rfl rfl (by decide)) ?_)
      refine list_cons rfl (op_alloc zt_49 (by decide) (by decide) rfl ?_)
      refine list_cons rfl (op_store (agg_49).2 6 [6] (by intro t ht; simp only [List.mem_cons, List.not_mem_nil, or_false] at ht; subst ht; rfl) (.inr ⟨rfl, _, rfl⟩) rfl rfl rfl rfl (by first | rfl | exact flat_part (flat_map _ (fun _ => rfl) _) _ _ | exact flat_map _ (fun _ => rfl) _) (by first | rfl | (simp [PV.cells]; done)) (by first | decide | omega | exact Nat.le_refl _ | (simp; done) | (simp; omega)) (by decide) rfl ?_)
      refine list_nil ?_
      refine hK8 _ ?_; clear hK8 K8
      refine codeT.imp (σ' := [(0, _), (1, _), (2, _), (3, _), (4, _), (5, _), (6, _), (14, _)]) ?_ (imp_covers ⟨rfl, rfl, rfl, rfl, rfl, rfl, rfl, rfl, trivial⟩)
      refine code_seq (fun K9 hK9 => ?_)
      refine code_draw (by kernel_rfl) (by kernel_rfl) ?_
      refine draw_q rfl (q_load_agg agg_49 5 (.inr ⟨rfl, _, rfl⟩) rfl rfl (by first | decide | omega | exact Nat.le_refl _ | (simp; done) | (simp; omega)) (by first | rfl | exact flat_part (flat_map _ (fun _ => rfl) _) _ _) (by decide)) ?_
      refine draw_q rfl (q_load_agg agg_49 6 (.inr ⟨rfl, _, rfl⟩) rfl rfl (by first | decide | omega | exact Nat.le_refl _ | (simp; done) | (simp; omega)) (by first | rfl | exact flat_part (flat_map _ (fun _ => rfl) _) _ _) (by decide)) ?_
      refine draw_q rfl (q_aggeq (by decide) agg_49 eqty_49 eqg_49 rfl rfl (by first | exact ⟨_, _, rfl, ⟨_, rfl⟩, ⟨_, _, rfl, ⟨_, rfl⟩, trivial⟩⟩) (by first | exact ⟨_, _, rfl, ⟨_, rfl⟩, ⟨_, _, rfl, ⟨_, rfl⟩, trivial⟩⟩) rfl rfl (by decide)) ?_
      refine draw_q rfl (q_move rfl (by decide)) ?_
      refine draw_guard_d rfl rfl rfl rfl (by decide) rfl (by decide) (fun h3 => q_load_agg agg_49 5 (.inr ⟨rfl, _, rfl⟩) rfl rfl (by first | decide | omega | exact Nat.le_refl _ | (simp; done) | (simp; omega)) (by first | rfl | exact flat_part (flat_map _ (fun _ => rfl) _) _ _) (by decide)) (fun h3 => ?_) (fun h3 => ?_)
      · simp only [Bool.false_eq_true, if_true, if_false, Decidable.not_not] at h3
        (try simp only [Decidable.not_not] at h3); (try have hq : (fxOf ((fltA 16384).getD i 0) = fxOf ((fltA 16384).getD i 0) ∧ fyOf ((fltA 16384).getD i 0) = 0 ∧ True) := h3)
        refine draw_callW _ (impl_sizeOf _ _ hf) rfl rfl rfl (by decide) (wanted_of rfl rfl rfl (by decide)) ?_
        refine draw_guard_y rfl rfl rfl rfl (by decide) rfl (q_load_box1 one_3 rfl rfl (by decide)) ?_
        refine draw_guard_y rfl rfl rfl rfl (by decide) rfl (q_eq rfl rfl (by decide)) ?_
        refine draw_q rfl (q_pick rfl rfl (by decide)) ?_
        refine draw_nil ?_
        refine hK9 _ ?_; clear hK9 K9
        refine codeT.imp (σ' := [(0, _), (1, _), (2, _), (3, _), (4, _), (5, _), (6, _), (14, _), (26, _)]) ?_ (imp_covers ⟨rfl, rfl, rfl, rfl, rfl, rfl, rfl, rfl, rfl, trivial⟩)
        refine code_cond_d rfl (fun h4 => ?_) (fun h4 => ?_)
        · skip
          (try simp only [Decidable.not_not] at h4); (try have hq : (fxOf ((fltA 16384).getD i 0) = fxOf ((fltA 16384).getD i 0) ∧ fyOf ((fltA 16384).getD i 0) = 0 ∧ True) := h4)
          refine code_region ?_
          refine list_cons rfl (op_loadR one_77 4 (.inr ⟨rfl, rfl⟩) rfl rfl (by decide) (by decide) (by decide) rfl ?_)
          refine list_cons rfl (op_q (q_load_agg agg_49 5 (.inr ⟨rfl, _, rfl⟩) rfl rfl (by first | decide | omega | exact Nat.le_refl _ | (simp; done) | (simp; omega)) (by first | rfl | exact flat_part (flat_map _ (fun _ => rfl) _) _ _) (by decide)) ?_)
          refine list_cons rfl (op_buildSlice sl_77 (parts := [(0, .tmp 28)]) rfl rfl rfl (by decide) (by decide) (by decide) rfl ?_)
          refine list_cons rfl (op_append_gen sl_77 (l := 27) (.inl rfl) rfl rfl (l2 := none) (.inl ⟨rfl, (by first | rfl | exact flat_map _ (fun _ => rfl) _)⟩) (by first | rfl | (simp [PV.cells, putAt, zeros]; done)) (by have hq := gL i; omega) (by decide) (by decide) (by decide) ?_)
          refine list_cons rfl (op_storeR (one_77).2 4 (.inr ⟨rfl, rfl⟩) rfl rfl (by decide) (by decide) (by first | exact flat_app9 (fl_flat _) rfl | rfl) Nat.zero_lt_one rfl ?_)
          refine list_nil ?_
          refine blk_n ?_
          refine rp_n ⟨trivial, imp_covers ⟨rfl, rfl, rfl, rfl, (congrArg (fun z => some (SV.boxR 4 77 49 2 [some z])) (by first | exact sameD9 (gN i hi (fun z => h4 (show fxOf ((fltA 16384).getD i 0) = fxOf ((fltA 16384).getD i 0) ∧ fyOf ((fltA 16384).getD i 0) = 0 ∧ True from ⟨rfl, z.1, trivial⟩))) | exact sameD9 (gN i hi (fun z => h4 (by rw [z.1]; exact z.2))) | exact snocD9 (gY i hi ⟨hq.2.1, by have hz := h4; rw [hq.2.1] at hz; exact hz⟩))), trivial⟩⟩
        (try simp only [Decidable.not_not] at h4); (try have hq : (fxOf ((fltA 16384).getD i 0) = fxOf ((fltA 16384).getD i 0) ∧ fyOf ((fltA 16384).getD i 0) = 0 ∧ True) := h4)
        refine code_skip ?_
        refine blk_n ?_
        refine rp_n ⟨trivial, imp_covers ⟨rfl, rfl, rfl, rfl, (congrArg (fun z => some (SV.boxR 4 77 49 2 [some z])) (by first | exact sameD9 (gN i hi (fun z => h4 (show fxOf ((fltA 16384).getD i 0) = fxOf ((fltA 16384).getD i 0) ∧ fyOf ((fltA 16384).getD i 0) = 0 ∧ True from ⟨rfl, z.1, trivial⟩))) | exact sameD9 (gN i hi (fun z => h4 (by rw [z.1]; exact z.2))) | exact snocD9 (gY i hi ⟨hq.2.1, by have hz := h4; rw [hq.2.1] at hz; exact hz⟩))), trivial⟩⟩
      simp only [Bool.false_eq_true, if_true, if_false, Decidable.not_not] at h3
      (try simp only [Decidable.not_not] at h3); (try have hq : (fxOf ((fltA 16384).getD i 0) = fxOf ((fltA 16384).getD i 0) ∧ fyOf ((fltA 16384).getD i 0) = 0 ∧ True) := h3)
      refine draw_guard_n rfl rfl rfl rfl (by decide) rfl ?_
      refine draw_guard_n rfl rfl rfl rfl (by decide) rfl ?_
      refine draw_guard_n rfl rfl rfl rfl (by decide) rfl ?_
      refine draw_q rfl (q_pick rfl rfl (by decide)) ?_
      refine draw_nil ?_
      refine hK9 _ ?_; clear hK9 K9
      refine codeT.imp (σ' := [(0, _), (1, _), (2, _), (3, _), (4, _), (5, _), (6, _), (14, _), (26, _)]) ?_ (imp_covers ⟨rfl, rfl, rfl, rfl, rfl, rfl, rfl, rfl, rfl, trivial⟩)
      refine code_cond_f rfl ?_
      refine code_skip ?_
      refine blk_n ?_
      refine rp_n ⟨trivial, imp_covers ⟨rfl, rfl, rfl, rfl, (congrArg (fun z => some (SV.boxR 4 77 49 2 [some z])) (by first | exact sameD9 (gN i hi (fun z => h3 (show fxOf ((fltA 16384).getD i 0) = fxOf ((fltA 16384).getD i 0) ∧ fyOf ((fltA 16384).getD i 0) = 0 ∧ True from ⟨rfl, z.1, trivial⟩))) | exact sameD9 (gN i hi (fun z => h3 (by rw [z.1]; exact z.2))) | exact snocD9 (gY i hi ⟨hq.2.1, by have hz := h3; rw [hq.2.1] at hz; exact hz⟩))), trivial⟩⟩
    · skip
      refine blk_n ?_
      refine hK6 _ ?_; clear hK6 K6
      refine codeT.imp (σ' := [(0, _), (1, _), (2, _), (3, _), (4, _)]) ?_ (imp_covers ⟨rfl, rfl, rfl, rfl, rfl, trivial⟩)
      refine code_seq (fun K10 hK10 => ?_)
      refine code_region ?_
      refine list_cons rfl (op_loadR one_77 4 (.inr ⟨rfl, rfl⟩) rfl rfl (by decide) (by decide) (by decide) rfl ?_)
      refine list_cons rfl (op_q (q_assign rfl (by decide)) ?_)
      refine list_cons rfl (op_q (q_assign rfl (by decide)) ?_)
      refine list_nil ?_
      refine hK10 _ ?_; clear hK10 K10
      refine codeT.imp (σ' := [(0, _), (1, _), (2, _), (3, _), (4, _)]) ?_ (imp_covers ⟨rfl, rfl, rfl, rfl, rfl, trivial⟩)
      refine code_ret ?_
      refine ends_ret (cs := []) rfl rfl rfl rfl trivial ?_
      first
        | (exfalso; omega)
        | (rw [← gE]; done)
        | (rw [← gE]; rfl)
  simp only [Bool.false_eq_true, if_true, if_false, Decidable.not_not] at h1
  (try simp only [Decidable.not_not] at h1); (try have hq : (fxOf ((fltA 16384).getD i 0) = fxOf ((fltA 16384).getD i 0) ∧ fyOf ((fltA 16384).getD i 0) = 0 ∧ True) := h1)
  refine list_guard_n rfl rfl rfl rfl (by decide) rfl ?_
  refine list_cons rfl (op_q (q_pick rfl rfl (by decide)) ?_)
  refine list_nil ?_
  refine hK3 _ ?_; clear hK3 K3
  refine code_cond_t rfl ?_
  refine code_seq (fun K11 hK11 => ?_)
  refine code_region ?_
  refine list_cons rfl (op_q (q_assign rfl (by decide)) ?_)
  refine list_cons rfl (op_q (q_assign rfl (by decide)) ?_)
  refine list_nil ?_
  refine hK11 _ ?_; clear hK11 K11
  refine code_ret ?_
  refine then_r ?_; clear hK2 K2
  refine ends_ret (cs := []) rfl rfl rfl rfl trivial ?_
  first
    | (exfalso; omega)
    | (rw [← gE]; done)
    | (rw [← gE]; rfl)

set_option maxRecDepth 8000 in
set_option maxHeartbeats 2000000 in
theorem impl_faultsDrawnN (k : Int) (hk : ¬ (0 ≤ k ∧ k ≤ 7)) : PCalls Tryd.prog 74 [.int .i64 k] (· = [.val (.sl 0 []), .val (.bool false)]) := by
  refine pcalls_of_code (n := 32) az Tryd.func74 (by kernel_rfl) rfl rfl (Nat.le_of_ble_eq_true rfl) (by intro t u h; simp [Tryd.f74] at h) ?_
  refine code_seq (fun K1 hK1 => ?_)
  refine code_region ?_
  refine list_cons rfl (op_box rfl (.inl ⟨rfl, rfl⟩) (by decide) (by decide) rfl ?_)
  refine list_cons rfl (op_q (q_assign rfl (by decide)) ?_)
  refine list_cons rfl (op_q (q_assign rfl (by decide)) ?_)
  refine list_nil ?_
  refine hK1 _ ?_; clear hK1 K1
  refine code_seq (fun K2 hK2 => ?_)
  refine code_seq (fun K3 hK3 => ?_)
  refine code_region ?_
  refine list_cons rfl (op_q (q_load_box1 one_3 rfl rfl (by decide)) ?_)
  refine list_cons rfl (op_q (q_lt rfl rfl (by decide)) ?_)
  refine list_cons rfl (op_q (q_move rfl (by decide)) ?_)
  refine list_guard_d rfl rfl rfl rfl (by decide) rfl (by decide) (fun h1 => ?_) (fun h1 => ?_)
  · simp only [Bool.false_eq_true, if_true, if_false, Decidable.not_not] at h1
    refine id (op_q (q_load_box1 one_3 rfl rfl (by decide)) ?_)
    refine list_guard_y rfl rfl rfl rfl (by decide) rfl ?_
    refine id (op_q (q_gt rfl rfl (by decide)) ?_)
    refine list_cons rfl (op_q (q_pick rfl rfl (by decide)) ?_)
    refine list_nil ?_
    refine hK3 _ ?_; clear hK3 K3
    refine code_cond_d rfl (fun h2 => ?_) (fun h2 => ?_)
    · skip
      (try simp only [Decidable.not_not] at h2)
      refine code_seq (fun K4 hK4 => ?_)
      refine code_region ?_
      refine list_cons rfl (op_q (q_assign rfl (by decide)) ?_)
      refine list_cons rfl (op_q (q_assign rfl (by decide)) ?_)
      refine list_nil ?_
      refine hK4 _ ?_; clear hK4 K4
      refine code_ret ?_
      refine then_r ?_; clear hK2 K2
      refine ends_ret (cs := []) rfl rfl rfl rfl trivial ?_
      first | rfl | (exfalso; omega)
    (try simp only [Decidable.not_not] at h2)
    exfalso
    omega
  simp only [Bool.false_eq_true, if_true, if_false, Decidable.not_not] at h1
  refine list_guard_n rfl rfl rfl rfl (by decide) rfl ?_
  refine list_cons rfl (op_q (q_pick rfl rfl (by decide)) ?_)
  refine list_nil ?_
  refine hK3 _ ?_; clear hK3 K3
  refine code_cond_t rfl ?_
  refine code_seq (fun K5 hK5 => ?_)
  refine code_region ?_
  refine list_cons rfl (op_q (q_assign rfl (by decide)) ?_)
  refine list_cons rfl (op_q (q_assign rfl (by decide)) ?_)
  refine list_nil ?_
  refine hK5 _ ?_; clear hK5 K5
  refine code_ret ?_
  refine then_r ?_; clear hK2 K2
  refine ends_ret (cs := []) rfl rfl rfl rfl trivial ?_
  first | rfl | (exfalso; omega)

set_option maxRecDepth 8000 in
set_option maxHeartbeats 2000000 in
theorem impl_images (L : List (Int × Int)) (i : Int) (h0 : 0 ≤ i) (h1 : i < L.length) (hL : L.length ≤ 128) (hF : FaultP (L.getD i.toNat (0, 0)).1 (L.getD i.toNat (0, 0)).2) : PCalls Tryd.prog 75 [.sl L.length (fl L), .int .i64 i] (· = [.val (.int .i64 (((grp (L.getD i.toNat (0, 0)).1 (L.getD i.toNat (0, 0)).2).length : Int)))]) := by
  refine pcalls_of_code (n := 16) az Tryd.func75 (by kernel_rfl) rfl rfl (Nat.le_of_ble_eq_true rfl) (by intro t u h; simp [Tryd.f75] at h) ?_
  have hfl := fl_len L
  have hfla := fl_flat L
  refine code_seq (fun K1 hK1 => ?_)
  refine code_region ?_
  refine list_cons rfl (op_q (q_assign rfl (by decide)) ?_)
  refine list_nil ?_
  refine hK1 _ ?_; clear hK1 K1
  refine code_seq (fun K2 hK2 => ?_)
  refine code_region ?_
  refine list_cons rfl (op_q (q_move rfl (by decide)) ?_)
  refine list_cons rfl (op_q (q_move rfl (by decide)) ?_)
  refine list_cons rfl (op_q (q_indexAddr_rd sl_77 rfl (.inl ⟨_, rfl, rfl⟩) rfl (by omega) (by omega) (by decide)) ?_)
  refine list_cons rfl (op_q (q_load_rd_aggE agg_49 rfl (.inl ⟨_, rfl⟩) (by first | decide | omega | exact Nat.le_refl _ | (simp; done) | (simp; omega)) (fl_at L i.toNat (by omega)) rfl (by decide)) ?_)
  refine list_cons rfl (op_call _ (impl_CountImages (L.getD i.toNat (0, 0)).1 (L.getD i.toNat (0, 0)).2) rfl rfl (by decide) (by decide) (by decide) rfl ?_)
  rintro _ rfl; (try rw [if_pos hF])
  refine list_cons rfl (op_q (q_move rfl (by decide)) ?_)
  refine list_cons rfl (op_q (q_extract rfl rfl (by decide)) ?_)
  refine list_cons rfl (op_q (q_extract rfl rfl (by decide)) ?_)
  refine list_cons rfl (op_q (q_assign rfl (by decide)) ?_)
  refine list_cons rfl (op_q (q_assign rfl (by decide)) ?_)
  refine list_nil ?_
  refine hK2 _ ?_; clear hK2 K2
  refine codeT.imp (σ' := [(0, _), (1, _), (4, _), (5, _)]) ?_ (imp_covers ⟨rfl, rfl, rfl, rfl, trivial⟩)
  refine code_seq (fun K3 hK3 => ?_)
  refine code_region ?_
  refine list_cons rfl (op_q (q_move rfl (by decide)) ?_)
  refine list_cons rfl (op_q (q_assign rfl (by decide)) ?_)
  refine list_nil ?_
  refine hK3 _ ?_; clear hK3 K3
  refine code_ret ?_
  refine ends_ret (cs := []) rfl rfl rfl rfl trivial ?_
  first | rfl | (rw [if_pos (by assumption : FaultP _ _ ∧ _).2]; done) | (rw [if_neg (fun z => (by assumption : ¬ (FaultP _ _ ∧ _)) ⟨hF, z⟩)]; done)

set_option maxRecDepth 8000 in
set_option maxHeartbeats 2000000 in
theorem impl_harmless (L : List (Int × Int)) (i : Int) (h0 : 0 ≤ i) (h1 : i < L.length) (hL : L.length ≤ 128) (hF : FaultP (L.getD i.toNat (0, 0)).1 (L.getD i.toNat (0, 0)).2) : PCalls Tryd.prog 77 [.sl L.length (fl L), .int .i64 i] (· = [.val (.int .i64 (if (grp (L.getD i.toNat (0, 0)).1 (L.getD i.toNat (0, 0)).2).length = 10 then 1 else 0))]) := by
  refine pcalls_of_code (n := 16) az Tryd.func77 (by kernel_rfl) rfl rfl (Nat.le_of_ble_eq_true rfl) (by intro t u h; simp [Tryd.f77] at h) ?_
  have hfl := fl_len L
  have hfla := fl_flat L
  refine code_seq (fun K1 hK1 => ?_)
  refine code_region ?_
  refine list_cons rfl (op_q (q_assign rfl (by decide)) ?_)
  refine list_nil ?_
  refine hK1 _ ?_; clear hK1 K1
  refine code_seq (fun K2 hK2 => ?_)
  refine code_seq (fun K3 hK3 => ?_)
  refine code_region ?_
  refine list_cons rfl (op_q (q_move rfl (by decide)) ?_)
  refine list_cons rfl (op_q (q_move rfl (by decide)) ?_)
  refine list_cons rfl (op_q (q_indexAddr_rd sl_77 rfl (.inl ⟨_, rfl, rfl⟩) rfl (by omega) (by omega) (by decide)) ?_)
  refine list_cons rfl (op_q (q_load_rd_aggE agg_49 rfl (.inl ⟨_, rfl⟩) (by first | decide | omega | exact Nat.le_refl _ | (simp; done) | (simp; omega)) (fl_at L i.toNat (by omega)) rfl (by decide)) ?_)
  refine list_cons rfl (op_call _ (impl_IsHarmless (L.getD i.toNat (0, 0)).1 (L.getD i.toNat (0, 0)).2) rfl rfl (by decide) (by decide) (by decide) rfl ?_)
  rintro _ rfl; (try rw [if_pos hF])
  refine list_cons rfl (op_q (q_move rfl (by decide)) ?_)
  refine list_cons rfl (op_q (q_extract rfl rfl (by decide)) ?_)
  refine list_cons rfl (op_q (q_extract rfl rfl (by decide)) ?_)
  refine list_cons rfl (op_q (q_assign rfl (by decide)) ?_)
  refine list_cons rfl (op_q (q_assign rfl (by decide)) ?_)
  refine list_nil ?_
  refine hK3 _ ?_; clear hK3 K3
  refine codeT.imp (σ' := [(0, _), (1, _), (4, _), (5, _)]) ?_ (imp_covers ⟨rfl, rfl, rfl, rfl, trivial⟩)
  refine code_seq (fun K4 hK4 => ?_)
  refine code_region ?_
  refine list_cons rfl (op_q (q_move rfl (by decide)) ?_)
  refine list_nil ?_
  refine hK4 _ ?_; clear hK4 K4
  refine code_cond_d rfl (fun h1 => ?_) (fun h1 => ?_)
  · skip
    (try simp only [Decidable.not_not] at h1)
    refine code_seq (fun K5 hK5 => ?_)
    refine code_region ?_
    refine list_cons rfl (op_q (q_assign rfl (by decide)) ?_)
    refine list_nil ?_
    refine hK5 _ ?_; clear hK5 K5
    refine code_ret ?_
    refine then_r ?_; clear hK2 K2
    refine ends_ret (cs := []) rfl rfl rfl rfl trivial ?_
    first | rfl | (rw [if_pos (by assumption : FaultP _ _ ∧ _).2]; done) | (rw [if_neg (fun z => (by assumption : ¬ (FaultP _ _ ∧ _)) ⟨hF, z⟩)]; done)
  (try simp only [Decidable.not_not] at h1)
  refine code_skip ?_
  refine hK2 _ ?_; clear hK2 K2
  refine code_seq (fun K6 hK6 => ?_)
  refine code_region ?_
  refine list_cons rfl (op_q (q_assign rfl (by decide)) ?_)
  refine list_nil ?_
  refine hK6 _ ?_; clear hK6 K6
  refine code_ret ?_
  refine ends_ret (cs := []) rfl rfl rfl rfl trivial ?_
  first | rfl | (rw [if_pos (by assumption : FaultP _ _ ∧ _).2]; done) | (rw [if_neg (fun z => (by assumption : ¬ (FaultP _ _ ∧ _)) ⟨hF, z⟩)]; done)

theorem mean_images (k : Int) (i : Nat) (h : i < (drL k).length) : PCalls Tryd.prog 75 [.sl (drL k).length (fl (drL k)), .int .i64 (i : Int)] (· = [.val (.int .i64 (imF ((drL k).getD i (0, 0)).1.toNat))]) := by
  have hg := drL_grp k h
  have hl := drL_len k
  have hb := dkN_bd k 128
  have := impl_images (drL k) (i : Int) (by omega) (by omega) (by omega) (by rw [Int.toNat_natCast]; exact hg.1)
  rw [Int.toNat_natCast, hg.2] at this
  exact this

set_option maxRecDepth 8000 in
set_option maxHeartbeats 2000000 in
theorem impl_MeanImagesY (k : Int) (hk : 0 ≤ k ∧ k ≤ 7) : PCalls Tryd.prog 38 [.int .i64 k] (· = [.val (.agg [.int .i64 (frA (dkS k imF 128) (dkN k 128)), .int .i64 (frB (dkS k imF 128) (dkN k 128))]), .val (.bool true)]) := by
  refine pcalls_of_code (n := 19) az Tryd.func38 (by kernel_rfl) rfl rfl (Nat.le_of_ble_eq_true rfl) (by intro t u h; simp [Tryd.f38] at h; obtain ⟨_, rfl⟩ := h <;> first | exact resTy_agg agg_26 (by decide)) ?_
  have hl := drL_len k
  have hnp := dkN_pos hk.1 hk.2
  have hnb := dkN_bd k 128
  refine code_seq (fun K1 hK1 => ?_)
  refine code_region ?_
  refine list_cons rfl (op_alloc zt_26 (by decide) (by decide) rfl ?_)
  refine list_cons rfl (op_q (q_assign rfl (by decide)) ?_)
  refine list_nil ?_
  refine hK1 _ ?_; clear hK1 K1
  refine code_seq (fun K2 hK2 => ?_)
  refine code_region ?_
  refine list_cons rfl (op_q (q_move rfl (by decide)) ?_)
  refine list_cons rfl (op_call _ (impl_faultsDrawnY k hk) rfl rfl (by decide) (by decide) (by decide) rfl ?_)
  rintro _ rfl
  refine list_cons rfl (op_q (q_move rfl (by decide)) ?_)
  refine list_cons rfl (op_q (q_extract rfl rfl (by decide)) ?_)
  refine list_cons rfl (op_q (q_extract rfl rfl (by decide)) ?_)
  refine list_cons rfl (op_q (q_assign rfl (by decide)) ?_)
  refine list_cons rfl (op_q (q_assign rfl (by decide)) ?_)
  refine list_nil ?_
  refine hK2 _ ?_; clear hK2 K2
  refine codeT.imp (σ' := [(0, _), (2, _), (3, _), (4, _), (5, _)]) ?_ (imp_covers ⟨rfl, rfl, rfl, rfl, rfl, trivial⟩)
  refine code_seq (fun K3 hK3 => ?_)
  refine code_seq (fun K4 hK4 => ?_)
  refine code_region ?_
  refine list_cons rfl (op_q (q_move rfl (by decide)) ?_)
  refine list_cons rfl (op_q (by first | exact q_notd rfl (by decide) | exact q_not rfl (by decide)) ?_)
  refine list_nil ?_
  refine hK4 _ ?_; clear hK4 K4
  refine code_cond_f rfl ?_
  refine code_skip ?_
  refine hK3 _ ?_; clear hK3 K3
  refine code_seq (fun K5 hK5 => ?_)
  refine code_region ?_
  refine list_cons rfl (op_q (q_move rfl (by decide)) ?_)
  refine list_cons rfl (op_q (q_len_sl Tryd.underlying77 rfl rfl (by decide)) ?_)
  refine list_cons rfl (op_q (q_move rfl (by decide)) ?_)
  refine list_cons rfl (op_q (q_makeMth rfl rfl rfl rfl (by decide)) ?_)
  refine list_cons rfl (op_call _ (impl_meanOfS 75 (fun i => imF ((drL k).getD i (0, 0)).1.toNat) ((drL k).length : Int) (by omega) (fun i hi => by have := imF_bd ((drL k).getD i (0, 0)).1.toNat; omega) (drL k).length (fl (drL k)) (fun i hi => mean_images k i (by omega))) rfl rfl (by decide) (by decide) (by decide) rfl ?_)
  rintro _ rfl; rw [Int.toNat_natCast, drS_eq k imF, hl]
  refine list_cons rfl (op_store (agg_26).2 2 [2] (by intro t ht; simp only [List.mem_cons, List.not_mem_nil, or_false] at ht; subst ht; rfl) (.inr ⟨rfl, _, rfl⟩) rfl rfl rfl rfl (by first | rfl | exact flat_part (flat_map _ (fun _ => rfl) _) _ _ | exact flat_map _ (fun _ => rfl) _) (by first | rfl | (simp [PV.cells]; done)) (by first | decide | omega | exact Nat.le_refl _ | (simp; done) | (simp; omega)) (by decide) rfl ?_)
  refine list_cons rfl (op_q (q_assign rfl (by decide)) ?_)
  refine list_nil ?_
  refine hK5 _ ?_; clear hK5 K5
  refine codeT.imp (σ' := [(0, _), (2, _), (3, _), (4, _), (5, _)]) ?_ (imp_covers ⟨rfl, rfl, rfl, rfl, rfl, trivial⟩)
  refine code_ret ?_
  refine ends_ret (cs := []) rfl rfl rfl rfl trivial ?_
  first | rfl

set_option maxRecDepth 8000 in
set_option maxHeartbeats 2000000 in
theorem impl_MeanImagesN (k : Int) (hk : ¬ (0 ≤ k ∧ k ≤ 7)) : PCalls Tryd.prog 38 [.int .i64 k] (· = [.val (.agg [.int .i64 0, .int .i64 0]), .val (.bool false)]) := by
  refine pcalls_of_code (n := 19) az Tryd.func38 (by kernel_rfl) rfl rfl (Nat.le_of_ble_eq_true rfl) (by intro t u h; simp [Tryd.f38] at h; obtain ⟨_, rfl⟩ := h <;> first | exact resTy_agg agg_26 (by decide)) ?_
  refine code_seq (fun K1 hK1 => ?_)
  refine code_region ?_
  refine list_cons rfl (op_alloc zt_26 (by decide) (by decide) rfl ?_)
  refine list_cons rfl (op_q (q_assign rfl (by decide)) ?_)
  refine list_nil ?_
  refine hK1 _ ?_; clear hK1 K1
  refine code_seq (fun K2 hK2 => ?_)
  refine code_region ?_
  refine list_cons rfl (op_q (q_move rfl (by decide)) ?_)
  refine list_cons rfl (op_call _ (impl_faultsDrawnN k hk) rfl rfl (by decide) (by decide) (by decide) rfl ?_)
  rintro _ rfl
  refine list_cons rfl (op_q (q_move rfl (by decide)) ?_)
  refine list_cons rfl (op_q (q_extract rfl rfl (by decide)) ?_)
  refine list_cons rfl (op_q (q_extract rfl rfl (by decide)) ?_)
  refine list_cons rfl (op_q (q_assign rfl (by decide)) ?_)
  refine list_cons rfl (op_q (q_assign rfl (by decide)) ?_)
  refine list_nil ?_
  refine hK2 _ ?_; clear hK2 K2
  refine codeT.imp (σ' := [(0, _), (2, _), (3, _), (4, _), (5, _)]) ?_ (imp_covers ⟨rfl, rfl, rfl, rfl, rfl, trivial⟩)
  refine code_seq (fun K3 hK3 => ?_)
  refine code_seq (fun K4 hK4 => ?_)
  refine code_region ?_
  refine list_cons rfl (op_q (q_move rfl (by decide)) ?_)
  refine list_cons rfl (op_q (by first | exact q_notd rfl (by decide) | exact q_not rfl (by decide)) ?_)
  refine list_nil ?_
  refine hK4 _ ?_; clear hK4 K4
  refine code_cond_t rfl ?_
  refine code_seq (fun K5 hK5 => ?_)
  refine code_region ?_
  refine list_cons rfl (op_q (q_build bt_26 (parts := []) rfl rfl (by decide)) ?_)
  refine list_cons rfl (op_store (agg_26).2 2 [2] (by intro t ht; simp only [List.mem_cons, List.not_mem_nil, or_false] at ht; subst ht; rfl) (.inr ⟨rfl, _, rfl⟩) rfl rfl rfl rfl (by first | rfl | exact flat_part (flat_map _ (fun _ => rfl) _) _ _ | exact flat_map _ (fun _ => rfl) _) (by first | rfl | (simp [PV.cells]; done)) (by first | decide | omega | exact Nat.le_refl _ | (simp; done) | (simp; omega)) (by decide) rfl ?_)
  refine list_cons rfl (op_q (q_assign rfl (by decide)) ?_)
  refine list_nil ?_
  refine hK5 _ ?_; clear hK5 K5
  refine codeT.imp (σ' := [(0, _), (2, _), (3, _), (4, _), (5, _)]) ?_ (imp_covers ⟨rfl, rfl, rfl, rfl, rfl, trivial⟩)
  refine code_ret ?_
  refine then_r ?_; clear hK3 K3
  refine ends_ret (cs := []) rfl rfl rfl rfl trivial ?_
  first | rfl

theorem impl_MeanImages (k : Int) : PCalls Tryd.prog 38 [.int .i64 k] (· = [.val (.agg [.int .i64 (if (0 ≤ k ∧ k ≤ 7) then frA (dkS k imF 128) (dkN k 128) else 0), .int .i64 (if (0 ≤ k ∧ k ≤ 7) then frB (dkS k imF 128) (dkN k 128) else 0)]), .val (.bool (decide ((0 ≤ k ∧ k ≤ 7))))]) := by
  by_cases h : (0 ≤ k ∧ k ≤ 7)
  · simp only [if_pos h, decide_eq_true h]; exact impl_MeanImagesY k h
  · simp only [if_neg h, decide_eq_false h]; exact impl_MeanImagesN k h

theorem mean_harmless (k : Int) (i : Nat) (h : i < (drL k).length) : PCalls Tryd.prog 77 [.sl (drL k).length (fl (drL k)), .int .i64 (i : Int)] (· = [.val (.int .i64 (haF ((drL k).getD i (0, 0)).1.toNat))]) := by
  have hg := drL_grp k h
  have hl := drL_len k
  have hb := dkN_bd k 128
  have := impl_harmless (drL k) (i : Int) (by omega) (by omega) (by omega) (by rw [Int.toNat_natCast]; exact hg.1)
  rw [Int.toNat_natCast, hg.2] at this
  exact this

set_option maxRecDepth 8000 in
set_option maxHeartbeats 2000000 in
theorem impl_ChanceHarmlessY (k : Int) (hk : 0 ≤ k ∧ k ≤ 7) : PCalls Tryd.prog 42 [.int .i64 k] (· = [.val (.agg [.int .i64 (frA (dkS k haF 128) (dkN k 128)), .int .i64 (frB (dkS k haF 128) (dkN k 128))]), .val (.bool true)]) := by
  refine pcalls_of_code (n := 19) az Tryd.func42 (by kernel_rfl) rfl rfl (Nat.le_of_ble_eq_true rfl) (by intro t u h; simp [Tryd.f42] at h; obtain ⟨_, rfl⟩ := h <;> first | exact resTy_agg agg_26 (by decide)) ?_
  have hl := drL_len k
  have hnp := dkN_pos hk.1 hk.2
  have hnb := dkN_bd k 128
  refine code_seq (fun K1 hK1 => ?_)
  refine code_region ?_
  refine list_cons rfl (op_alloc zt_26 (by decide) (by decide) rfl ?_)
  refine list_cons rfl (op_q (q_assign rfl (by decide)) ?_)
  refine list_nil ?_
  refine hK1 _ ?_; clear hK1 K1
  refine code_seq (fun K2 hK2 => ?_)
  refine code_region ?_
  refine list_cons rfl (op_q (q_move rfl (by decide)) ?_)
  refine list_cons rfl (op_call _ (impl_faultsDrawnY k hk) rfl rfl (by decide) (by decide) (by decide) rfl ?_)
  rintro _ rfl
  refine list_cons rfl (op_q (q_move rfl (by decide)) ?_)
  refine list_cons rfl (op_q (q_extract rfl rfl (by decide)) ?_)
  refine list_cons rfl (op_q (q_extract rfl rfl (by decide)) ?_)
  refine list_cons rfl (op_q (q_assign rfl (by decide)) ?_)
  refine list_cons rfl (op_q (q_assign rfl (by decide)) ?_)
  refine list_nil ?_
  refine hK2 _ ?_; clear hK2 K2
  refine codeT.imp (σ' := [(0, _), (2, _), (3, _), (4, _), (5, _)]) ?_ (imp_covers ⟨rfl, rfl, rfl, rfl, rfl, trivial⟩)
  refine code_seq (fun K3 hK3 => ?_)
  refine code_seq (fun K4 hK4 => ?_)
  refine code_region ?_
  refine list_cons rfl (op_q (q_move rfl (by decide)) ?_)
  refine list_cons rfl (op_q (by first | exact q_notd rfl (by decide) | exact q_not rfl (by decide)) ?_)
  refine list_nil ?_
  refine hK4 _ ?_; clear hK4 K4
  refine code_cond_f rfl ?_
  refine code_skip ?_
  refine hK3 _ ?_; clear hK3 K3
  refine code_seq (fun K5 hK5 => ?_)
  refine code_region ?_
  refine list_cons rfl (op_q (q_move rfl (by decide)) ?_)
  refine list_cons rfl (op_q (q_len_sl Tryd.underlying77 rfl rfl (by decide)) ?_)
  refine list_cons rfl (op_q (q_move rfl (by decide)) ?_)
  refine list_cons rfl (op_q (q_makeMth rfl rfl rfl rfl (by decide)) ?_)
  refine list_cons rfl (op_call _ (impl_meanOfS 77 (fun i => haF ((drL k).getD i (0, 0)).1.toNat) ((drL k).length : Int) (by omega) (fun i hi => by have := haF_bd ((drL k).getD i (0, 0)).1.toNat; omega) (drL k).length (fl (drL k)) (fun i hi => mean_harmless k i (by omega))) rfl rfl (by decide) (by decide) (by decide) rfl ?_)
  rintro _ rfl; rw [Int.toNat_natCast, drS_eq k haF, hl]
  refine list_cons rfl (op_store (agg_26).2 2 [2] (by intro t ht; simp only [List.mem_cons, List.not_mem_nil, or_false] at ht; subst ht; rfl) (.inr ⟨rfl, _, rfl⟩) rfl rfl rfl rfl (by first | rfl | exact flat_part (flat_map _ (fun _ => rfl) _) _ _ | exact flat_map _ (fun _ => rfl) _) (by first | rfl | (simp [PV.cells]; done)) (by first | decide | omega | exact Nat.le_refl _ | (simp; done) | (simp; omega)) (by decide) rfl ?_)
  refine list_cons rfl (op_q (q_assign rfl (by decide)) ?_)
  refine list_nil ?_
  refine hK5 _ ?_; clear hK5 K5
  refine codeT.imp (σ' := [(0, _), (2, _), (3, _), (4, _), (5, _)]) ?_ (imp_covers ⟨rfl, rfl, rfl, rfl, rfl, trivial⟩)
  refine code_ret ?_
  refine ends_ret (cs := []) rfl rfl rfl rfl trivial ?_
  first | rfl

set_option maxRecDepth 8000 in
set_option maxHeartbeats 2000000 in
theorem impl_ChanceHarmlessN (k : Int) (hk : ¬ (0 ≤ k ∧ k ≤ 7)) : PCalls Tryd.prog 42 [.int .i64 k] (· = [.val (.agg [.int .i64 0, .int .i64 0]), .val (.bool false)]) := by
  refine pcalls_of_code (n := 19) az Tryd.func42 (by kernel_rfl) rfl rfl (Nat.le_of_ble_eq_true rfl) (by intro t u h; simp [Tryd.f42] at h; obtain ⟨_, rfl⟩ := h <;> first | exact resTy_agg agg_26 (by decide)) ?_
  refine code_seq (fun K1 hK1 => ?_)
  refine code_region ?_
  refine list_cons rfl (op_alloc zt_26 (by decide) (by decide) rfl ?_)
  refine list_cons rfl (op_q (q_assign rfl (by decide)) ?_)
  refine list_nil ?_
  refine hK1 _ ?_; clear hK1 K1
  refine code_seq (fun K2 hK2 => ?_)
  refine code_region ?_
  refine list_cons rfl (op_q (q_move rfl (by decide)) ?_)
  refine list_cons rfl (op_call _ (impl_faultsDrawnN k hk) rfl rfl (by decide) (by decide) (by decide) rfl ?_)
  rintro _ rfl
  refine list_cons rfl (op_q (q_move rfl (by decide)) ?_)
  refine list_cons rfl (op_q (q_extract rfl rfl (by decide)) ?_)
  refine list_cons rfl (op_q (q_extract rfl rfl (by decide)) ?_)
  refine list_cons rfl (op_q (q_assign rfl (by decide)) ?_)
  refine list_cons rfl (op_q (q_assign rfl (by decide)) ?_)
  refine list_nil ?_
  refine hK2 _ ?_; clear hK2 K2
  refine codeT.imp (σ' := [(0, _), (2, _), (3, _), (4, _), (5, _)]) ?_ (imp_covers ⟨rfl, rfl, rfl, rfl, rfl, trivial⟩)
  refine code_seq (fun K3 hK3 => ?_)
  refine code_seq (fun K4 hK4 => ?_)
  refine code_region ?_
  refine list_cons rfl (op_q (q_move rfl (by decide)) ?_)
  refine list_cons rfl (op_q (by first | exact q_notd rfl (by decide) | exact q_not rfl (by decide)) ?_)
  refine list_nil ?_
  refine hK4 _ ?_; clear hK4 K4
  refine code_cond_t rfl ?_
  refine code_seq (fun K5 hK5 => ?_)
  refine code_region ?_
  refine list_cons rfl (op_q (q_build bt_26 (parts := []) rfl rfl (by decide)) ?_)
  refine list_cons rfl (op_store (agg_26).2 2 [2] (by intro t ht; simp only [List.mem_cons, List.not_mem_nil, or_false] at ht; subst ht; rfl) (.inr ⟨rfl, _, rfl⟩) rfl rfl rfl rfl (by first | rfl | exact flat_part (flat_map _ (fun _ => rfl) _) _ _ | exact flat_map _ (fun _ => rfl) _) (by first | rfl | (simp [PV.cells]; done)) (by first | decide | omega | exact Nat.le_refl _ | (simp; done) | (simp; omega)) (by decide) rfl ?_)
  refine list_cons rfl (op_q (q_assign rfl (by decide)) ?_)
  refine list_nil ?_
  refine hK5 _ ?_; clear hK5 K5
  refine codeT.imp (σ' := [(0, _), (2, _), (3, _), (4, _), (5, _)]) ?_ (imp_covers ⟨rfl, rfl, rfl, rfl, rfl, trivial⟩)
  refine code_ret ?_
  refine then_r ?_; clear hK3 K3
  refine ends_ret (cs := []) rfl rfl rfl rfl trivial ?_
  first | rfl

theorem impl_ChanceHarmless (k : Int) : PCalls Tryd.prog 42 [.int .i64 k] (· = [.val (.agg [.int .i64 (if (0 ≤ k ∧ k ≤ 7) then frA (dkS k haF 128) (dkN k 128) else 0), .int .i64 (if (0 ≤ k ∧ k ≤ 7) then frB (dkS k haF 128) (dkN k 128) else 0)]), .val (.bool (decide ((0 ≤ k ∧ k ≤ 7))))]) := by
  by_cases h : (0 ≤ k ∧ k ≤ 7)
  · simp only [if_pos h, decide_eq_true h]; exact impl_ChanceHarmlessY k h
  · simp only [if_neg h, decide_eq_false h]; exact impl_ChanceHarmlessN k h

end Go.Proofs.YtbddhdbieelpjaaDoor
