/- Contracts of functions, walked over the pure layer; each says for which arguments. -/
import Derived.Test.YtbddhdbieelpjaaDoorm3Ty
import Derived.Lib.AppendIntMem
import Derived.Test.YtbddhdbieelpjaaDoorTf
import Derived.Test.YtbddhdbieelpjaaDoorm1
import Derived.Test.YtbddhdbieelpjaaDoorShelf
import Derived.Test.YtbddhdbieelpjaaDoorm2
namespace Go.Proofs.YtbddhdbieelpjaaDoor
open Go.RowKit m3Ty
set_option linter.unusedVariables false
set_option linter.unusedSimpArgs false

theorem res_agg9 {az : TypeId → Nat} {σ : St} {t u l e : Nat} {cs : List PV} (h : σ.at t = some (.box l e cs)) (haz : (az u == 0) = false) (hf : PV.flatL cs = true) (hl : cs.length = az u) : St.res az σ [.cell t u] = some [.val (.agg cs)] := by
  unfold St.res
  rw [h, show St.res az σ [] = some [] from rfl]
  simp only [haz, Bool.false_eq_true, if_false]
  rw [hf, hl]
  simp
theorem mul_bd9 {a b m n : Int} (ha : 0 ≤ a ∧ a ≤ m) (hb : 0 ≤ b ∧ b ≤ n) : 0 ≤ a * b ∧ a * b ≤ m * n := ⟨Int.mul_nonneg ha.1 hb.1, Int.mul_le_mul ha.2 hb.2 hb.1 (by omega)⟩
theorem mul_pos9 {a b : Int} (ha : 1 ≤ a) (hb : 1 ≤ b) : 1 ≤ a * b := by
  have := Int.mul_le_mul ha hb (by omega) (by omega)
  simpa using this


set_option maxRecDepth 8000 in
set_option maxHeartbeats 2000000 in
theorem impl_fractionOf (a b : Int) (ha : 0 ≤ a ∧ a ≤ 4611686018427387904) (hb : 1 ≤ b ∧ b ≤ 4611686018427387904) : PCalls Tryd.prog 56 [.int .i64 a, .int .i64 b] (· = [.val (.agg [.int .i64 (frA (a) (b)), .int .i64 (frB (a) (b))])]) := by
  refine pcalls_of_code (n := 22) az Tryd.func56 (by kernel_rfl) rfl rfl (Nat.le_of_ble_eq_true rfl) (by intro t u h; simp [Tryd.f56] at h; obtain ⟨_, rfl⟩ := h <;> first | exact resTy_agg agg_62 (by decide)) ?_
  refine code_seq (fun K1 hK1 => ?_)
  refine code_region ?_
  refine list_cons rfl (op_alloc zt_62 (by decide) (by decide) rfl ?_)
  refine list_nil ?_
  refine hK1 _ ?_; clear hK1 K1
  refine code_seq (fun K2 hK2 => ?_)
  refine code_region ?_
  refine list_cons rfl (op_q (q_move rfl (by decide)) ?_)
  refine list_cons rfl (op_q (q_move rfl (by decide)) ?_)
  refine list_cons rfl (op_q (q_assign rfl (by decide)) ?_)
  refine list_cons rfl (op_q (q_assign rfl (by decide)) ?_)
  refine list_nil ?_
  refine hK2 _ ?_; clear hK2 K2
  refine code_seq (fun K3 hK3 => ?_)
  refine code_block ?_
  refine code_loop (X := Int × Int) (fun x => [(0, .val (.int .i64 a)), (1, .val (.int .i64 b)), (4, .box 4 62 [.int .i64 0, .int .i64 0]), (5, .val (.int .i64 x.1)), (6, .val (.int .i64 x.2))]) (fun x => 0 ≤ x.1 ∧ 0 ≤ x.2 ∧ Nat.gcd x.1.toNat x.2.toNat = Nat.gcd a.toNat b.toNat) (fun x => x.2.toNat) (_, _) (imp_covers ⟨rfl, rfl, rfl, rfl, rfl, trivial⟩) ?_ ?_
  · (try dsimp only)
    exact ⟨by omega, by omega, Nat.gcd_comm _ _⟩
  · intro x hI
    obtain ⟨divisor, rest⟩ := x
    replace hI : 0 ≤ divisor ∧ 0 ≤ rest ∧ Nat.gcd divisor.toNat rest.toNat = Nat.gcd a.toNat b.toNat := hI
    show codeT _ _ _ [(0, .val (.int .i64 a)), (1, .val (.int .i64 b)), (4, .box 4 62 [.int .i64 0, .int .i64 0]), (5, .val (.int .i64 divisor)), (6, .val (.int .i64 rest))] _
    obtain ⟨i1, i2, i3⟩ := hI
    refine code_seq (fun K4 hK4 => ?_)
    refine code_seq (fun K5 hK5 => ?_)
    refine code_region ?_
    refine list_cons rfl (op_q (q_move rfl (by decide)) ?_)
    refine list_cons rfl (op_q (q_ne rfl rfl (by decide)) ?_)
    refine list_nil ?_
    refine hK5 _ ?_; clear hK5 K5
    refine code_cond_d rfl (fun h1 => ?_) (fun h1 => ?_)
    · skip
      (try simp only [Decidable.not_not] at h1); (try have hy : rest = 0 := by assumption); (try subst hy); (try have hx := gcd_end9 i3 i1); (try have hg := gcd_pos9 (a := a) hb.1)
      refine code_skip ?_
      refine hK4 _ ?_; clear hK4 K4
      refine code_block ?_
      refine code_draw (by kernel_rfl) (by kernel_rfl) ?_
      refine draw_q rfl (q_move rfl (by decide)) ?_
      refine draw_q rfl (q_move rfl (by decide)) ?_
      refine draw_q rfl (q_move rfl (by decide)) ?_
      refine draw_q rfl (by first | exact q_remI rfl rfl (by decide) (by omega) (by omega) | exact q_rem rfl rfl (by omega) (by decide)) ?_
      refine draw_q rfl (q_assign rfl (by decide)) ?_
      refine draw_q rfl (q_assign rfl (by decide)) ?_
      refine draw_nil ?_
      refine blk_n ?_
      refine then_n ⟨(_, _), imp_covers ⟨rfl, rfl, rfl, rfl, rfl, trivial⟩, ?_, ?_⟩
      · (try dsimp only)
        exact ⟨by omega, Int.emod_nonneg _ (by omega), gcd_stepI i1 i2 i3⟩
      · have := Int.emod_lt_of_pos divisor (show 0 < rest by omega); (try dsimp only); omega
    (try simp only [Decidable.not_not] at h1); (try have hy : rest = 0 := by assumption); (try subst hy); (try have hx := gcd_end9 i3 i1); (try have hg := gcd_pos9 (a := a) hb.1)
    refine code_exit ?_
    refine then_x ?_; clear hK4 K4
    refine then_x ?_
    refine blk_hit ?_
    refine hK3 _ ?_; clear hK3 K3
    refine code_seq (fun K6 hK6 => ?_)
    refine any_start fun ob1_0 => ?_
    refine any_op (rd := [0]) ob1_0 rfl rfl rfl (anyT_quiet [(0, _)] ⟨rfl, trivial⟩ rfl (q_move rfl (by decide))) (fun ob1_1 => ?_)
    refine any_op (rd := [5]) ob1_1 rfl rfl rfl (anyT_quiet [(5, _)] ⟨rfl, trivial⟩ rfl (q_move rfl (by decide))) (fun ob1_2 => ?_)
    refine any_op (rd := [15, 16]) ob1_2 rfl rfl rfl (anyT_quiet [(15, _), (16, _)] ⟨rfl, rfl, trivial⟩ rfl (by first | exact q_quoI rfl rfl (by decide) (by omega) (by omega) (by omega) | exact q_quoT rfl rfl (by omega) (by decide) (by omega) (by omega) | exact q_quo rfl rfl (by omega) (by decide))) (fun ob1_3 => ?_)
    refine any_op (rd := [1]) ob1_3 rfl rfl rfl (anyT_quiet [(1, _)] ⟨rfl, trivial⟩ rfl (q_move rfl (by decide))) (fun ob1_4 => ?_)
    refine any_op (rd := [5]) ob1_4 rfl rfl rfl (anyT_quiet [(5, _)] ⟨rfl, trivial⟩ rfl (q_move rfl (by decide))) (fun ob1_5 => ?_)
    refine any_op (rd := [18, 19]) ob1_5 rfl rfl rfl (anyT_quiet [(18, _), (19, _)] ⟨rfl, rfl, trivial⟩ rfl (by first | exact q_quoI rfl rfl (by decide) (by omega) (by omega) (by omega) | exact q_quoT rfl rfl (by omega) (by decide) (by omega) (by omega) | exact q_quo rfl rfl (by omega) (by decide))) (fun ob1_6 => ?_)
    refine any_end [[], [], [0, 1], [], [], [3, 4], [0, 1, 2, 3, 4, 5], [0, 1, 2, 3, 4, 5, 6]] ob1_6 (by kernel_rfl) (Nat.le_of_ble_eq_true rfl) (by decide) (by decide) (by kernel_rfl) (by kernel_rfl) (by kernel_rfl) (by kernel_rfl) (by kernel_rfl) ?_
    clear ob1_0 ob1_1 ob1_2 ob1_3 ob1_4 ob1_5 ob1_6
    refine listT.imp (σ' := [(0, _), (1, _), (4, _), (5, _), (6, _), (9, _), (10, _), (15, _), (16, _), (17, _), (18, _), (19, _), (20, _)]) ?_ (imp_covers ⟨rfl, rfl, rfl, rfl, rfl, rfl, rfl, rfl, rfl, rfl, rfl, rfl, rfl, trivial⟩)
    refine list_cons rfl (op_q (q_build bt_62 (parts := [(0, .tmp 17), (1, .tmp 20)]) rfl rfl (by decide)) ?_)
    refine list_cons rfl (op_store (agg_62).2 4 [4] (by intro t ht; simp only [List.mem_cons, List.not_mem_nil, or_false] at ht; subst ht; rfl) (.inr ⟨rfl, _, rfl⟩) rfl rfl rfl rfl (by first | rfl | exact flat_part (flat_map _ (fun _ => rfl) _) _ _ | exact flat_map _ (fun _ => rfl) _) (by first | rfl | (simp [PV.cells]; done)) (by first | decide | omega | exact Nat.le_refl _ | (simp; done) | (simp; omega)) (by decide) rfl ?_)
    refine list_nil ?_
    refine hK6 _ ?_; clear hK6 K6
    refine codeT.imp (σ' := [(0, _), (1, _), (4, _), (5, _), (6, _)]) ?_ (imp_covers ⟨rfl, rfl, rfl, rfl, rfl, trivial⟩)
    refine code_ret ?_
    refine ends_ret (cs := []) rfl rfl rfl rfl trivial ?_
    subst hx
    rw [frA_div ha.1, frB_div (by omega)]
    rfl

set_option maxRecDepth 8000 in
set_option maxHeartbeats 2000000 in
theorem impl_meanOf0 (f : FuncId) (g : Nat → Int) (n : Int) (hn : 1 ≤ n ∧ n ≤ 10000) (hg : ∀ i, i < n.toNat → 0 ≤ g i ∧ g i ≤ 1000) (hf : ∀ i : Nat, i < n.toNat → PCalls Tryd.prog f [.int .i64 (i : Int)] (· = [.val (.int .i64 (g i))])) : PCalls Tryd.prog 71 [.int .i64 n, .clo f []] (· = [.val (.agg [.int .i64 (frA (sumI g n.toNat) (n)), .int .i64 (frB (sumI g n.toNat) (n))])]) := by
  refine pcalls_of_code (n := 20) az Tryd.func71 (by kernel_rfl) rfl rfl (Nat.le_of_ble_eq_true rfl) (by intro t u h; simp [Tryd.f71] at h; obtain ⟨_, rfl⟩ := h <;> first | exact resTy_agg agg_62 (by decide)) ?_
  refine code_seq (fun K1 hK1 => ?_)
  refine code_region ?_
  refine list_cons rfl (op_alloc zt_62 (by decide) (by decide) rfl ?_)
  refine list_nil ?_
  refine hK1 _ ?_; clear hK1 K1
  refine code_seq (fun K2 hK2 => ?_)
  refine code_region ?_
  refine list_cons rfl (op_q (q_assign rfl (by decide)) ?_)
  refine list_nil ?_
  refine hK2 _ ?_; clear hK2 K2
  refine code_seq (fun K3 hK3 => ?_)
  refine code_seq (fun K4 hK4 => ?_)
  refine code_region ?_
  refine list_cons rfl (op_q (q_move rfl (by decide)) ?_)
  refine list_cons rfl (op_q (q_move rfl (by decide)) ?_)
  refine list_nil ?_
  refine hK4 _ ?_; clear hK4 K4
  refine code_block ?_
  refine code_loop (X := Int × Int) (fun x => [(0, .val (.int .i64 n)), (1, .val (.clo f [])), (4, .box 4 62 [.int .i64 0, .int .i64 0]), (5, .val (.int .i64 x.1)), (7, .val (.int .i64 n)), (8, .val (.int .i64 x.2))]) (fun x => 0 ≤ x.2 ∧ x.2 ≤ n ∧ x.1 = sumI g x.2.toNat) (fun x => (n - x.2).toNat) (_, _) (imp_covers ⟨rfl, rfl, rfl, rfl, rfl, rfl, trivial⟩) ?_ ?_
  · (try dsimp only)
    exact ⟨by omega, by omega, rfl⟩
  · intro x hI
    obtain ⟨sum, t8⟩ := x
    replace hI : 0 ≤ t8 ∧ t8 ≤ n ∧ sum = sumI g t8.toNat := hI
    show codeT _ _ _ [(0, .val (.int .i64 n)), (1, .val (.clo f [])), (4, .box 4 62 [.int .i64 0, .int .i64 0]), (5, .val (.int .i64 sum)), (7, .val (.int .i64 n)), (8, .val (.int .i64 t8))] _
    obtain ⟨i1, i2, i3⟩ := hI
    have hsb := sumI_bd' (f := g) (m := 1000) t8.toNat (fun i hi => hg i (by omega))
    have hgi := fun e : t8 < n => hg t8.toNat (by omega)
    have ht8 : ((t8.toNat : Nat) : Int) = t8 := Int.toNat_of_nonneg i1
    refine code_seq (fun K5 hK5 => ?_)
    refine code_region ?_
    refine list_cons rfl (op_q (q_lt rfl rfl (by decide)) ?_)
    refine list_nil ?_
    refine hK5 _ ?_; clear hK5 K5
    refine code_seq (fun K6 hK6 => ?_)
    refine code_cond_d rfl (fun h1 => ?_) (fun h1 => ?_)
    · skip
      (try simp only [Decidable.not_not] at h1); (try have hgj := hgi h1); (try have hfj := hf t8.toNat (by omega)); (try rw [ht8] at hfj)
      refine code_skip ?_
      refine hK6 _ ?_; clear hK6 K6
      refine code_seq (fun K7 hK7 => ?_)
      refine code_block ?_
      refine code_seq (fun K8 hK8 => ?_)
      refine code_region ?_
      refine list_cons rfl (op_q (q_move rfl (by decide)) ?_)
      refine list_cons rfl (op_q (q_assign rfl (by decide)) ?_)
      refine list_nil ?_
      refine hK8 _ ?_; clear hK8 K8
      refine code_region ?_
      refine list_cons rfl (op_q (q_move rfl (by decide)) ?_)
      refine list_cons rfl (op_q (q_move rfl (by decide)) ?_)
      refine list_cons rfl (op_q (q_move rfl (by decide)) ?_)
      refine list_cons rfl (op_callF _ rfl rfl (hfj) rfl rfl (by decide) (by decide) (by decide) rfl ?_)
      rintro _ _ rfl
      refine list_cons rfl (op_q (by first | exact q_addI rfl rfl (by decide) (by omega) (by omega) | exact q_ib rfl rfl rfl (by decide)) ?_)
      refine list_cons rfl (op_q (q_assign rfl (by decide)) ?_)
      refine list_nil ?_
      refine blk_n ?_
      refine hK7 _ ?_; clear hK7 K7
      refine codeT.imp (σ' := [(0, _), (1, _), (4, _), (5, _), (6, _), (7, _), (8, _)]) ?_ (imp_covers ⟨rfl, rfl, rfl, rfl, rfl, rfl, rfl, trivial⟩)
      refine code_region ?_
      refine list_cons rfl (op_q (by first | exact q_addI rfl rfl (by decide) (by omega) (by omega) | exact q_ib rfl rfl rfl (by decide)) ?_)
      refine list_cons rfl (op_q (q_move rfl (by decide)) ?_)
      refine list_nil ?_
      refine then_n ⟨(_, _), imp_covers ⟨rfl, rfl, rfl, rfl, rfl, rfl, trivial⟩, ?_, ?_⟩
      · (try dsimp only)
        exact ⟨by omega, by omega, by rw [sumI_1 i1, i3]⟩
      · (try dsimp only); omega
    (try simp only [Decidable.not_not] at h1); (try have hgj := hgi h1); (try have hfj := hf t8.toNat (by omega)); (try rw [ht8] at hfj)
    refine code_exit ?_
    refine then_x ?_; clear hK6 K6
    refine then_x ?_
    refine blk_hit ?_
    refine hK3 _ ?_; clear hK3 K3
    refine code_seq (fun K9 hK9 => ?_)
    refine code_region ?_
    refine list_cons rfl (op_q (q_move rfl (by decide)) ?_)
    refine list_cons rfl (op_q (q_move rfl (by decide)) ?_)
    refine list_cons rfl (op_call _ (impl_fractionOf _ _ (by omega) (by omega)) rfl rfl (by decide) (by decide) (by decide) rfl ?_)
    rintro _ rfl
    refine list_cons rfl (op_store (agg_62).2 4 [4] (by intro t ht; simp only [List.mem_cons, List.not_mem_nil, or_false] at ht; subst ht; rfl) (.inr ⟨rfl, _, rfl⟩) rfl rfl rfl rfl (by first | rfl | exact flat_part (flat_map _ (fun _ => rfl) _) _ _ | exact flat_map _ (fun _ => rfl) _) (by first | rfl | (simp [PV.cells]; done)) (by first | decide | omega | exact Nat.le_refl _ | (simp; done) | (simp; omega)) (by decide) rfl ?_)
    refine list_nil ?_
    refine hK9 _ ?_; clear hK9 K9
    refine codeT.imp (σ' := [(0, _), (1, _), (4, _), (5, _), (7, _), (8, _)]) ?_ (imp_covers ⟨rfl, rfl, rfl, rfl, rfl, rfl, trivial⟩)
    refine code_ret ?_
    refine ends_ret (cs := []) rfl rfl rfl rfl trivial ?_
    first | (rw [i3, show t8.toNat = n.toNat by omega]; rfl)

set_option maxRecDepth 8000 in
set_option maxHeartbeats 2000000 in
theorem impl_meanOfI (f : FuncId) (g : Nat → Int) (n : Int) (hn : 1 ≤ n ∧ n ≤ 10000) (hg : ∀ i, i < n.toNat → 0 ≤ g i ∧ g i ≤ 1000) (r : Int) (hf : ∀ i : Nat, i < n.toNat → PCalls Tryd.prog f [.int .i64 r, .int .i64 (i : Int)] (· = [.val (.int .i64 (g i))])) : PCalls Tryd.prog 71 [.int .i64 n, .mth f [.int .i64 r]] (· = [.val (.agg [.int .i64 (frA (sumI g n.toNat) (n)), .int .i64 (frB (sumI g n.toNat) (n))])]) := by
  refine pcalls_of_code (n := 20) az Tryd.func71 (by kernel_rfl) rfl rfl (Nat.le_of_ble_eq_true rfl) (by intro t u h; simp [Tryd.f71] at h; obtain ⟨_, rfl⟩ := h <;> first | exact resTy_agg agg_62 (by decide)) ?_
  refine code_seq (fun K1 hK1 => ?_)
  refine code_region ?_
  refine list_cons rfl (op_alloc zt_62 (by decide) (by decide) rfl ?_)
  refine list_nil ?_
  refine hK1 _ ?_; clear hK1 K1
  refine code_seq (fun K2 hK2 => ?_)
  refine code_region ?_
  refine list_cons rfl (op_q (q_assign rfl (by decide)) ?_)
  refine list_nil ?_
  refine hK2 _ ?_; clear hK2 K2
  refine code_seq (fun K3 hK3 => ?_)
  refine code_seq (fun K4 hK4 => ?_)
  refine code_region ?_
  refine list_cons rfl (op_q (q_move rfl (by decide)) ?_)
  refine list_cons rfl (op_q (q_move rfl (by decide)) ?_)
  refine list_nil ?_
  refine hK4 _ ?_; clear hK4 K4
  refine code_block ?_
  refine code_loop (X := Int × Int) (fun x => [(0, .val (.int .i64 n)), (1, .val (.mth f [.int .i64 r])), (4, .box 4 62 [.int .i64 0, .int .i64 0]), (5, .val (.int .i64 x.1)), (7, .val (.int .i64 n)), (8, .val (.int .i64 x.2))]) (fun x => 0 ≤ x.2 ∧ x.2 ≤ n ∧ x.1 = sumI g x.2.toNat) (fun x => (n - x.2).toNat) (_, _) (imp_covers ⟨rfl, rfl, rfl, rfl, rfl, rfl, trivial⟩) ?_ ?_
  · (try dsimp only)
    exact ⟨by omega, by omega, rfl⟩
  · intro x hI
    obtain ⟨sum, t8⟩ := x
    replace hI : 0 ≤ t8 ∧ t8 ≤ n ∧ sum = sumI g t8.toNat := hI
    show codeT _ _ _ [(0, .val (.int .i64 n)), (1, .val (.mth f [.int .i64 r])), (4, .box 4 62 [.int .i64 0, .int .i64 0]), (5, .val (.int .i64 sum)), (7, .val (.int .i64 n)), (8, .val (.int .i64 t8))] _
    obtain ⟨i1, i2, i3⟩ := hI
    have hsb := sumI_bd' (f := g) (m := 1000) t8.toNat (fun i hi => hg i (by omega))
    have hgi := fun e : t8 < n => hg t8.toNat (by omega)
    have ht8 : ((t8.toNat : Nat) : Int) = t8 := Int.toNat_of_nonneg i1
    refine code_seq (fun K5 hK5 => ?_)
    refine code_region ?_
    refine list_cons rfl (op_q (q_lt rfl rfl (by decide)) ?_)
    refine list_nil ?_
    refine hK5 _ ?_; clear hK5 K5
    refine code_seq (fun K6 hK6 => ?_)
    refine code_cond_d rfl (fun h1 => ?_) (fun h1 => ?_)
    · skip
      (try simp only [Decidable.not_not] at h1); (try have hgj := hgi h1); (try have hfj := hf t8.toNat (by omega)); (try rw [ht8] at hfj)
      refine code_skip ?_
      refine hK6 _ ?_; clear hK6 K6
      refine code_seq (fun K7 hK7 => ?_)
      refine code_block ?_
      refine code_seq (fun K8 hK8 => ?_)
      refine code_region ?_
      refine list_cons rfl (op_q (q_move rfl (by decide)) ?_)
      refine list_cons rfl (op_q (q_assign rfl (by decide)) ?_)
      refine list_nil ?_
      refine hK8 _ ?_; clear hK8 K8
      refine code_region ?_
      refine list_cons rfl (op_q (q_move rfl (by decide)) ?_)
      refine list_cons rfl (op_q (q_move rfl (by decide)) ?_)
      refine list_cons rfl (op_q (q_move rfl (by decide)) ?_)
      refine list_cons rfl (op_callW _ rfl rfl rfl rfl (pcV (hfj)) (by decide) ?_)
      rintro _ rfl
      refine list_cons rfl (op_q (by first | exact q_addI rfl rfl (by decide) (by omega) (by omega) | exact q_ib rfl rfl rfl (by decide)) ?_)
      refine list_cons rfl (op_q (q_assign rfl (by decide)) ?_)
      refine list_nil ?_
      refine blk_n ?_
      refine hK7 _ ?_; clear hK7 K7
      refine codeT.imp (σ' := [(0, _), (1, _), (4, _), (5, _), (6, _), (7, _), (8, _)]) ?_ (imp_covers ⟨rfl, rfl, rfl, rfl, rfl, rfl, rfl, trivial⟩)
      refine code_region ?_
      refine list_cons rfl (op_q (by first | exact q_addI rfl rfl (by decide) (by omega) (by omega) | exact q_ib rfl rfl rfl (by decide)) ?_)
      refine list_cons rfl (op_q (q_move rfl (by decide)) ?_)
      refine list_nil ?_
      refine then_n ⟨(_, _), imp_covers ⟨rfl, rfl, rfl, rfl, rfl, rfl, trivial⟩, ?_, ?_⟩
      · (try dsimp only)
        exact ⟨by omega, by omega, by rw [sumI_1 i1, i3]⟩
      · (try dsimp only); omega
    (try simp only [Decidable.not_not] at h1); (try have hgj := hgi h1); (try have hfj := hf t8.toNat (by omega)); (try rw [ht8] at hfj)
    refine code_exit ?_
    refine then_x ?_; clear hK6 K6
    refine then_x ?_
    refine blk_hit ?_
    refine hK3 _ ?_; clear hK3 K3
    refine code_seq (fun K9 hK9 => ?_)
    refine code_region ?_
    refine list_cons rfl (op_q (q_move rfl (by decide)) ?_)
    refine list_cons rfl (op_q (q_move rfl (by decide)) ?_)
    refine list_cons rfl (op_call _ (impl_fractionOf _ _ (by omega) (by omega)) rfl rfl (by decide) (by decide) (by decide) rfl ?_)
    rintro _ rfl
    refine list_cons rfl (op_store (agg_62).2 4 [4] (by intro t ht; simp only [List.mem_cons, List.not_mem_nil, or_false] at ht; subst ht; rfl) (.inr ⟨rfl, _, rfl⟩) rfl rfl rfl rfl (by first | rfl | exact flat_part (flat_map _ (fun _ => rfl) _) _ _ | exact flat_map _ (fun _ => rfl) _) (by first | rfl | (simp [PV.cells]; done)) (by first | decide | omega | exact Nat.le_refl _ | (simp; done) | (simp; omega)) (by decide) rfl ?_)
    refine list_nil ?_
    refine hK9 _ ?_; clear hK9 K9
    refine codeT.imp (σ' := [(0, _), (1, _), (4, _), (5, _), (7, _), (8, _)]) ?_ (imp_covers ⟨rfl, rfl, rfl, rfl, rfl, rfl, trivial⟩)
    refine code_ret ?_
    refine ends_ret (cs := []) rfl rfl rfl rfl trivial ?_
    first | (rw [i3, show t8.toNat = n.toNat by omega]; rfl)

set_option maxRecDepth 8000 in
set_option maxHeartbeats 2000000 in
theorem impl_meanOfS (f : FuncId) (g : Nat → Int) (n : Int) (hn : 1 ≤ n ∧ n ≤ 10000) (hg : ∀ i, i < n.toNat → 0 ≤ g i ∧ g i ≤ 1000) (k : Nat) (cs : List PV) (hf : ∀ i : Nat, i < n.toNat → PCalls Tryd.prog f [.sl k cs, .int .i64 (i : Int)] (· = [.val (.int .i64 (g i))])) : PCalls Tryd.prog 71 [.int .i64 n, .mth f [.sl k cs]] (· = [.val (.agg [.int .i64 (frA (sumI g n.toNat) (n)), .int .i64 (frB (sumI g n.toNat) (n))])]) := by
  refine pcalls_of_code (n := 20) az Tryd.func71 (by kernel_rfl) rfl rfl (Nat.le_of_ble_eq_true rfl) (by intro t u h; simp [Tryd.f71] at h; obtain ⟨_, rfl⟩ := h <;> first | exact resTy_agg agg_62 (by decide)) ?_
  refine code_seq (fun K1 hK1 => ?_)
  refine code_region ?_
  refine list_cons rfl (op_alloc zt_62 (by decide) (by decide) rfl ?_)
  refine list_nil ?_
  refine hK1 _ ?_; clear hK1 K1
  refine code_seq (fun K2 hK2 => ?_)
  refine code_region ?_
  refine list_cons rfl (op_q (q_assign rfl (by decide)) ?_)
  refine list_nil ?_
  refine hK2 _ ?_; clear hK2 K2
  refine code_seq (fun K3 hK3 => ?_)
  refine code_seq (fun K4 hK4 => ?_)
  refine code_region ?_
  refine list_cons rfl (op_q (q_move rfl (by decide)) ?_)
  refine list_cons rfl (op_q (q_move rfl (by decide)) ?_)
  refine list_nil ?_
  refine hK4 _ ?_; clear hK4 K4
  refine code_block ?_
  refine code_loop (X := Int × Int) (fun x => [(0, .val (.int .i64 n)), (1, .par 1 (.mth f [.sl k cs])), (4, .box 4 62 [.int .i64 0, .int .i64 0]), (5, .val (.int .i64 x.1)), (7, .val (.int .i64 n)), (8, .val (.int .i64 x.2))]) (fun x => 0 ≤ x.2 ∧ x.2 ≤ n ∧ x.1 = sumI g x.2.toNat) (fun x => (n - x.2).toNat) (_, _) (imp_covers ⟨rfl, rfl, rfl, rfl, rfl, rfl, trivial⟩) ?_ ?_
  · (try dsimp only)
    exact ⟨by omega, by omega, rfl⟩
  · intro x hI
    obtain ⟨sum, t8⟩ := x
    replace hI : 0 ≤ t8 ∧ t8 ≤ n ∧ sum = sumI g t8.toNat := hI
    show codeT _ _ _ [(0, .val (.int .i64 n)), (1, .par 1 (.mth f [.sl k cs])), (4, .box 4 62 [.int .i64 0, .int .i64 0]), (5, .val (.int .i64 sum)), (7, .val (.int .i64 n)), (8, .val (.int .i64 t8))] _
    obtain ⟨i1, i2, i3⟩ := hI
    have hsb := sumI_bd' (f := g) (m := 1000) t8.toNat (fun i hi => hg i (by omega))
    have hgi := fun e : t8 < n => hg t8.toNat (by omega)
    have ht8 : ((t8.toNat : Nat) : Int) = t8 := Int.toNat_of_nonneg i1
    refine code_seq (fun K5 hK5 => ?_)
    refine code_region ?_
    refine list_cons rfl (op_q (q_lt rfl rfl (by decide)) ?_)
    refine list_nil ?_
    refine hK5 _ ?_; clear hK5 K5
    refine code_seq (fun K6 hK6 => ?_)
    refine code_cond_d rfl (fun h1 => ?_) (fun h1 => ?_)
    · skip
      (try simp only [Decidable.not_not] at h1); (try have hgj := hgi h1); (try have hfj := hf t8.toNat (by omega)); (try rw [ht8] at hfj)
      refine code_skip ?_
      refine hK6 _ ?_; clear hK6 K6
      refine code_seq (fun K7 hK7 => ?_)
      refine code_block ?_
      refine code_seq (fun K8 hK8 => ?_)
      refine code_region ?_
      refine list_cons rfl (op_q (q_move rfl (by decide)) ?_)
      refine list_cons rfl (op_q (q_assign rfl (by decide)) ?_)
      refine list_nil ?_
      refine hK8 _ ?_; clear hK8 K8
      refine code_region ?_
      refine list_cons rfl (op_q (q_move rfl (by decide)) ?_)
      refine list_cons rfl (op_q (q_move rfl (by decide)) ?_)
      refine list_cons rfl (op_q (q_move rfl (by decide)) ?_)
      refine list_cons rfl (op_callW _ rfl rfl rfl rfl (pcV (hfj)) (by decide) ?_)
      rintro _ rfl
      refine list_cons rfl (op_q (by first | exact q_addI rfl rfl (by decide) (by omega) (by omega) | exact q_ib rfl rfl rfl (by decide)) ?_)
      refine list_cons rfl (op_q (q_assign rfl (by decide)) ?_)
      refine list_nil ?_
      refine blk_n ?_
      refine hK7 _ ?_; clear hK7 K7
      refine codeT.imp (σ' := [(0, _), (1, _), (4, _), (5, _), (6, _), (7, _), (8, _)]) ?_ (imp_covers ⟨rfl, rfl, rfl, rfl, rfl, rfl, rfl, trivial⟩)
      refine code_region ?_
      refine list_cons rfl (op_q (by first | exact q_addI rfl rfl (by decide) (by omega) (by omega) | exact q_ib rfl rfl rfl (by decide)) ?_)
      refine list_cons rfl (op_q (q_move rfl (by decide)) ?_)
      refine list_nil ?_
      refine then_n ⟨(_, _), imp_covers ⟨rfl, rfl, rfl, rfl, rfl, rfl, trivial⟩, ?_, ?_⟩
      · (try dsimp only)
        exact ⟨by omega, by omega, by rw [sumI_1 i1, i3]⟩
      · (try dsimp only); omega
    (try simp only [Decidable.not_not] at h1); (try have hgj := hgi h1); (try have hfj := hf t8.toNat (by omega)); (try rw [ht8] at hfj)
    refine code_exit ?_
    refine then_x ?_; clear hK6 K6
    refine then_x ?_
    refine blk_hit ?_
    refine hK3 _ ?_; clear hK3 K3
    refine code_seq (fun K9 hK9 => ?_)
    refine code_region ?_
    refine list_cons rfl (op_q (q_move rfl (by decide)) ?_)
    refine list_cons rfl (op_q (q_move rfl (by decide)) ?_)
    refine list_cons rfl (op_call _ (impl_fractionOf _ _ (by omega) (by omega)) rfl rfl (by decide) (by decide) (by decide) rfl ?_)
    rintro _ rfl
    refine list_cons rfl (op_store (agg_62).2 4 [4] (by intro t ht; simp only [List.mem_cons, List.not_mem_nil, or_false] at ht; subst ht; rfl) (.inr ⟨rfl, _, rfl⟩) rfl rfl rfl rfl (by first | rfl | exact flat_part (flat_map _ (fun _ => rfl) _) _ _ | exact flat_map _ (fun _ => rfl) _) (by first | rfl | (simp [PV.cells]; done)) (by first | decide | omega | exact Nat.le_refl _ | (simp; done) | (simp; omega)) (by decide) rfl ?_)
    refine list_nil ?_
    refine hK9 _ ?_; clear hK9 K9
    refine codeT.imp (σ' := [(0, _), (1, _), (4, _), (5, _), (7, _), (8, _)]) ?_ (imp_covers ⟨rfl, rfl, rfl, rfl, rfl, rfl, trivial⟩)
    refine code_ret ?_
    refine ends_ret (cs := []) rfl rfl rfl rfl trivial ?_
    first | (rw [i3, show t8.toNat = n.toNat by omega]; rfl)

set_option maxRecDepth 8000 in
set_option maxHeartbeats 2000000 in
theorem impl_litOfNumber (n : Int) (hn : 0 ≤ n ∧ n ≤ 9999) : PCalls Tryd.prog 72 [.int .i64 n] (· = [.val (.int .i64 (litD n.toNat))]) := by
  refine pcalls_of_code (n := 18) az Tryd.func72 (by kernel_rfl) rfl rfl (Nat.le_of_ble_eq_true rfl) (by intro t u h; simp [Tryd.f72] at h) ?_
  have hrw := rowN_row (n := n.toNat) (by omega)
  have hrl := (rowN_len 6 n.toNat (by omega) (by omega)).1
  refine code_seq (fun K1 hK1 => ?_)
  refine code_region ?_
  refine list_cons rfl (op_q (q_assign rfl (by decide)) ?_)
  refine list_nil ?_
  refine hK1 _ ?_; clear hK1 K1
  refine code_seq (fun K2 hK2 => ?_)
  refine code_region ?_
  refine list_cons rfl (op_q (q_move rfl (by decide)) ?_)
  refine list_cons rfl (op_call _ (impl_RowOf n) rfl rfl (by decide) (by decide) (by decide) rfl ?_)
  rintro _ rfl; rw [if_pos (show 0 ≤ n ∧ n ≤ 999999 by omega)]
  refine list_cons rfl (op_q (q_move rfl (by decide)) ?_)
  refine list_cons rfl (op_q (q_extract rfl rfl (by decide)) ?_)
  refine list_cons rfl (op_q (q_extract rfl rfl (by decide)) ?_)
  refine list_cons rfl (op_q (q_assign rfl (by decide)) ?_)
  refine list_cons rfl (op_q (q_assign rfl (by decide)) ?_)
  refine list_nil ?_
  refine hK2 _ ?_; clear hK2 K2
  refine codeT.imp (σ' := [(0, _), (2, _), (3, _)]) ?_ (imp_covers ⟨rfl, rfl, rfl, trivial⟩)
  refine code_seq (fun K3 hK3 => ?_)
  refine code_region ?_
  refine list_cons rfl (op_q (q_move rfl (by decide)) ?_)
  refine list_cons rfl (op_call _ (impl_LitOf (rowN n.toNat) (by omega)) rfl rfl (by decide) (by decide) (by decide) rfl ?_)
  rintro _ rfl; rw [if_pos hrw, litF_rowN (n.toNat + 1) n.toNat (by omega)]
  refine list_cons rfl (op_q (q_move rfl (by decide)) ?_)
  refine list_cons rfl (op_q (q_extract rfl rfl (by decide)) ?_)
  refine list_cons rfl (op_q (q_extract rfl rfl (by decide)) ?_)
  refine list_cons rfl (op_q (q_assign rfl (by decide)) ?_)
  refine list_cons rfl (op_q (q_assign rfl (by decide)) ?_)
  refine list_nil ?_
  refine hK3 _ ?_; clear hK3 K3
  refine codeT.imp (σ' := [(0, _), (2, _), (3, _), (5, _)]) ?_ (imp_covers ⟨rfl, rfl, rfl, rfl, trivial⟩)
  refine code_seq (fun K4 hK4 => ?_)
  refine code_region ?_
  refine list_cons rfl (op_q (q_move rfl (by decide)) ?_)
  refine list_cons rfl (op_q (q_assign rfl (by decide)) ?_)
  refine list_nil ?_
  refine hK4 _ ?_; clear hK4 K4
  refine code_ret ?_
  refine ends_ret (cs := []) rfl rfl rfl rfl trivial ?_
  first | rfl

theorem mean_bars (i : Nat) (h : i < 10000) : PCalls Tryd.prog 72 [.int .i64 (i : Int)] (· = [.val (.int .i64 (litD i))]) := by
  have := impl_litOfNumber (i : Int) (by omega)
  rw [Int.toNat_natCast] at this
  exact this

set_option maxRecDepth 8000 in
set_option maxHeartbeats 2000000 in
theorem impl_MeanBars (n : Int) : PCalls Tryd.prog 36 [.int .i64 n] (· = [.val (.agg [.int .i64 (if (0 ≤ n ∧ n ≤ 9999) then frA (sumI (litD) (n.toNat + 1)) (n + 1) else 0), .int .i64 (if (0 ≤ n ∧ n ≤ 9999) then frB (sumI (litD) (n.toNat + 1)) (n + 1) else 0)]), .val (.bool (decide ((0 ≤ n ∧ n ≤ 9999))))]) := by
  refine pcalls_of_code (n := 14) az Tryd.func36 (by kernel_rfl) rfl rfl (Nat.le_of_ble_eq_true rfl) (by intro t u h; simp [Tryd.f36] at h; obtain ⟨_, rfl⟩ := h <;> first | exact resTy_agg agg_26 (by decide)) ?_
  refine code_seq (fun K1 hK1 => ?_)
  refine code_region ?_
  refine list_cons rfl (op_alloc zt_26 (by decide) (by decide) rfl ?_)
  refine list_cons rfl (op_q (q_assign rfl (by decide)) ?_)
  refine list_nil ?_
  refine hK1 _ ?_; clear hK1 K1
  refine code_seq (fun K2 hK2 => ?_)
  refine code_seq (fun K3 hK3 => ?_)
  refine code_region ?_
  refine list_cons rfl (op_q (q_move rfl (by decide)) ?_)
  refine list_cons rfl (op_q (q_lt rfl rfl (by decide)) ?_)
  refine list_cons rfl (op_q (q_move rfl (by decide)) ?_)
  refine list_guard_d rfl rfl rfl rfl (by decide) rfl (by decide) (fun h1 => ?_) (fun h1 => ?_)
  · simp only [Bool.false_eq_true, if_true, if_false, Decidable.not_not] at h1
    (try simp only [Decidable.not_not] at h1)
    refine id (op_q (q_move rfl (by decide)) ?_)
    refine list_guard_y rfl rfl rfl rfl (by decide) rfl ?_
    refine id (op_q (q_gt rfl rfl (by decide)) ?_)
    refine list_cons rfl (op_q (q_pick rfl rfl (by decide)) ?_)
    refine list_nil ?_
    refine hK3 _ ?_; clear hK3 K3
    refine code_cond_d rfl (fun h2 => ?_) (fun h2 => ?_)
    · skip
      (try simp only [Decidable.not_not] at h2)
      refine code_seq (fun K4 hK4 => ?_)
      refine code_region ?_
      refine list_cons rfl (op_q (q_build bt_26 (parts := []) rfl rfl (by decide)) ?_)
      refine list_cons rfl (op_store (agg_26).2 2 [2] (by intro t ht; simp only [List.mem_cons, List.not_mem_nil, or_false] at ht; subst ht; rfl) (.inr ⟨rfl, _, rfl⟩) rfl rfl rfl rfl (by first | rfl | exact flat_part (flat_map _ (fun _ => rfl) _) _ _ | exact flat_map _ (fun _ => rfl) _) (by first | rfl | (simp [PV.cells]; done)) (by first | decide | omega | exact Nat.le_refl _ | (simp; done) | (simp; omega)) (by decide) rfl ?_)
      refine list_cons rfl (op_q (q_assign rfl (by decide)) ?_)
      refine list_nil ?_
      refine hK4 _ ?_; clear hK4 K4
      refine codeT.imp (σ' := [(0, _), (2, _), (3, _)]) ?_ (imp_covers ⟨rfl, rfl, rfl, trivial⟩)
      refine code_ret ?_
      refine then_r ?_; clear hK2 K2
      refine ends_ret (cs := []) rfl rfl rfl rfl trivial ?_
      first
        | (have e : ¬ (0 ≤ n ∧ n ≤ 9999) := by omega
           simp only [if_neg e, decide_eq_false e]; first | done | rfl)
        | (have e : 0 ≤ n ∧ n ≤ 9999 := by omega
           simp only [if_pos e, decide_eq_true e]; first | done | rfl)
    (try simp only [Decidable.not_not] at h2)
    refine code_skip ?_
    refine hK2 _ ?_; clear hK2 K2
    refine code_seq (fun K5 hK5 => ?_)
    refine code_region ?_
    refine list_cons rfl (op_q (q_move rfl (by decide)) ?_)
    refine list_cons rfl (op_q (by first | exact q_addI rfl rfl (by decide) (by omega) (by omega) | exact q_ib rfl rfl rfl (by decide)) ?_)
    refine list_cons rfl (op_call _ (impl_meanOf0 72 litD (n + 1) (by omega) (fun i hi => by have := litD_bd 3 i (by omega); omega) (fun i hi => mean_bars i (by omega))) rfl rfl (by decide) (by decide) (by decide) rfl ?_)
    rintro _ rfl; rw [show (n + 1).toNat = n.toNat + 1 by omega]
    refine list_cons rfl (op_store (agg_26).2 2 [2] (by intro t ht; simp only [List.mem_cons, List.not_mem_nil, or_false] at ht; subst ht; rfl) (.inr ⟨rfl, _, rfl⟩) rfl rfl rfl rfl (by first | rfl | exact flat_part (flat_map _ (fun _ => rfl) _) _ _ | exact flat_map _ (fun _ => rfl) _) (by first | rfl | (simp [PV.cells]; done)) (by first | decide | omega | exact Nat.le_refl _ | (simp; done) | (simp; omega)) (by decide) rfl ?_)
    refine list_cons rfl (op_q (q_assign rfl (by decide)) ?_)
    refine list_nil ?_
    refine hK5 _ ?_; clear hK5 K5
    refine codeT.imp (σ' := [(0, _), (2, _), (3, _)]) ?_ (imp_covers ⟨rfl, rfl, rfl, trivial⟩)
    refine code_ret ?_
    refine ends_ret (cs := []) rfl rfl rfl rfl trivial ?_
    first
      | (have e : ¬ (0 ≤ n ∧ n ≤ 9999) := by omega
         simp only [if_neg e, decide_eq_false e]; first | done | rfl)
      | (have e : 0 ≤ n ∧ n ≤ 9999 := by omega
         simp only [if_pos e, decide_eq_true e]; first | done | rfl)
  simp only [Bool.false_eq_true, if_true, if_false, Decidable.not_not] at h1
  (try simp only [Decidable.not_not] at h1)
  refine list_guard_n rfl rfl rfl rfl (by decide) rfl ?_
  refine list_cons rfl (op_q (q_pick rfl rfl (by decide)) ?_)
  refine list_nil ?_
  refine hK3 _ ?_; clear hK3 K3
  refine code_cond_t rfl ?_
  refine code_seq (fun K6 hK6 => ?_)
  refine code_region ?_
  refine list_cons rfl (op_q (q_build bt_26 (parts := []) rfl rfl (by decide)) ?_)
  refine list_cons rfl (op_store (agg_26).2 2 [2] (by intro t ht; simp only [List.mem_cons, List.not_mem_nil, or_false] at ht; subst ht; rfl) (.inr ⟨rfl, _, rfl⟩) rfl rfl rfl rfl (by first | rfl | exact flat_part (flat_map _ (fun _ => rfl) _) _ _ | exact flat_map _ (fun _ => rfl) _) (by first | rfl | (simp [PV.cells]; done)) (by first | decide | omega | exact Nat.le_refl _ | (simp; done) | (simp; omega)) (by decide) rfl ?_)
  refine list_cons rfl (op_q (q_assign rfl (by decide)) ?_)
  refine list_nil ?_
  refine hK6 _ ?_; clear hK6 K6
  refine codeT.imp (σ' := [(0, _), (2, _), (3, _)]) ?_ (imp_covers ⟨rfl, rfl, rfl, trivial⟩)
  refine code_ret ?_
  refine then_r ?_; clear hK2 K2
  refine ends_ret (cs := []) rfl rfl rfl rfl trivial ?_
  first
    | (have e : ¬ (0 ≤ n ∧ n ≤ 9999) := by omega
       simp only [if_neg e, decide_eq_false e]; first | done | rfl)
    | (have e : 0 ≤ n ∧ n ≤ 9999 := by omega
       simp only [if_pos e, decide_eq_true e]; first | done | rfl)

end Go.Proofs.YtbddhdbieelpjaaDoor
