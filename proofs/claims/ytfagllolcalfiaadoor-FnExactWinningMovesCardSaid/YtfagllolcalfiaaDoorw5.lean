/- Contracts of functions, walked over the pure layer; each says for which arguments. -/
import Derived.Test.YtfagllolcalfiaaDoorw5Ty
import Derived.Test.YtfagllolcalfiaaDoorTf
import Derived.Test.YtfagllolcalfiaaDoorw1
import Derived.Test.YtfagllolcalfiaaDoorShelf
import Derived.Test.YtfagllolcalfiaaDoorw2
import Derived.Test.YtfagllolcalfiaaDoorw3
import Derived.Test.YtfagllolcalfiaaDoorPwMp
import Derived.Test.YtfagllolcalfiaaDoorw4
import Derived.Test.YtfagllolcalfiaaDoorPwCg
namespace Go.Proofs.YtfagllolcalfiaaDoor
open Go.RowKit w5Ty
set_option linter.unusedVariables false
set_option linter.unusedSimpArgs false
theorem get2 (x y : Int) {i : Int} (h0 : 0 ≤ i) (h1 : i < 2) : ([PV.int .i64 x, PV.int .i64 y] : List PV)[i.toNat * 1]? = some (.int .i64 (if i = 0 then x else y)) := by
  rcases (show i = 0 ∨ i = 1 by omega) with rfl | rfl <;> rfl
theorem fl_dropj (gs : List (Int × Int)) (k : Nat) {j : Int} (h : k < gs.length) (h0 : 0 ≤ j) (h1 : j < 2) : ((fl gs).drop (k * 2)).drop (j.toNat * 1) = PV.int .i64 (if j = 0 then (gs.getD k (0, 0)).1 else (gs.getD k (0, 0)).2) :: ((fl gs).drop (k * 2)).drop (j.toNat * 1 + 1) := by
  rw [fl_drop0 gs k h]
  rcases (show j = 0 ∨ j = 1 by omega) with rfl | rfl <;> rfl
def mk2 (l : List (Int × Int)) (k : Int) (i : Nat) (j : Int) : List PV := if j = 0 then fl (markF i k ++ l.drop i) else if j = 1 then putAt (fl (markF i k ++ l.drop i)) (i * 2 + 0) [PV.int .i64 (k + 2 * i)] else fl (markF (i + 1) k ++ l.drop (i + 1))
theorem mk2_len (l : List (Int × Int)) (k : Int) {i : Nat} (h : i < l.length) (j : Int) : (mk2 l k i j).length = l.length * 2 := by
  have e1 : (markF i k ++ l.drop i).length = l.length := by simp [markF]; omega
  have e2 : (markF (i + 1) k ++ l.drop (i + 1)).length = l.length := by simp [markF]; omega
  unfold mk2
  split
  · rw [fl_len, e1]
  · split
    · have := fl_len (markF i k ++ l.drop i)
      rw [e1] at this
      simp [putAt, this]; omega
    · rw [fl_len, e2]
theorem mk2_put (l : List (Int × Int)) (k : Int) {i : Nat} (h : i < l.length) {j : Int} (h0 : 0 ≤ j) (h1 : j < 2) : putAt (mk2 l k i j) (i * 2 + j.toNat * 1) [PV.int .i64 (k + 2 * i + j)] = mk2 l k i (j + 1) := by
  rcases (show j = 0 ∨ j = 1 by omega) with rfl | rfl
  · rw [show k + 2 * (i : Int) + 0 = k + 2 * i by omega]; rfl
  · exact markF_put l k (i := (i : Int)) (by omega) (by omega) h
set_option maxRecDepth 4000 in
theorem eqIntA2_c (va vb vc vd : Int) : PCalls Tryd.prog 73 [.agg [.int .i64 va, .int .i64 vb], .agg [.int .i64 vc, .int .i64 vd]] (· = [.val (.bool (decide (va = vc ∧ vb = vd)))]) := by
  refine pcalls_of_code (n := 17) az Tryd.func73 (by kernel_rfl) rfl rfl (Nat.le_of_ble_eq_true rfl) (by intro t u h; simp [Tryd.f73] at h) ?_
  refine code_seq (fun K1 hK1 => ?_)
  refine code_region ?_
  refine list_cons rfl (op_box rfl (.inl ⟨rfl, rfl⟩) (by decide) (by decide) rfl ?_)
  refine list_cons rfl (op_box rfl (.inl ⟨rfl, rfl⟩) (by decide) (by decide) rfl ?_)
  refine list_cons rfl (op_q (q_assign rfl (by decide)) ?_)
  refine list_nil ?_
  refine hK1 _ ?_; clear hK1 K1
  refine code_seq (fun K2 hK2 => ?_)
  refine code_seq (fun K3 hK3 => ?_)
  refine code_region ?_
  refine list_cons rfl (op_q (q_assign rfl (by decide)) ?_)
  refine list_nil ?_
  refine hK3 _ ?_; clear hK3 K3
  refine code_block ?_
  refine code_loop (X := Bool × Int) (fun x => [(0, .val (.agg [.int .i64 va, .int .i64 vb])), (1, .val (.agg [.int .i64 vc, .int .i64 vd])), (2, .box 2 42 [.int .i64 va, .int .i64 vb]), (3, .box 3 42 [.int .i64 vc, .int .i64 vd]), (4, .val (.bool x.1)), (5, .val (.int .i64 x.2))]) (fun x => 0 ≤ x.2 ∧ x.2 ≤ 2 ∧ (0 < x.2 → va = vc) ∧ (1 < x.2 → vb = vd)) (fun x => (2 - x.2).toNat) (_, _) (imp_covers ⟨rfl, rfl, rfl, rfl, rfl, rfl, trivial⟩) ?_ ?_
  · (try dsimp only)
    exact ⟨by omega, by omega, fun h => by omega, fun h => by omega⟩
  · intro x hI
    obtain ⟨t4, i⟩ := x
    replace hI : 0 ≤ i ∧ i ≤ 2 ∧ (0 < i → va = vc) ∧ (1 < i → vb = vd) := hI
    show codeT _ _ _ [(0, .val (.agg [.int .i64 va, .int .i64 vb])), (1, .val (.agg [.int .i64 vc, .int .i64 vd])), (2, .box 2 42 [.int .i64 va, .int .i64 vb]), (3, .box 3 42 [.int .i64 vc, .int .i64 vd]), (4, .val (.bool t4)), (5, .val (.int .i64 i))] _
    obtain ⟨i1, i2, i3, i4⟩ := hI
    refine code_seq (fun K4 hK4 => ?_)
    refine code_seq (fun K5 hK5 => ?_)
    refine code_region ?_
    refine list_cons rfl (op_q (q_move rfl (by decide)) ?_)
    refine list_cons rfl (op_q (q_lt rfl rfl (by decide)) ?_)
    refine list_nil ?_
    refine hK5 _ ?_; clear hK5 K5
    refine code_cond_d rfl (fun h1 => ?_) (fun h1 => ?_)
    · skip
      (try simp only [Decidable.not_not] at h1)
      refine code_skip ?_
      refine hK4 _ ?_; clear hK4 K4
      refine code_seq (fun K6 hK6 => ?_)
      refine code_block ?_
      refine code_seq (fun K7 hK7 => ?_)
      refine code_draw (by kernel_rfl) (by kernel_rfl) ?_
      refine draw_q rfl (q_move rfl (by decide)) ?_
      refine draw_q rfl (q_indexAddr_arr arr_42 rfl rfl rfl (by omega) (by omega) (by decide)) ?_
      refine draw_q rfl (q_load one_3 2 rfl rfl rfl (get2 _ _ (by omega) (by omega)) (by decide)) ?_
      refine draw_q rfl (q_move rfl (by decide)) ?_
      refine draw_q rfl (q_indexAddr_arr arr_42 rfl rfl rfl (by omega) (by omega) (by decide)) ?_
      refine draw_q rfl (q_load one_3 3 rfl rfl rfl (get2 _ _ (by omega) (by omega)) (by decide)) ?_
      refine draw_q rfl (q_ne rfl rfl (by decide)) ?_
      refine draw_nil ?_
      refine hK7 _ ?_; clear hK7 K7
      refine codeT.imp (σ' := [(0, _), (1, _), (2, _), (3, _), (4, _), (5, _), (16, _)]) ?_ (imp_covers ⟨rfl, rfl, rfl, rfl, rfl, rfl, rfl, trivial⟩)
      refine code_cond_d rfl (fun h2 => ?_) (fun h2 => ?_)
      · skip
        (try simp only [Decidable.not_not] at h2)
        refine code_seq (fun K8 hK8 => ?_)
        refine code_region ?_
        refine list_cons rfl (op_q (q_assign rfl (by decide)) ?_)
        refine list_nil ?_
        refine hK8 _ ?_; clear hK8 K8
        refine code_ret ?_
        refine blk_r ?_
        refine then_r ?_; clear hK6 K6
        refine then_r ?_
        refine blk_r ?_
        refine then_r ?_; clear hK2 K2
        refine ends_ret (cs := []) rfl rfl rfl rfl trivial ?_
        first
          | (rw [decide_eq_true ⟨i3 (by omega), i4 (by omega)⟩]; done)
          | (rw [decide_eq_false (fun e => h2 (by rw [e.1, e.2]))])
      (try simp only [Decidable.not_not] at h2)
      refine code_skip ?_
      refine blk_n ?_
      refine hK6 _ ?_; clear hK6 K6
      refine code_region ?_
      refine list_cons rfl (op_q (q_move rfl (by decide)) ?_)
      refine list_cons rfl (op_q (by first | exact q_addI rfl rfl (by decide) (by omega) (by omega) | exact q_ib rfl rfl rfl (by decide)) ?_)
      refine list_cons rfl (op_q (q_assign rfl (by decide)) ?_)
      refine list_nil ?_
      refine then_n ⟨(_, _), imp_covers ⟨rfl, rfl, rfl, rfl, rfl, rfl, trivial⟩, ?_, ?_⟩
      · (try dsimp only)
        refine ⟨by omega, by omega, fun _ => ?_, fun _ => ?_⟩
        · by_cases e : i = 0
          · have hx := h2
            rw [if_pos e, if_pos e] at hx; exact hx
          · exact i3 (by omega)
        · have hx := h2
          rw [if_neg (by omega), if_neg (by omega)] at hx; exact hx
      · (try dsimp only); omega
    (try simp only [Decidable.not_not] at h1)
    refine code_exit ?_
    refine then_x ?_; clear hK4 K4
    refine then_x ?_
    refine blk_hit ?_
    refine hK2 _ ?_; clear hK2 K2
    refine code_seq (fun K9 hK9 => ?_)
    refine code_region ?_
    refine list_cons rfl (op_q (q_assign rfl (by decide)) ?_)
    refine list_nil ?_
    refine hK9 _ ?_; clear hK9 K9
    refine code_ret ?_
    refine ends_ret (cs := []) rfl rfl rfl rfl trivial ?_
    first
      | (rw [decide_eq_true ⟨i3 (by omega), i4 (by omega)⟩]; done)
      | (rw [decide_eq_false (fun e => h1 (by rw [e.1, e.2]))])
theorem eqIntA2E (cs ds : List PV) (x y z w : Int) (h : cs = [.int .i64 x, .int .i64 y]) (k : ds = [.int .i64 z, .int .i64 w]) : PCalls Tryd.prog 73 [.agg cs, .agg ds] (· = [.val (.bool (decide (x = z ∧ y = w)))]) := by subst h; subst k; exact eqIntA2_c x y z w
set_option maxRecDepth 4000 in
theorem eqIntA2S_c (fs gs : List (Int × Int)) (hf : fs.length ≤ 4611686018427387904) : PCalls Tryd.prog 35 [.sl fs.length (fl fs), .sl gs.length (fl gs)] (· = [.val (.bool (decide (fs = gs)))]) := by
  refine pcalls_of_code (n := 27) az Tryd.func35 (by kernel_rfl) rfl rfl (Nat.le_of_ble_eq_true rfl) (by intro t u h; simp [Tryd.f35] at h) ?_
  have hfl := fl_len fs
  have hfla := fl_flat fs
  have hgl := fl_len gs
  have hgla := fl_flat gs
  refine code_seq (fun K1 hK1 => ?_)
  refine code_region ?_
  refine list_cons rfl (op_q (q_assign rfl (by decide)) ?_)
  refine list_nil ?_
  refine hK1 _ ?_; clear hK1 K1
  refine code_seq (fun K2 hK2 => ?_)
  refine code_seq (fun K3 hK3 => ?_)
  refine code_region ?_
  refine list_cons rfl (op_q (q_move rfl (by decide)) ?_)
  refine list_cons rfl (op_q (q_len_sl Tryd.underlying29 rfl rfl (by decide)) ?_)
  refine list_cons rfl (op_q (q_move rfl (by decide)) ?_)
  refine list_cons rfl (op_q (q_len_sl Tryd.underlying29 rfl rfl (by decide)) ?_)
  refine list_cons rfl (op_q (q_ne rfl rfl (by decide)) ?_)
  refine list_nil ?_
  refine hK3 _ ?_; clear hK3 K3
  refine code_cond_d rfl (fun h1 => ?_) (fun h1 => ?_)
  · skip
    (try simp only [Decidable.not_not] at h1)
    refine code_seq (fun K4 hK4 => ?_)
    refine code_region ?_
    refine list_cons rfl (op_q (q_assign rfl (by decide)) ?_)
    refine list_nil ?_
    refine hK4 _ ?_; clear hK4 K4
    refine code_ret ?_
    refine then_r ?_; clear hK2 K2
    refine ends_ret (cs := []) rfl rfl rfl rfl trivial ?_
    rw [decide_eq_false (fun e => h1 (by rw [e]))]
  (try simp only [Decidable.not_not] at h1)
  refine code_skip ?_
  refine hK2 _ ?_; clear hK2 K2
  refine code_seq (fun K5 hK5 => ?_)
  refine code_seq (fun K6 hK6 => ?_)
  refine code_region ?_
  refine list_cons rfl (op_q (q_assign rfl (by decide)) ?_)
  refine list_nil ?_
  refine hK6 _ ?_; clear hK6 K6
  refine code_block ?_
  refine code_loop (X := Bool × Int) (fun x => [(0, .par 0 (.sl fs.length (fl fs))), (1, .par 1 (.sl gs.length (fl gs))), (4, .val (.bool x.1)), (5, .val (.int .i64 x.2))]) (fun x => 0 ≤ x.2 ∧ x.2 ≤ fs.length ∧ ∀ j, j < x.2.toNat → fs.getD j (0, 0) = gs.getD j (0, 0)) (fun x => fs.length - x.2.toNat) (_, _) (imp_covers ⟨rfl, rfl, rfl, rfl, trivial⟩) ?_ ?_
  · (try dsimp only)
    refine ⟨by omega, by omega, fun j hj => by simp at hj⟩
  · intro x hI
    obtain ⟨t4, i⟩ := x
    replace hI : 0 ≤ i ∧ i ≤ fs.length ∧ ∀ j, j < i.toNat → fs.getD j (0, 0) = gs.getD j (0, 0) := hI
    show codeT _ _ _ [(0, .par 0 (.sl fs.length (fl fs))), (1, .par 1 (.sl gs.length (fl gs))), (4, .val (.bool t4)), (5, .val (.int .i64 i))] _
    obtain ⟨i1, i2, i3⟩ := hI
    refine code_seq (fun K7 hK7 => ?_)
    refine code_seq (fun K8 hK8 => ?_)
    refine code_region ?_
    refine list_cons rfl (op_q (q_move rfl (by decide)) ?_)
    refine list_cons rfl (op_q (q_move rfl (by decide)) ?_)
    refine list_cons rfl (op_q (q_len_sl Tryd.underlying29 rfl rfl (by decide)) ?_)
    refine list_cons rfl (op_q (q_lt rfl rfl (by decide)) ?_)
    refine list_nil ?_
    refine hK8 _ ?_; clear hK8 K8
    refine code_cond_d rfl (fun h2 => ?_) (fun h2 => ?_)
    · skip
      (try simp only [Decidable.not_not] at h2)
      refine code_skip ?_
      refine hK7 _ ?_; clear hK7 K7
      refine code_seq (fun K9 hK9 => ?_)
      refine code_block ?_
      refine code_seq (fun K10 hK10 => ?_)
      refine code_draw (by kernel_rfl) (by kernel_rfl) ?_
      refine draw_q rfl (q_move rfl (by decide)) ?_
      refine draw_q rfl (q_move rfl (by decide)) ?_
      refine draw_q rfl (q_indexAddr_rd sl_29 rfl (.inl ⟨_, rfl, rfl⟩) rfl (by omega) (by omega) (by decide)) ?_
      refine draw_q rfl (q_load_rd_agg agg_42 rfl (.inl ⟨_, rfl⟩) (by first | decide | omega | exact Nat.le_refl _ | (simp; done) | (simp; omega)) (by first | rfl | exact flat_part (by assumption) _ _) (by decide)) ?_
      refine draw_q rfl (q_move rfl (by decide)) ?_
      refine draw_q rfl (q_move rfl (by decide)) ?_
      refine draw_q rfl (q_indexAddr_rd sl_29 rfl (.inl ⟨_, rfl, rfl⟩) rfl (by omega) (by omega) (by decide)) ?_
      refine draw_q rfl (q_load_rd_agg agg_42 rfl (.inl ⟨_, rfl⟩) (by first | decide | omega | exact Nat.le_refl _ | (simp; done) | (simp; omega)) (by first | rfl | exact flat_part (by assumption) _ _) (by decide)) ?_
      refine draw_call _ (eqIntA2E _ _ _ _ _ _ (fl_at fs i.toNat (by omega)) (fl_at gs i.toNat (by omega))) rfl rfl rfl (by decide) ?_
      refine draw_q rfl (by first | exact q_notd rfl (by decide) | exact q_not rfl (by decide)) ?_
      refine draw_nil ?_
      refine hK10 _ ?_; clear hK10 K10
      refine codeT.imp (σ' := [(0, _), (1, _), (4, _), (5, _), (26, _)]) ?_ (imp_covers ⟨rfl, rfl, rfl, rfl, rfl, trivial⟩)
      refine code_cond_d rfl (fun h3 => ?_) (fun h3 => ?_)
      · skip
        (try simp only [Decidable.not_not] at h3)
        refine code_seq (fun K11 hK11 => ?_)
        refine code_region ?_
        refine list_cons rfl (op_q (q_assign rfl (by decide)) ?_)
        refine list_nil ?_
        refine hK11 _ ?_; clear hK11 K11
        refine code_ret ?_
        refine blk_r ?_
        refine then_r ?_; clear hK9 K9
        refine then_r ?_
        refine blk_r ?_
        refine then_r ?_; clear hK5 K5
        refine ends_ret (cs := []) rfl rfl rfl rfl trivial ?_
        rw [decide_eq_false (list_ne_ofI (0, 0) i.toNat fun e => h3 ⟨by rw [e], by rw [e]⟩)]
      (try simp only [Decidable.not_not] at h3)
      refine code_skip ?_
      refine blk_n ?_
      refine hK9 _ ?_; clear hK9 K9
      refine code_region ?_
      refine list_cons rfl (op_q (q_move rfl (by decide)) ?_)
      refine list_cons rfl (op_q (by first | exact q_addI rfl rfl (by decide) (by omega) (by omega) | exact q_ib rfl rfl rfl (by decide)) ?_)
      refine list_cons rfl (op_q (q_assign rfl (by decide)) ?_)
      refine list_nil ?_
      refine then_n ⟨(_, _), imp_covers ⟨rfl, rfl, rfl, rfl, trivial⟩, ?_, ?_⟩
      · (try dsimp only)
        refine ⟨by omega, by omega, fun j hj => ?_⟩
        by_cases e : j = i.toNat
        · subst e; exact Prod.ext h3.1 h3.2
        · exact i3 j (by omega)
      · (try dsimp only); omega
    (try simp only [Decidable.not_not] at h2)
    refine code_exit ?_
    refine then_x ?_; clear hK7 K7
    refine then_x ?_
    refine blk_hit ?_
    refine hK5 _ ?_; clear hK5 K5
    refine code_seq (fun K12 hK12 => ?_)
    refine code_region ?_
    refine list_cons rfl (op_q (q_assign rfl (by decide)) ?_)
    refine list_nil ?_
    refine hK12 _ ?_; clear hK12 K12
    refine code_ret ?_
    refine ends_ret (cs := []) rfl rfl rfl rfl trivial ?_
    rw [decide_eq_true (list_eq_ofI (0, 0) fs gs (by omega) fun j hj => i3 j (by omega))]
set_option maxRecDepth 4000 in
theorem heldIntA2S_c (n : Nat) (k : Int) (hl : n ≤ 1048576) (p0 : -1099511627776 ≤ k) (p1 : k ≤ 1099511627776) : PCalls Tryd.prog 38 [.sl n (fl (markF n k)), .int .i64 k] (· = [.val (.int .i64 (k + 2 * n))]) := by
  refine pcalls_of_code (n := 28) az Tryd.func38 (by kernel_rfl) rfl rfl (Nat.le_of_ble_eq_true rfl) (by intro t u h; simp [Tryd.f38] at h) ?_
  have hL := markF_len n k
  have hL2 := fl_len (markF n k)
  have hfla := fl_flat (markF n k)
  refine code_seq (fun K1 hK1 => ?_)
  refine code_region ?_
  refine list_cons rfl (op_q (q_assign rfl (by decide)) ?_)
  refine list_nil ?_
  refine hK1 _ ?_; clear hK1 K1
  refine code_seq (fun K2 hK2 => ?_)
  refine code_seq (fun K3 hK3 => ?_)
  refine code_region ?_
  refine list_cons rfl (op_q (q_assign rfl (by decide)) ?_)
  refine list_nil ?_
  refine hK3 _ ?_; clear hK3 K3
  refine code_block ?_
  refine code_loop (X := Int × Int × Int) (fun x => [(0, .par 0 (.sl n (fl (markF n k)))), (1, .val (.int .i64 x.1)), (4, .val (.int .i64 x.2.1)), (5, .val (.int .i64 x.2.2))]) (fun x => 0 ≤ x.2.2 ∧ x.2.2 ≤ n ∧ x.1 = k + 2 * x.2.2) (fun x => n - x.2.2.toNat) (_, _, _) (imp_covers ⟨rfl, rfl, rfl, rfl, trivial⟩) ?_ ?_
  · (try dsimp only)
    refine ⟨by omega, by omega, by omega⟩
  · intro x hI
    obtain ⟨k_, t4, i⟩ := x
    replace hI : 0 ≤ i ∧ i ≤ n ∧ k_ = k + 2 * i := hI
    show codeT _ _ _ [(0, .par 0 (.sl n (fl (markF n k)))), (1, .val (.int .i64 k_)), (4, .val (.int .i64 t4)), (5, .val (.int .i64 i))] _
    obtain ⟨i1, i2, rfl⟩ := hI
    refine code_seq (fun K4 hK4 => ?_)
    refine code_seq (fun K5 hK5 => ?_)
    refine code_region ?_
    refine list_cons rfl (op_q (q_move rfl (by decide)) ?_)
    refine list_cons rfl (op_q (q_move rfl (by decide)) ?_)
    refine list_cons rfl (op_q (q_len_sl Tryd.underlying29 rfl rfl (by decide)) ?_)
    refine list_cons rfl (op_q (q_lt rfl rfl (by decide)) ?_)
    refine list_nil ?_
    refine hK5 _ ?_; clear hK5 K5
    refine code_cond_d rfl (fun h1 => ?_) (fun h1 => ?_)
    · skip
      (try simp only [Decidable.not_not] at h1)
      refine code_skip ?_
      refine hK4 _ ?_; clear hK4 K4
      refine code_seq (fun K6 hK6 => ?_)
      refine code_block ?_
      refine code_seq (fun K7 hK7 => ?_)
      refine code_region ?_
      refine list_cons rfl (op_q (q_assign rfl (by decide)) ?_)
      refine list_nil ?_
      refine hK7 _ ?_; clear hK7 K7
      refine code_block ?_
      refine code_loop (X := Int × Int × Int) (fun x => [(0, .par 0 (.sl n (fl (markF n k)))), (1, .val (.int .i64 x.1)), (4, .val (.int .i64 x.2.1)), (5, .val (.int .i64 i)), (6, .val (.int .i64 x.2.2))]) (fun x => 0 ≤ x.2.2 ∧ x.2.2 ≤ 2 ∧ x.1 = k + 2 * i + x.2.2) (fun x => (2 - x.2.2).toNat) (_, _, _) (imp_covers ⟨rfl, rfl, rfl, rfl, rfl, trivial⟩) ?_ ?_
      · (try dsimp only)
        refine ⟨by omega, by omega, by omega⟩
      · intro x hI
        obtain ⟨k_, t4, j⟩ := x
        replace hI : 0 ≤ j ∧ j ≤ 2 ∧ k_ = k + 2 * i + j := hI
        show codeT _ _ _ [(0, .par 0 (.sl n (fl (markF n k)))), (1, .val (.int .i64 k_)), (4, .val (.int .i64 t4)), (5, .val (.int .i64 i)), (6, .val (.int .i64 j))] _
        obtain ⟨j1, j2, rfl⟩ := hI
        refine code_seq (fun K8 hK8 => ?_)
        refine code_seq (fun K9 hK9 => ?_)
        refine code_region ?_
        refine list_cons rfl (op_q (q_move rfl (by decide)) ?_)
        refine list_cons rfl (op_q (q_lt rfl rfl (by decide)) ?_)
        refine list_nil ?_
        refine hK9 _ ?_; clear hK9 K9
        refine code_cond_d rfl (fun h2 => ?_) (fun h2 => ?_)
        · skip
          (try simp only [Decidable.not_not] at h2)
          refine code_skip ?_
          refine hK8 _ ?_; clear hK8 K8
          refine code_seq (fun K10 hK10 => ?_)
          refine code_block ?_
          refine code_seq (fun K11 hK11 => ?_)
          refine code_seq (fun K12 hK12 => ?_)
          refine code_region ?_
          refine list_cons rfl (op_q (q_move rfl (by decide)) ?_)
          refine list_cons rfl (op_q (q_move rfl (by decide)) ?_)
          refine list_cons rfl (op_q (q_move rfl (by decide)) ?_)
          refine list_cons rfl (op_q (q_indexAddr_rd sl_29 rfl (.inl ⟨_, rfl, rfl⟩) rfl (by omega) (by omega) (by decide)) ?_)
          refine list_cons rfl (op_q (q_indexAddr_arr arr_42 rfl rfl rfl (by omega) (by omega) (by decide)) ?_)
          refine list_cons rfl (op_q (q_load_rd one_3 rfl (.inl ⟨_, (congrArg (SV.rpar _) (fl_dropj _ _ (by omega) (by omega) (by omega))), rfl⟩) (by decide)) ?_)
          refine list_cons rfl (op_q (q_move rfl (by decide)) ?_)
          refine list_cons rfl (op_q (q_ne rfl rfl (by decide)) ?_)
          refine list_nil ?_
          refine hK12 _ ?_; clear hK12 K12
          refine codeT.imp (σ' := [(0, _), (1, _), (4, _), (5, _), (6, _), (24, _)]) ?_ (imp_covers ⟨rfl, rfl, rfl, rfl, rfl, rfl, trivial⟩)
          refine code_cond_d rfl (fun h3 => ?_) (fun h3 => ?_)
          · skip
            (try simp only [Decidable.not_not] at h3)
            refine code_seq (fun K13 hK13 => ?_)
            refine code_region ?_
            refine list_cons rfl (op_q (q_assign rfl (by decide)) ?_)
            refine list_nil ?_
            refine hK13 _ ?_; clear hK13 K13
            refine code_ret ?_
            refine then_r ?_; clear hK11 K11
            refine blk_r ?_
            refine then_r ?_; clear hK10 K10
            refine then_r ?_
            refine blk_r ?_
            refine blk_r ?_
            refine then_r ?_; clear hK6 K6
            refine then_r ?_
            refine blk_r ?_
            refine then_r ?_; clear hK2 K2
            refine ends_ret (cs := []) rfl rfl rfl rfl trivial ?_
            first
              | (rw [show i = n by omega]; done)
              | (exfalso
                 refine h3 ?_
                 rw [markF_get n k (by omega)]
                 by_cases e : j = 0
                 · rw [if_pos e]; show k + 2 * ((i.toNat : Nat) : Int) = _; omega
                 · rw [if_neg e]; show k + 2 * ((i.toNat : Nat) : Int) + 1 = _; omega)
          (try simp only [Decidable.not_not] at h3)
          refine code_skip ?_
          refine hK11 _ ?_; clear hK11 K11
          refine code_region ?_
          refine list_cons rfl (op_q (q_move rfl (by decide)) ?_)
          refine list_cons rfl (op_q (by first | exact q_addI rfl rfl (by decide) (by omega) (by omega) | exact q_ib rfl rfl rfl (by decide)) ?_)
          refine list_cons rfl (op_q (q_assign rfl (by decide)) ?_)
          refine list_nil ?_
          refine blk_n ?_
          refine hK10 _ ?_; clear hK10 K10
          refine code_region ?_
          refine list_cons rfl (op_q (q_move rfl (by decide)) ?_)
          refine list_cons rfl (op_q (by first | exact q_addI rfl rfl (by decide) (by omega) (by omega) | exact q_ib rfl rfl rfl (by decide)) ?_)
          refine list_cons rfl (op_q (q_assign rfl (by decide)) ?_)
          refine list_nil ?_
          refine then_n ⟨(_, _, _), imp_covers ⟨rfl, rfl, rfl, rfl, rfl, trivial⟩, ?_, ?_⟩
          · (try dsimp only)
            refine ⟨by omega, by omega, by omega⟩
          · (try dsimp only); omega
        (try simp only [Decidable.not_not] at h2)
        refine code_exit ?_
        refine then_x ?_; clear hK8 K8
        refine then_x ?_
        refine blk_hit ?_
        refine blk_n ?_
        refine hK6 _ ?_; clear hK6 K6
        refine code_region ?_
        refine list_cons rfl (op_q (q_move rfl (by decide)) ?_)
        refine list_cons rfl (op_q (by first | exact q_addI rfl rfl (by decide) (by omega) (by omega) | exact q_ib rfl rfl rfl (by decide)) ?_)
        refine list_cons rfl (op_q (q_assign rfl (by decide)) ?_)
        refine list_nil ?_
        refine then_n ⟨(_, _, _), imp_covers ⟨rfl, rfl, rfl, rfl, trivial⟩, ?_, ?_⟩
        · (try dsimp only)
          refine ⟨by omega, by omega, by omega⟩
        · (try dsimp only); omega
    (try simp only [Decidable.not_not] at h1)
    refine code_exit ?_
    refine then_x ?_; clear hK4 K4
    refine then_x ?_
    refine blk_hit ?_
    refine hK2 _ ?_; clear hK2 K2
    refine code_seq (fun K14 hK14 => ?_)
    refine code_region ?_
    refine list_cons rfl (op_q (q_move rfl (by decide)) ?_)
    refine list_cons rfl (op_q (q_assign rfl (by decide)) ?_)
    refine list_nil ?_
    refine hK14 _ ?_; clear hK14 K14
    refine code_ret ?_
    refine ends_ret (cs := []) rfl rfl rfl rfl trivial ?_
    first
      | (rw [show i = n by omega]; done)
      | (exfalso
         refine h1 ?_
         rw [markF_get n k (by omega)]
         by_cases e : j = 0
         · rw [if_pos e]; show k + 2 * ((i.toNat : Nat) : Int) = _; omega
         · rw [if_neg e]; show k + 2 * ((i.toNat : Nat) : Int) + 1 = _; omega)
set_option maxRecDepth 4000 in
theorem markIntA2S_c (fs : List (Int × Int)) (k : Int) (hl : fs.length ≤ 1048576) (p0 : -1099511627776 ≤ k) (p1 : k ≤ 1099511627776) : MCalls Tryd.prog 37 false (some (.own 42 2 fs.length (fl fs))) [.int .i64 k] fun rs cs => rs = [.val (.int .i64 (k + 2 * fs.length))] ∧ cs = fl (markF fs.length k) := by
  refine mcalls_of_code (n := 26) az Tryd.func37 (by kernel_rfl) rfl rfl (Nat.le_of_ble_eq_true rfl) (by intro t u h; simp [Tryd.f37] at h) ?_
  have hfl := fl_len fs
  refine code_seq (fun K1 hK1 => ?_)
  refine code_region ?_
  refine list_cons rfl (op_q (q_assign rfl (by decide)) ?_)
  refine list_nil ?_
  refine hK1 _ ?_; clear hK1 K1
  refine code_seq (fun K2 hK2 => ?_)
  refine code_seq (fun K3 hK3 => ?_)
  refine code_region ?_
  refine list_cons rfl (op_q (q_assign rfl (by decide)) ?_)
  refine list_nil ?_
  refine hK3 _ ?_; clear hK3 K3
  refine code_block ?_
  refine code_loop (X := Nat × List PV × Int × Int × Int) (fun x => [(0, .own 2000 42 2 x.1 x.2.1), (1, .val (.int .i64 x.2.2.1)), (4, .val (.int .i64 x.2.2.2.1)), (5, .val (.int .i64 x.2.2.2.2))]) (fun x => 0 ≤ x.2.2.2.2 ∧ x.2.2.2.2 ≤ fs.length ∧ x.2.2.1 = k + 2 * x.2.2.2.2 ∧ x.1 = fs.length ∧ x.2.1 = fl (markF x.2.2.2.2.toNat k ++ fs.drop x.2.2.2.2.toNat)) (fun x => fs.length - x.2.2.2.2.toNat) (_, _, _, _, _) (imp_covers ⟨rfl, rfl, rfl, rfl, trivial⟩) ?_ ?_
  · (try dsimp only)
    refine ⟨by omega, by omega, by omega, rfl, rfl⟩
  · intro x hI
    obtain ⟨a_n, a_c, k_, t4, i⟩ := x
    replace hI : 0 ≤ i ∧ i ≤ fs.length ∧ k_ = k + 2 * i ∧ a_n = fs.length ∧ a_c = fl (markF i.toNat k ++ fs.drop i.toNat) := hI
    show codeT _ _ _ [(0, .own 2000 42 2 a_n a_c), (1, .val (.int .i64 k_)), (4, .val (.int .i64 t4)), (5, .val (.int .i64 i))] _
    obtain ⟨i1, i2, rfl, rfl, rfl⟩ := hI
    refine code_seq (fun K4 hK4 => ?_)
    refine code_seq (fun K5 hK5 => ?_)
    refine code_region ?_
    refine list_cons rfl (op_q (q_move rfl (by decide)) ?_)
    refine list_cons rfl (op_q (q_move rfl (by decide)) ?_)
    refine list_cons rfl (op_q (q_len_sl Tryd.underlying29 rfl rfl (by decide)) ?_)
    refine list_cons rfl (op_q (q_lt rfl rfl (by decide)) ?_)
    refine list_nil ?_
    refine hK5 _ ?_; clear hK5 K5
    refine code_cond_d rfl (fun h1 => ?_) (fun h1 => ?_)
    · skip
      (try simp only [Decidable.not_not] at h1)
      refine code_skip ?_
      refine hK4 _ ?_; clear hK4 K4
      refine code_seq (fun K6 hK6 => ?_)
      refine code_block ?_
      refine code_seq (fun K7 hK7 => ?_)
      refine code_region ?_
      refine list_cons rfl (op_q (q_assign rfl (by decide)) ?_)
      refine list_nil ?_
      refine hK7 _ ?_; clear hK7 K7
      refine code_block ?_
      refine code_loop (X := Nat × List PV × Int × Int × Int) (fun x => [(0, .own 2000 42 2 x.1 x.2.1), (1, .val (.int .i64 x.2.2.1)), (4, .val (.int .i64 x.2.2.2.1)), (5, .val (.int .i64 i)), (6, .val (.int .i64 x.2.2.2.2))]) (fun x => 0 ≤ x.2.2.2.2 ∧ x.2.2.2.2 ≤ 2 ∧ x.2.2.1 = k + 2 * i + x.2.2.2.2 ∧ x.1 = fs.length ∧ x.2.1 = mk2 fs k i.toNat x.2.2.2.2) (fun x => (2 - x.2.2.2.2).toNat) (_, _, _, _, _) (imp_covers ⟨rfl, rfl, rfl, rfl, rfl, trivial⟩) ?_ ?_
      · (try dsimp only)
        exact ⟨by omega, by omega, by omega, rfl, rfl⟩
      · intro x hI
        obtain ⟨a_n, a_c, k_, t4, j⟩ := x
        replace hI : 0 ≤ j ∧ j ≤ 2 ∧ k_ = k + 2 * i + j ∧ a_n = fs.length ∧ a_c = mk2 fs k i.toNat j := hI
        show codeT _ _ _ [(0, .own 2000 42 2 a_n a_c), (1, .val (.int .i64 k_)), (4, .val (.int .i64 t4)), (5, .val (.int .i64 i)), (6, .val (.int .i64 j))] _
        obtain ⟨j1, j2, rfl, rfl, rfl⟩ := hI
        refine code_seq (fun K8 hK8 => ?_)
        refine code_seq (fun K9 hK9 => ?_)
        refine code_region ?_
        refine list_cons rfl (op_q (q_move rfl (by decide)) ?_)
        refine list_cons rfl (op_q (q_lt rfl rfl (by decide)) ?_)
        refine list_nil ?_
        refine hK9 _ ?_; clear hK9 K9
        refine code_cond_d rfl (fun h2 => ?_) (fun h2 => ?_)
        · skip
          (try simp only [Decidable.not_not] at h2)
          refine code_skip ?_
          refine hK8 _ ?_; clear hK8 K8
          refine code_seq (fun K10 hK10 => ?_)
          refine code_block ?_
          refine code_seq (fun K11 hK11 => ?_)
          refine code_region ?_
          refine list_cons rfl (op_q (q_move rfl (by decide)) ?_)
          refine list_cons rfl (op_q (q_move rfl (by decide)) ?_)
          refine list_cons rfl (op_q (q_move rfl (by decide)) ?_)
          refine list_cons rfl (op_q (q_move rfl (by decide)) ?_)
          refine list_cons rfl (op_q (q_indexAddr_own sl_29 rfl rfl (by omega) (by omega) (by decide)) ?_)
          refine list_cons rfl (op_q (q_indexAddr_arr arr_42 rfl rfl rfl (by omega) (by omega) (by decide)) ?_)
          refine list_cons rfl (op_store (one_3).2 0 [0, 17] (by intro t ht; simp only [List.mem_cons, List.not_mem_nil, or_false] at ht; rcases ht with rfl | rfl <;> rfl) (.inl rfl) rfl rfl rfl rfl rfl rfl (by rw [mk2_len fs k (by omega)]; omega) (by decide) rfl ?_)
          refine list_nil ?_
          refine hK11 _ ?_; clear hK11 K11
          refine codeT.imp (σ' := [(0, _), (1, _), (4, _), (5, _), (6, _)]) ?_ (imp_covers ⟨rfl, rfl, rfl, rfl, rfl, trivial⟩)
          refine code_region ?_
          refine list_cons rfl (op_q (q_move rfl (by decide)) ?_)
          refine list_cons rfl (op_q (by first | exact q_addI rfl rfl (by decide) (by omega) (by omega) | exact q_ib rfl rfl rfl (by decide)) ?_)
          refine list_cons rfl (op_q (q_assign rfl (by decide)) ?_)
          refine list_nil ?_
          refine blk_n ?_
          refine hK10 _ ?_; clear hK10 K10
          refine code_region ?_
          refine list_cons rfl (op_q (q_move rfl (by decide)) ?_)
          refine list_cons rfl (op_q (by first | exact q_addI rfl rfl (by decide) (by omega) (by omega) | exact q_ib rfl rfl rfl (by decide)) ?_)
          refine list_cons rfl (op_q (q_assign rfl (by decide)) ?_)
          refine list_nil ?_
          refine then_n ⟨(_, _, _, _, _), imp_covers ⟨rfl, rfl, rfl, rfl, rfl, trivial⟩, ?_, ?_⟩
          · (try dsimp only)
            refine ⟨by omega, by omega, by omega, rfl, ?_⟩
            have hi : ((i.toNat : Nat) : Int) = i := by omega
            have hp := mk2_put fs k (i := i.toNat) (by omega) (j := j) (by omega) (by omega)
            rw [hi] at hp
            exact hp
          · (try dsimp only); omega
        (try simp only [Decidable.not_not] at h2)
        refine code_exit ?_
        refine then_x ?_; clear hK8 K8
        refine then_x ?_
        refine blk_hit ?_
        refine blk_n ?_
        refine hK6 _ ?_; clear hK6 K6
        refine code_region ?_
        refine list_cons rfl (op_q (q_move rfl (by decide)) ?_)
        refine list_cons rfl (op_q (by first | exact q_addI rfl rfl (by decide) (by omega) (by omega) | exact q_ib rfl rfl rfl (by decide)) ?_)
        refine list_cons rfl (op_q (q_assign rfl (by decide)) ?_)
        refine list_nil ?_
        refine then_n ⟨(_, _, _, _, _), imp_covers ⟨rfl, rfl, rfl, rfl, trivial⟩, ?_, ?_⟩
        · (try dsimp only)
          refine ⟨by omega, by omega, by omega, rfl, ?_⟩
          rw [show (i + 1).toNat = i.toNat + 1 by omega, show j = 2 by omega]; rfl
        · (try dsimp only); omega
    (try simp only [Decidable.not_not] at h1)
    refine code_exit ?_
    refine then_x ?_; clear hK4 K4
    refine then_x ?_
    refine blk_hit ?_
    refine hK2 _ ?_; clear hK2 K2
    refine code_seq (fun K12 hK12 => ?_)
    refine code_region ?_
    refine list_cons rfl (op_q (q_move rfl (by decide)) ?_)
    refine list_cons rfl (op_q (q_assign rfl (by decide)) ?_)
    refine list_nil ?_
    refine hK12 _ ?_; clear hK12 K12
    refine code_ret ?_
    refine ends_ret (cs := _) rfl rfl rfl rfl rfl ?_
    exact ⟨by rw [show i = fs.length by omega], by rw [show i.toNat = fs.length by omega, List.drop_length, List.append_nil]⟩
set_option maxRecDepth 8000 in
set_option maxHeartbeats 2000000 in
theorem FnExactWinningMoves_law (r : List Int) (p0 : (∀ n ∈ r, -9223372036854775808 ≤ n ∧ n ≤ 9223372036854775807) ∧ r.length ≤ 9223372036854775807) (l : List Int) (p1 : (∀ n ∈ l, -9223372036854775808 ≤ n ∧ n ≤ 9223372036854775807) ∧ l.length ≤ 9223372036854775807) : PCalls Tryd.prog 9 [.sl r.length (r.map (.int .i64)), .sl l.length (l.map (.int .i64))] (· = [.val (.bool true)]) := by
  refine pcalls_of_code (n := 114) az Tryd.func9 (by kernel_rfl) rfl rfl (Nat.le_of_ble_eq_true rfl) (by intro t u h; simp [Tryd.f9] at h) ?_
  obtain ⟨p0e, p0l⟩ := p0
  obtain ⟨p1e, p1l⟩ := p1
  have nl : (if WroP r l then mvR (dcd l) r true r.length else []).length ≤ 128 := by
    split
    · rename_i e; have h1 := mvR_len (dcd l) r true r.length; have h2 := e.2.1.1; omega
    · simp
  refine code_seq (fun K1 hK1 => ?_)
  refine code_region ?_
  refine list_cons rfl (op_q (q_assign rfl (by decide)) ?_)
  refine list_nil ?_
  refine hK1 _ ?_; clear hK1 K1
  refine code_seq (fun K2 hK2 => ?_)
  refine code_seq (fun K3 hK3 => ?_)
  refine code_region ?_
  refine list_cons rfl (op_q (q_move rfl (by decide)) ?_)
  refine list_cons rfl (op_q (q_len_sl Tryd.underlying24 rfl rfl (by decide)) ?_)
  refine list_cons rfl (op_q (q_gt rfl rfl (by decide)) ?_)
  refine list_nil ?_
  refine hK3 _ ?_; clear hK3 K3
  refine code_cond_d rfl (fun h1 => ?_) (fun h1 => ?_)
  · skip
    (try simp only [Decidable.not_not] at h1)
    refine code_seq (fun K4 hK4 => ?_)
    refine code_region ?_
    refine list_cons rfl (op_q (q_assign rfl (by decide)) ?_)
    refine list_nil ?_
    refine hK4 _ ?_; clear hK4 K4
    refine code_ret ?_
    refine then_r ?_; clear hK2 K2
    refine ends_ret (cs := []) rfl rfl rfl rfl trivial ?_
    first | rfl | omega | exact absurd rfl h1 | (exact absurd (by omega) h1) | (simp at h1) | (simp_all) | (exfalso; simp_all; omega)
  (try simp only [Decidable.not_not] at h1)
  refine code_skip ?_
  refine hK2 _ ?_; clear hK2 K2
  refine code_seq (fun K5 hK5 => ?_)
  refine code_seq (fun K6 hK6 => ?_)
  refine code_region ?_
  refine list_cons rfl (op_q (q_move rfl (by decide)) ?_)
  refine list_cons rfl (op_q (q_len_sl Tryd.underlying24 rfl rfl (by decide)) ?_)
  refine list_cons rfl (op_q (q_gt rfl rfl (by decide)) ?_)
  refine list_nil ?_
  refine hK6 _ ?_; clear hK6 K6
  refine code_cond_d rfl (fun h2 => ?_) (fun h2 => ?_)
  · skip
    (try simp only [Decidable.not_not] at h2)
    refine code_seq (fun K7 hK7 => ?_)
    refine code_region ?_
    refine list_cons rfl (op_q (q_assign rfl (by decide)) ?_)
    refine list_nil ?_
    refine hK7 _ ?_; clear hK7 K7
    refine code_ret ?_
    refine then_r ?_; clear hK5 K5
    refine ends_ret (cs := []) rfl rfl rfl rfl trivial ?_
    first | rfl | omega | exact absurd rfl h2 | (exact absurd (by omega) h2) | (simp at h2) | (simp_all) | (exfalso; simp_all; omega)
  (try simp only [Decidable.not_not] at h2)
  refine code_skip ?_
  refine hK5 _ ?_; clear hK5 K5
  refine code_seq (fun K8 hK8 => ?_)
  refine code_region ?_
  refine list_cons rfl (op_q (q_move rfl (by decide)) ?_)
  refine list_cons rfl (op_call _ (toIntS_c _ (by first | omega | (simp; omega))) rfl rfl (by decide) (by decide) (by decide) rfl ?_)
  rintro _ rfl
  refine list_cons rfl (op_q (q_move rfl (by decide)) ?_)
  refine list_cons rfl (op_call _ (toIntS_c _ (by first | omega | (simp; omega))) rfl rfl (by decide) (by decide) (by decide) rfl ?_)
  rintro _ rfl
  refine list_cons rfl (op_call _ (spec_WinningMoves _ _ (by omega) (by omega)) rfl rfl (by decide) (by decide) (by decide) rfl ?_)
  rintro _ rfl
  refine list_cons rfl (op_q (q_move rfl (by decide)) ?_)
  refine list_cons rfl (op_q (q_extract rfl rfl (by decide)) ?_)
  refine list_cons rfl (op_q (q_extract rfl rfl (by decide)) ?_)
  refine list_cons rfl (op_q (q_assign rfl (by decide)) ?_)
  refine list_cons rfl (op_q (q_assign rfl (by decide)) ?_)
  refine list_nil ?_
  refine hK8 _ ?_; clear hK8 K8
  refine codeT.imp (σ' := [(0, _), (1, _), (4, _), (5, _), (6, _)]) ?_ (imp_covers ⟨rfl, rfl, rfl, rfl, rfl, trivial⟩)
  refine code_seq (fun K9 hK9 => ?_)
  refine code_region ?_
  refine list_cons rfl (op_q (q_move rfl (by decide)) ?_)
  refine list_cons rfl (op_call _ (toIntS_c _ (by first | omega | (simp; omega))) rfl rfl (by decide) (by decide) (by decide) rfl ?_)
  rintro _ rfl
  refine list_cons rfl (op_q (q_assign rfl (by decide)) ?_)
  refine list_nil ?_
  refine hK9 _ ?_; clear hK9 K9
  refine codeT.imp (σ' := [(0, _), (1, _), (4, _), (5, _), (6, _), (7, _)]) ?_ (imp_covers ⟨rfl, rfl, rfl, rfl, rfl, rfl, trivial⟩)
  refine code_seq (fun K10 hK10 => ?_)
  refine code_region ?_
  refine list_cons rfl (op_q (q_move rfl (by decide)) ?_)
  refine list_cons rfl (op_call _ (toIntS_c _ (by first | omega | (simp; omega))) rfl rfl (by decide) (by decide) (by decide) rfl ?_)
  rintro _ rfl
  refine list_cons rfl (op_q (q_assign rfl (by decide)) ?_)
  refine list_nil ?_
  refine hK10 _ ?_; clear hK10 K10
  refine codeT.imp (σ' := [(0, _), (1, _), (4, _), (5, _), (6, _), (7, _), (8, _)]) ?_ (imp_covers ⟨rfl, rfl, rfl, rfl, rfl, rfl, rfl, trivial⟩)
  refine code_seq (fun K11 hK11 => ?_)
  refine code_region ?_
  refine list_cons rfl (op_q (q_move rfl (by decide)) ?_)
  refine list_cons rfl (op_q (q_move rfl (by decide)) ?_)
  refine list_cons rfl (op_call _ (impl_WinningMoves _ _ (by omega) (by omega)) rfl rfl (by decide) (by decide) (by decide) rfl ?_)
  rintro _ rfl
  refine list_cons rfl (op_q (q_move rfl (by decide)) ?_)
  refine list_cons rfl (op_q (q_extract rfl rfl (by decide)) ?_)
  refine list_cons rfl (op_q (q_extract rfl rfl (by decide)) ?_)
  refine list_cons rfl (op_q (q_assign rfl (by decide)) ?_)
  refine list_cons rfl (op_q (q_assign rfl (by decide)) ?_)
  refine list_nil ?_
  refine hK11 _ ?_; clear hK11 K11
  refine codeT.imp (σ' := [(0, _), (1, _), (4, _), (5, _), (6, _), (7, _), (8, _), (9, _), (10, _)]) ?_ (imp_covers ⟨rfl, rfl, rfl, rfl, rfl, rfl, rfl, rfl, rfl, trivial⟩)
  refine code_seq (fun K12 hK12 => ?_)
  refine code_seq (fun K13 hK13 => ?_)
  refine code_region ?_
  refine list_cons rfl (op_q (q_move rfl (by decide)) ?_)
  refine list_cons rfl (op_q (q_move rfl (by decide)) ?_)
  refine list_cons rfl (op_call _ (eqIntA2S_c _ _ (by first | omega | (simp; omega))) rfl rfl (by decide) (by decide) (by decide) rfl ?_)
  rintro _ rfl
  refine list_cons rfl (op_q (by first | exact q_notd rfl (by decide) | exact q_not rfl (by decide)) ?_)
  refine list_cons rfl (op_q (q_move rfl (by decide)) ?_)
  refine list_guard_d rfl rfl rfl rfl (by decide) rfl (by decide) (fun h3 => ?_) (fun h3 => ?_)
  · simp only [Bool.false_eq_true, if_true, if_false, Decidable.not_not] at h3
    refine id (op_q (q_move rfl (by decide)) ?_)
    refine list_guard_y rfl rfl rfl rfl (by decide) rfl ?_
    refine id (op_q (q_move rfl (by decide)) ?_)
    refine list_guard_y rfl rfl rfl rfl (by decide) rfl ?_
    refine id (op_q (q_bne Tryd.underlying4 rfl rfl (by decide)) ?_)
    refine list_cons rfl (op_q (q_pick rfl rfl (by decide)) ?_)
    refine list_nil ?_
    refine hK13 _ ?_; clear hK13 K13
    refine codeT.imp (σ' := [(0, _), (1, _), (4, _), (5, _), (6, _), (7, _), (8, _), (9, _), (10, _), (48, _)]) ?_ (imp_covers ⟨rfl, rfl, rfl, rfl, rfl, rfl, rfl, rfl, rfl, rfl, trivial⟩)
    refine code_cond_d rfl (fun h4 => ?_) (fun h4 => ?_)
    · skip
      (try simp only [Decidable.not_not] at h4)
      refine code_seq (fun K14 hK14 => ?_)
      refine code_region ?_
      refine list_cons rfl (op_q (q_assign rfl (by decide)) ?_)
      refine list_nil ?_
      refine hK14 _ ?_; clear hK14 K14
      refine code_ret ?_
      refine then_r ?_; clear hK12 K12
      refine ends_ret (cs := []) rfl rfl rfl rfl trivial ?_
      first | rfl | omega | exact absurd rfl h4 | (exact absurd (by omega) h4) | (simp at h4) | (simp_all) | (exfalso; simp_all; omega)
    (try simp only [Decidable.not_not] at h4)
    refine code_skip ?_
    refine hK12 _ ?_; clear hK12 K12
    refine code_seq (fun K15 hK15 => ?_)
    refine code_seq (fun K16 hK16 => ?_)
    refine code_region ?_
    refine list_cons rfl (op_q (q_move rfl (by decide)) ?_)
    refine list_cons rfl (op_q (q_move rfl (by decide)) ?_)
    refine list_cons rfl (op_call _ (toIntS_c _ (by first | omega | (simp; omega))) rfl rfl (by decide) (by decide) (by decide) rfl ?_)
    rintro _ rfl
    refine list_cons rfl (op_call _ (eqIntS_c _ _ (by first | omega | (simp; omega))) rfl rfl (by decide) (by decide) (by decide) rfl ?_)
    rintro _ rfl
    refine list_cons rfl (op_q (by first | exact q_notd rfl (by decide) | exact q_not rfl (by decide)) ?_)
    refine list_nil ?_
    refine hK16 _ ?_; clear hK16 K16
    refine codeT.imp (σ' := [(0, _), (1, _), (4, _), (5, _), (6, _), (7, _), (8, _), (9, _), (10, _), (53, _)]) ?_ (imp_covers ⟨rfl, rfl, rfl, rfl, rfl, rfl, rfl, rfl, rfl, rfl, trivial⟩)
    refine code_cond_d rfl (fun h5 => ?_) (fun h5 => ?_)
    · skip
      (try simp only [Decidable.not_not] at h5)
      refine code_seq (fun K17 hK17 => ?_)
      refine code_region ?_
      refine list_cons rfl (op_q (q_assign rfl (by decide)) ?_)
      refine list_nil ?_
      refine hK17 _ ?_; clear hK17 K17
      refine code_ret ?_
      refine then_r ?_; clear hK15 K15
      refine ends_ret (cs := []) rfl rfl rfl rfl trivial ?_
      first | rfl | omega | exact absurd rfl h5 | (exact absurd (by omega) h5) | (simp at h5) | (simp_all) | (exfalso; simp_all; omega)
    (try simp only [Decidable.not_not] at h5)
    refine code_skip ?_
    refine hK15 _ ?_; clear hK15 K15
    refine code_seq (fun K18 hK18 => ?_)
    refine code_seq (fun K19 hK19 => ?_)
    refine code_region ?_
    refine list_cons rfl (op_q (q_move rfl (by decide)) ?_)
    refine list_cons rfl (op_q (q_move rfl (by decide)) ?_)
    refine list_cons rfl (op_call _ (toIntS_c _ (by first | omega | (simp; omega))) rfl rfl (by decide) (by decide) (by decide) rfl ?_)
    rintro _ rfl
    refine list_cons rfl (op_call _ (eqIntS_c _ _ (by first | omega | (simp; omega))) rfl rfl (by decide) (by decide) (by decide) rfl ?_)
    rintro _ rfl
    refine list_cons rfl (op_q (by first | exact q_notd rfl (by decide) | exact q_not rfl (by decide)) ?_)
    refine list_nil ?_
    refine hK19 _ ?_; clear hK19 K19
    refine codeT.imp (σ' := [(0, _), (1, _), (4, _), (5, _), (6, _), (7, _), (8, _), (9, _), (10, _), (58, _)]) ?_ (imp_covers ⟨rfl, rfl, rfl, rfl, rfl, rfl, rfl, rfl, rfl, rfl, trivial⟩)
    refine code_cond_d rfl (fun h6 => ?_) (fun h6 => ?_)
    · skip
      (try simp only [Decidable.not_not] at h6)
      refine code_seq (fun K20 hK20 => ?_)
      refine code_region ?_
      refine list_cons rfl (op_q (q_assign rfl (by decide)) ?_)
      refine list_nil ?_
      refine hK20 _ ?_; clear hK20 K20
      refine code_ret ?_
      refine then_r ?_; clear hK18 K18
      refine ends_ret (cs := []) rfl rfl rfl rfl trivial ?_
      first | rfl | omega | exact absurd rfl h6 | (exact absurd (by omega) h6) | (simp at h6) | (simp_all) | (exfalso; simp_all; omega)
    (try simp only [Decidable.not_not] at h6)
    refine code_skip ?_
    refine hK18 _ ?_; clear hK18 K18
    refine code_seq (fun K21 hK21 => ?_)
    refine code_region ?_
    refine list_cons rfl (op_q (q_assign rfl (by decide)) ?_)
    refine list_nil ?_
    refine hK21 _ ?_; clear hK21 K21
    refine code_seq (fun K22 hK22 => ?_)
    refine code_region ?_
    refine list_cons rfl (op_q (q_move rfl (by decide)) ?_)
    refine list_cons rfl (op_q (q_move rfl (by decide)) ?_)
    refine list_cons rfl (op_callM (markIntS_c _ _ ?_ ?_ ?_) (.tmp 59) 31 [7, 59] [.tmp 60] _ rfl rfl (by intro y hy; cases hy; exact ⟨rfl, (by intro t ht; simp only [List.mem_cons, List.not_mem_nil, or_false] at ht; rcases ht with rfl | rfl <;> rfl), (by intro s hs; simp only [List.mem_cons, List.not_mem_nil, or_false] at hs; subst hs; first | (simp [SV.labels]; done) | (simp [SV.labels, packS, SV.back]; done) | exact List.not_mem_nil)⟩) (by decide) (by decide) (by decide) rfl (fun _ => rfl) ?_)
    · first | omega | (simp; omega)
    · omega
    · omega
    rintro _ _ ⟨rfl, rfl⟩
    refine list_cons rfl (op_q (q_assign rfl (by decide)) ?_)
    refine list_nil ?_
    refine hK22 _ ?_; clear hK22 K22
    refine codeT.imp (σ' := [(0, _), (1, _), (4, _), (5, _), (6, _), (7, _), (8, _), (9, _), (10, _), (11, _)]) ?_ (imp_covers ⟨rfl, rfl, rfl, rfl, rfl, rfl, rfl, rfl, rfl, rfl, trivial⟩)
    refine code_seq (fun K23 hK23 => ?_)
    refine code_region ?_
    refine list_cons rfl (op_q (q_move rfl (by decide)) ?_)
    refine list_cons rfl (op_q (q_move rfl (by decide)) ?_)
    refine list_cons rfl (op_callM (markIntS_c _ _ ?_ ?_ ?_) (.tmp 62) 33 [8, 62] [.tmp 63] _ rfl rfl (by intro y hy; cases hy; exact ⟨rfl, (by intro t ht; simp only [List.mem_cons, List.not_mem_nil, or_false] at ht; rcases ht with rfl | rfl <;> rfl), (by intro s hs; simp only [List.mem_cons, List.not_mem_nil, or_false] at hs; subst hs; first | (simp [SV.labels]; done) | (simp [SV.labels, packS, SV.back]; done) | exact List.not_mem_nil)⟩) (by decide) (by decide) (by decide) rfl (fun _ => rfl) ?_)
    · first | omega | (simp; omega)
    · omega
    · omega
    rintro _ _ ⟨rfl, rfl⟩
    refine list_cons rfl (op_q (q_assign rfl (by decide)) ?_)
    refine list_nil ?_
    refine hK23 _ ?_; clear hK23 K23
    refine codeT.imp (σ' := [(0, _), (1, _), (4, _), (5, _), (6, _), (7, _), (8, _), (9, _), (10, _), (11, _)]) ?_ (imp_covers ⟨rfl, rfl, rfl, rfl, rfl, rfl, rfl, rfl, rfl, rfl, trivial⟩)
    refine code_seq (fun K24 hK24 => ?_)
    refine code_seq (fun K25 hK25 => ?_)
    refine code_region ?_
    refine list_cons rfl (op_q (q_move rfl (by decide)) ?_)
    refine list_cons rfl (op_q (q_lt rfl rfl (by decide)) ?_)
    refine list_cons rfl (op_q (q_move rfl (by decide)) ?_)
    refine list_guard_d rfl rfl rfl rfl (by decide) rfl (by decide) (fun h7 => ?_) (fun h7 => ?_)
    · simp only [Bool.false_eq_true, if_true, if_false, Decidable.not_not] at h7
      refine id (op_q (q_move rfl (by decide)) ?_)
      refine list_guard_y rfl rfl rfl rfl (by decide) rfl ?_
      refine id (op_q (q_move rfl (by decide)) ?_)
      refine list_guard_y rfl rfl rfl rfl (by decide) rfl ?_
      refine id (op_call _ (eqIntA2S_c _ _ (by first | omega | (simp; omega))) rfl rfl (by decide) (by decide) (by decide) rfl ?_)
      rintro _ rfl
      refine list_guard_y rfl rfl rfl rfl (by decide) rfl ?_
      refine id (op_q (by first | exact q_notd rfl (by decide) | exact q_not rfl (by decide)) ?_)
      refine list_cons rfl (op_q (q_pick rfl rfl (by decide)) ?_)
      refine list_cons rfl (op_q (q_move rfl (by decide)) ?_)
      refine list_guard_d rfl rfl rfl rfl (by decide) rfl (by decide) (fun h8 => ?_) (fun h8 => ?_)
      · simp only [Bool.false_eq_true, if_true, if_false, Decidable.not_not] at h8
        refine id (op_q (q_move rfl (by decide)) ?_)
        refine list_guard_y rfl rfl rfl rfl (by decide) rfl ?_
        refine id (op_q (q_move rfl (by decide)) ?_)
        refine list_guard_y rfl rfl rfl rfl (by decide) rfl ?_
        refine id (op_q (q_bne Tryd.underlying4 rfl rfl (by decide)) ?_)
        refine list_cons rfl (op_q (q_pick rfl rfl (by decide)) ?_)
        refine list_nil ?_
        refine hK25 _ ?_; clear hK25 K25
        refine codeT.imp (σ' := [(0, _), (1, _), (4, _), (5, _), (6, _), (7, _), (8, _), (9, _), (10, _), (11, _), (77, _)]) ?_ (imp_covers ⟨rfl, rfl, rfl, rfl, rfl, rfl, rfl, rfl, rfl, rfl, rfl, trivial⟩)
        refine code_cond_d rfl (fun h9 => ?_) (fun h9 => ?_)
        · skip
          (try simp only [Decidable.not_not] at h9)
          refine code_seq (fun K26 hK26 => ?_)
          refine code_region ?_
          refine list_cons rfl (op_q (q_assign rfl (by decide)) ?_)
          refine list_nil ?_
          refine hK26 _ ?_; clear hK26 K26
          refine code_ret ?_
          refine then_r ?_; clear hK24 K24
          refine ends_ret (cs := []) rfl rfl rfl rfl trivial ?_
          first | rfl | omega | exact absurd rfl h9 | (exact absurd (by omega) h9) | (simp at h9) | (simp_all) | (exfalso; simp_all; omega)
        (try simp only [Decidable.not_not] at h9)
        refine code_skip ?_
        refine hK24 _ ?_; clear hK24 K24
        refine code_seq (fun K27 hK27 => ?_)
        refine code_region ?_
        refine list_cons rfl (op_q (q_assign rfl (by decide)) ?_)
        refine list_nil ?_
        refine hK27 _ ?_; clear hK27 K27
        refine code_seq (fun K28 hK28 => ?_)
        refine code_region ?_
        refine list_cons rfl (op_q (q_move rfl (by decide)) ?_)
        refine list_cons rfl (op_q (q_move rfl (by decide)) ?_)
        refine list_cons rfl (op_callM (markIntA2S_c _ _ ?_ ?_ ?_) (.tmp 78) 37 [9, 78] [.tmp 79] _ rfl rfl (by intro y hy; cases hy; exact ⟨rfl, (by intro t ht; simp only [List.mem_cons, List.not_mem_nil, or_false] at ht; rcases ht with rfl | rfl <;> rfl), (by intro s hs; simp only [List.mem_cons, List.not_mem_nil, or_false] at hs; subst hs; first | (simp [SV.labels]; done) | (simp [SV.labels, packS, SV.back]; done) | exact List.not_mem_nil)⟩) (by decide) (by decide) (by decide) rfl (fun _ => rfl) ?_)
        · first | omega | (simp; omega)
        · omega
        · omega
        rintro _ _ ⟨rfl, rfl⟩
        refine list_cons rfl (op_q (q_assign rfl (by decide)) ?_)
        refine list_nil ?_
        refine hK28 _ ?_; clear hK28 K28
        refine codeT.imp (σ' := [(0, _), (1, _), (4, _), (5, _), (6, _), (7, _), (8, _), (9, _), (10, _), (11, _), (12, _)]) ?_ (imp_covers ⟨rfl, rfl, rfl, rfl, rfl, rfl, rfl, rfl, rfl, rfl, rfl, trivial⟩)
        refine code_seq (fun K29 hK29 => ?_)
        refine code_region ?_
        refine list_cons rfl (op_q (q_assign rfl (by decide)) ?_)
        refine list_nil ?_
        refine hK29 _ ?_; clear hK29 K29
        refine code_seq (fun K30 hK30 => ?_)
        refine code_region ?_
        refine list_cons rfl (op_q (q_move rfl (by decide)) ?_)
        refine list_cons rfl (op_q (q_move rfl (by decide)) ?_)
        refine list_cons rfl (op_call _ (heldIntA2S_c _ _ (by first | omega | (simp; omega)) (by omega) (by omega)) rfl rfl (by decide) (by decide) (by decide) rfl ?_)
        rintro _ rfl
        refine list_cons rfl (op_q (q_assign rfl (by decide)) ?_)
        refine list_nil ?_
        refine hK30 _ ?_; clear hK30 K30
        refine codeT.imp (σ' := [(0, _), (1, _), (4, _), (5, _), (6, _), (7, _), (8, _), (9, _), (10, _), (11, _), (12, _), (13, _)]) ?_ (imp_covers ⟨rfl, rfl, rfl, rfl, rfl, rfl, rfl, rfl, rfl, rfl, rfl, rfl, trivial⟩)
        refine code_seq (fun K31 hK31 => ?_)
        refine code_seq (fun K32 hK32 => ?_)
        refine code_region ?_
        refine list_cons rfl (op_q (q_move rfl (by decide)) ?_)
        refine list_cons rfl (op_q (q_lt rfl rfl (by decide)) ?_)
        refine list_nil ?_
        refine hK32 _ ?_; clear hK32 K32
        refine code_cond_d rfl (fun h10 => ?_) (fun h10 => ?_)
        · skip
          (try simp only [Decidable.not_not] at h10)
          refine code_seq (fun K33 hK33 => ?_)
          refine code_region ?_
          refine list_cons rfl (op_q (q_assign rfl (by decide)) ?_)
          refine list_nil ?_
          refine hK33 _ ?_; clear hK33 K33
          refine code_ret ?_
          refine then_r ?_; clear hK31 K31
          refine ends_ret (cs := []) rfl rfl rfl rfl trivial ?_
          first | rfl | omega | exact absurd rfl h10 | (exact absurd (by omega) h10) | (simp at h10) | (simp_all) | (exfalso; simp_all; omega)
        (try simp only [Decidable.not_not] at h10)
        refine code_skip ?_
        refine hK31 _ ?_; clear hK31 K31
        refine code_seq (fun K34 hK34 => ?_)
        refine code_seq (fun K35 hK35 => ?_)
        refine code_region ?_
        refine list_cons rfl (op_q (q_move rfl (by decide)) ?_)
        refine list_cons rfl (op_q (q_move rfl (by decide)) ?_)
        refine list_cons rfl (op_q (q_ne rfl rfl (by decide)) ?_)
        refine list_nil ?_
        refine hK35 _ ?_; clear hK35 K35
        refine code_cond_d rfl (fun h11 => ?_) (fun h11 => ?_)
        · skip
          (try simp only [Decidable.not_not] at h11)
          refine code_seq (fun K36 hK36 => ?_)
          refine code_region ?_
          refine list_cons rfl (op_q (q_assign rfl (by decide)) ?_)
          refine list_nil ?_
          refine hK36 _ ?_; clear hK36 K36
          refine code_ret ?_
          refine then_r ?_; clear hK34 K34
          refine ends_ret (cs := []) rfl rfl rfl rfl trivial ?_
          first | rfl | omega | exact absurd rfl h11 | (exact absurd (by omega) h11) | (simp at h11) | (simp_all) | (exfalso; simp_all; omega)
        (try simp only [Decidable.not_not] at h11)
        refine code_skip ?_
        refine hK34 _ ?_; clear hK34 K34
        refine code_seq (fun K37 hK37 => ?_)
        refine code_region ?_
        refine list_cons rfl (op_q (q_move rfl (by decide)) ?_)
        refine list_cons rfl (op_call _ (toIntS_c _ (by first | omega | (simp; omega))) rfl rfl (by decide) (by decide) (by decide) rfl ?_)
        rintro _ rfl
        refine list_cons rfl (op_q (q_move rfl (by decide)) ?_)
        refine list_cons rfl (op_call _ (toIntS_c _ (by first | omega | (simp; omega))) rfl rfl (by decide) (by decide) (by decide) rfl ?_)
        rintro _ rfl
        refine list_cons rfl (op_call _ (impl_WinningMoves _ _ (by omega) (by omega)) rfl rfl (by decide) (by decide) (by decide) rfl ?_)
        rintro _ rfl
        refine list_cons rfl (op_q (q_move rfl (by decide)) ?_)
        refine list_cons rfl (op_q (q_extract rfl rfl (by decide)) ?_)
        refine list_cons rfl (op_q (q_extract rfl rfl (by decide)) ?_)
        refine list_cons rfl (op_q (q_assign rfl (by decide)) ?_)
        refine list_cons rfl (op_q (q_assign rfl (by decide)) ?_)
        refine list_nil ?_
        refine hK37 _ ?_; clear hK37 K37
        refine codeT.imp (σ' := [(0, _), (1, _), (4, _), (5, _), (6, _), (7, _), (8, _), (9, _), (10, _), (11, _), (12, _), (13, _), (14, _), (15, _)]) ?_ (imp_covers ⟨rfl, rfl, rfl, rfl, rfl, rfl, rfl, rfl, rfl, rfl, rfl, rfl, rfl, rfl, trivial⟩)
        refine code_seq (fun K38 hK38 => ?_)
        refine code_seq (fun K39 hK39 => ?_)
        refine code_region ?_
        refine list_cons rfl (op_q (q_move rfl (by decide)) ?_)
        refine list_cons rfl (op_q (q_move rfl (by decide)) ?_)
        refine list_cons rfl (op_call _ (eqIntA2S_c _ _ (by first | omega | (simp; omega))) rfl rfl (by decide) (by decide) (by decide) rfl ?_)
        rintro _ rfl
        refine list_cons rfl (op_q (by first | exact q_notd rfl (by decide) | exact q_not rfl (by decide)) ?_)
        refine list_cons rfl (op_q (q_move rfl (by decide)) ?_)
        refine list_guard_d rfl rfl rfl rfl (by decide) rfl (by decide) (fun h12 => ?_) (fun h12 => ?_)
        · simp only [Bool.false_eq_true, if_true, if_false, Decidable.not_not] at h12
          refine id (op_q (q_move rfl (by decide)) ?_)
          refine list_guard_y rfl rfl rfl rfl (by decide) rfl ?_
          refine id (op_q (q_move rfl (by decide)) ?_)
          refine list_guard_y rfl rfl rfl rfl (by decide) rfl ?_
          refine id (op_q (q_bne Tryd.underlying4 rfl rfl (by decide)) ?_)
          refine list_cons rfl (op_q (q_pick rfl rfl (by decide)) ?_)
          refine list_nil ?_
          refine hK39 _ ?_; clear hK39 K39
          refine codeT.imp (σ' := [(0, _), (1, _), (4, _), (5, _), (6, _), (7, _), (8, _), (9, _), (10, _), (11, _), (12, _), (13, _), (14, _), (15, _), (105, _)]) ?_ (imp_covers ⟨rfl, rfl, rfl, rfl, rfl, rfl, rfl, rfl, rfl, rfl, rfl, rfl, rfl, rfl, rfl, trivial⟩)
          refine code_cond_d rfl (fun h13 => ?_) (fun h13 => ?_)
          · skip
            (try simp only [Decidable.not_not] at h13)
            refine code_seq (fun K40 hK40 => ?_)
            refine code_region ?_
            refine list_cons rfl (op_q (q_assign rfl (by decide)) ?_)
            refine list_nil ?_
            refine hK40 _ ?_; clear hK40 K40
            refine code_ret ?_
            refine then_r ?_; clear hK38 K38
            refine ends_ret (cs := []) rfl rfl rfl rfl trivial ?_
            first | rfl | omega | exact absurd rfl h13 | (exact absurd (by omega) h13) | (simp at h13) | (simp_all) | (exfalso; simp_all; omega)
          (try simp only [Decidable.not_not] at h13)
          refine code_skip ?_
          refine hK38 _ ?_; clear hK38 K38
          refine code_seq (fun K41 hK41 => ?_)
          refine code_region ?_
          refine list_cons rfl (op_q (q_assign rfl (by decide)) ?_)
          refine list_nil ?_
          refine hK41 _ ?_; clear hK41 K41
          refine code_seq (fun K42 hK42 => ?_)
          refine code_region ?_
          refine list_cons rfl (op_q (q_move rfl (by decide)) ?_)
          refine list_cons rfl (op_q (q_move rfl (by decide)) ?_)
          refine list_cons rfl (op_call _ (heldIntA2S_c _ _ (by first | omega | (simp; omega)) (by omega) (by omega)) rfl rfl (by decide) (by decide) (by decide) rfl ?_)
          rintro _ rfl
          refine list_cons rfl (op_q (q_assign rfl (by decide)) ?_)
          refine list_nil ?_
          refine hK42 _ ?_; clear hK42 K42
          refine codeT.imp (σ' := [(0, _), (1, _), (4, _), (5, _), (6, _), (7, _), (8, _), (9, _), (10, _), (11, _), (12, _), (13, _), (14, _), (15, _)]) ?_ (imp_covers ⟨rfl, rfl, rfl, rfl, rfl, rfl, rfl, rfl, rfl, rfl, rfl, rfl, rfl, rfl, trivial⟩)
          refine code_seq (fun K43 hK43 => ?_)
          refine code_seq (fun K44 hK44 => ?_)
          refine code_region ?_
          refine list_cons rfl (op_q (q_move rfl (by decide)) ?_)
          refine list_cons rfl (op_q (q_lt rfl rfl (by decide)) ?_)
          refine list_nil ?_
          refine hK44 _ ?_; clear hK44 K44
          refine code_cond_d rfl (fun h14 => ?_) (fun h14 => ?_)
          · skip
            (try simp only [Decidable.not_not] at h14)
            refine code_seq (fun K45 hK45 => ?_)
            refine code_region ?_
            refine list_cons rfl (op_q (q_assign rfl (by decide)) ?_)
            refine list_nil ?_
            refine hK45 _ ?_; clear hK45 K45
            refine code_ret ?_
            refine then_r ?_; clear hK43 K43
            refine ends_ret (cs := []) rfl rfl rfl rfl trivial ?_
            first | rfl | omega | exact absurd rfl h14 | (exact absurd (by omega) h14) | (simp at h14) | (simp_all) | (exfalso; simp_all; omega)
          (try simp only [Decidable.not_not] at h14)
          refine code_skip ?_
          refine hK43 _ ?_; clear hK43 K43
          refine code_seq (fun K46 hK46 => ?_)
          refine code_seq (fun K47 hK47 => ?_)
          refine code_region ?_
          refine list_cons rfl (op_q (q_move rfl (by decide)) ?_)
          refine list_cons rfl (op_q (q_move rfl (by decide)) ?_)
          refine list_cons rfl (op_q (q_ne rfl rfl (by decide)) ?_)
          refine list_nil ?_
          refine hK47 _ ?_; clear hK47 K47
          refine code_cond_d rfl (fun h15 => ?_) (fun h15 => ?_)
          · skip
            (try simp only [Decidable.not_not] at h15)
            refine code_seq (fun K48 hK48 => ?_)
            refine code_region ?_
            refine list_cons rfl (op_q (q_assign rfl (by decide)) ?_)
            refine list_nil ?_
            refine hK48 _ ?_; clear hK48 K48
            refine code_ret ?_
            refine then_r ?_; clear hK46 K46
            refine ends_ret (cs := []) rfl rfl rfl rfl trivial ?_
            first | rfl | omega | exact absurd rfl h15 | (exact absurd (by omega) h15) | (simp at h15) | (simp_all) | (exfalso; simp_all; omega)
          (try simp only [Decidable.not_not] at h15)
          refine code_skip ?_
          refine hK46 _ ?_; clear hK46 K46
          refine code_seq (fun K49 hK49 => ?_)
          refine code_region ?_
          refine list_cons rfl (op_q (q_assign rfl (by decide)) ?_)
          refine list_nil ?_
          refine hK49 _ ?_; clear hK49 K49
          refine code_ret ?_
          refine ends_ret (cs := []) rfl rfl rfl rfl trivial ?_
          first | rfl | omega | exact absurd rfl h15 | (exact absurd (by omega) h15) | (simp at h15) | (simp_all) | (exfalso; simp_all; omega)
        simp only [Bool.false_eq_true, if_true, if_false, Decidable.not_not] at h12
        refine list_guard_n rfl rfl rfl rfl (by decide) rfl ?_
        refine list_guard_n rfl rfl rfl rfl (by decide) rfl ?_
        refine list_cons rfl (op_q (q_pick rfl rfl (by decide)) ?_)
        refine list_nil ?_
        refine hK39 _ ?_; clear hK39 K39
        refine code_cond_t rfl ?_
        refine code_seq (fun K50 hK50 => ?_)
        refine code_region ?_
        refine list_cons rfl (op_q (q_assign rfl (by decide)) ?_)
        refine list_nil ?_
        refine hK50 _ ?_; clear hK50 K50
        refine code_ret ?_
        refine then_r ?_; clear hK38 K38
        refine ends_ret (cs := []) rfl rfl rfl rfl trivial ?_
        first | rfl | omega | exact absurd rfl h12 | (exact absurd (by omega) h12) | (simp at h12) | (simp_all) | (exfalso; simp_all; omega)
      simp only [Bool.false_eq_true, if_true, if_false, Decidable.not_not] at h8
      refine list_guard_n rfl rfl rfl rfl (by decide) rfl ?_
      refine list_guard_n rfl rfl rfl rfl (by decide) rfl ?_
      refine list_cons rfl (op_q (q_pick rfl rfl (by decide)) ?_)
      refine list_nil ?_
      refine hK25 _ ?_; clear hK25 K25
      refine codeT.imp (σ' := [(0, _), (1, _), (4, _), (5, _), (6, _), (7, _), (8, _), (9, _), (10, _), (11, _), (77, _)]) ?_ (imp_covers ⟨rfl, rfl, rfl, rfl, rfl, rfl, rfl, rfl, rfl, rfl, rfl, trivial⟩)
      refine code_cond_t rfl ?_
      refine code_seq (fun K51 hK51 => ?_)
      refine code_region ?_
      refine list_cons rfl (op_q (q_assign rfl (by decide)) ?_)
      refine list_nil ?_
      refine hK51 _ ?_; clear hK51 K51
      refine code_ret ?_
      refine then_r ?_; clear hK24 K24
      refine ends_ret (cs := []) rfl rfl rfl rfl trivial ?_
      first | rfl | omega | exact absurd rfl h8 | (exact absurd (by omega) h8) | (simp at h8) | (simp_all) | (exfalso; simp_all; omega)
    simp only [Bool.false_eq_true, if_true, if_false, Decidable.not_not] at h7
    refine list_guard_n rfl rfl rfl rfl (by decide) rfl ?_
    refine list_guard_n rfl rfl rfl rfl (by decide) rfl ?_
    refine list_guard_n rfl rfl rfl rfl (by decide) rfl ?_
    refine list_cons rfl (op_q (q_pick rfl rfl (by decide)) ?_)
    refine list_cons rfl (op_q (q_move rfl (by decide)) ?_)
    refine list_guard_n rfl rfl rfl rfl (by decide) rfl ?_
    refine list_guard_n rfl rfl rfl rfl (by decide) rfl ?_
    refine list_guard_n rfl rfl rfl rfl (by decide) rfl ?_
    refine list_cons rfl (op_q (q_pick rfl rfl (by decide)) ?_)
    refine list_nil ?_
    refine hK25 _ ?_; clear hK25 K25
    refine code_cond_t rfl ?_
    refine code_seq (fun K52 hK52 => ?_)
    refine code_region ?_
    refine list_cons rfl (op_q (q_assign rfl (by decide)) ?_)
    refine list_nil ?_
    refine hK52 _ ?_; clear hK52 K52
    refine code_ret ?_
    refine then_r ?_; clear hK24 K24
    refine ends_ret (cs := []) rfl rfl rfl rfl trivial ?_
    first | rfl | omega | exact absurd rfl h7 | (exact absurd (by omega) h7) | (simp at h7) | (simp_all) | (exfalso; simp_all; omega)
  simp only [Bool.false_eq_true, if_true, if_false, Decidable.not_not] at h3
  refine list_guard_n rfl rfl rfl rfl (by decide) rfl ?_
  refine list_guard_n rfl rfl rfl rfl (by decide) rfl ?_
  refine list_cons rfl (op_q (q_pick rfl rfl (by decide)) ?_)
  refine list_nil ?_
  refine hK13 _ ?_; clear hK13 K13
  refine code_cond_t rfl ?_
  refine code_seq (fun K53 hK53 => ?_)
  refine code_region ?_
  refine list_cons rfl (op_q (q_assign rfl (by decide)) ?_)
  refine list_nil ?_
  refine hK53 _ ?_; clear hK53 K53
  refine code_ret ?_
  refine then_r ?_; clear hK12 K12
  refine ends_ret (cs := []) rfl rfl rfl rfl trivial ?_
  first | rfl | omega | exact absurd rfl h3 | (exact absurd (by omega) h3) | (simp at h3) | (simp_all) | (exfalso; simp_all; omega)
end Go.Proofs.YtfagllolcalfiaaDoor
