/- Contracts of functions, walked over the pure layer; each says for which arguments. -/
import Derived.Test.YtjbbijlbenkgcaaDoorS3bTy
import Derived.Test.YtjbbijlbenkgcaaDoorTf
import Derived.Test.YtjbbijlbenkgcaaDoorSp
import Derived.Test.YtjbbijlbenkgcaaDoorS3
namespace Go.Proofs.YtjbbijlbenkgcaaDoor
open Go.RowKit S3bTy
set_option linter.unusedVariables false
set_option linter.unusedSimpArgs false

/-- A list of faults, as its cells lie. -/
def fl (fs : List (Int × Int)) : List PV := (fs.map fun f => [PV.int .i64 f.1, PV.int .i64 f.2]).flatten
theorem fl_at : ∀ (fs : List (Int × Int)) (k : Nat), k < fs.length → ((fl fs).drop (k * 2)).take 2 = [PV.int .i64 (fs.getD k (0, 0)).1, PV.int .i64 (fs.getD k (0, 0)).2]
  | f :: fs, 0, _ => rfl
  | f :: fs, k + 1, h => by
    have ih := fl_at fs k (by simpa using h)
    show (((PV.int .i64 f.1 :: PV.int .i64 f.2 :: fl fs)).drop ((k + 1) * 2)).take 2 = _
    rw [show (k + 1) * 2 = k * 2 + 2 by omega]
    exact ih
theorem fl_len : ∀ fs : List (Int × Int), (fl fs).length = fs.length * 2
  | [] => rfl
  | f :: fs => by
    show (PV.int .i64 f.1 :: PV.int .i64 f.2 :: fl fs).length = _
    simp only [List.length_cons, fl_len fs]; omega
theorem fl_flat : ∀ fs : List (Int × Int), PV.flatL (fl fs) = true
  | [] => rfl
  | f :: fs => by
    show PV.flatL (PV.int .i64 f.1 :: PV.int .i64 f.2 :: fl fs) = true
    simp only [PV.flatL, PV.flat, fl_flat fs, Bool.and_self]
def FaultsP (fs : List (Int × Int)) (l : List Int) : Prop := fs.length = l.length ∧ RowP l ∧ ∀ f ∈ fs, FaultP f.1 f.2
instance (fs : List (Int × Int)) (l : List Int) : Decidable (FaultsP fs l) := by unfold FaultsP; infer_instance
theorem FaultsP.at {fs : List (Int × Int)} {l : List Int} (h : FaultsP fs l) {j : Nat} (hj : j < fs.length) : FaultP (fs.getD j (0, 0)).1 (fs.getD j (0, 0)).2 := by
  rw [List.getD_eq_getElem?_getD, List.getElem?_eq_getElem hj]
  exact h.2.2 _ (List.getElem_mem hj)
theorem FaultsP.of {fs : List (Int × Int)} {l : List Int} (h1 : fs.length = l.length) (h2 : RowP l) (h : ∀ j, j < fs.length → FaultP (fs.getD j (0, 0)).1 (fs.getD j (0, 0)).2) : FaultsP fs l := ⟨h1, h2, fun f hf => by
  obtain ⟨j, hj, rfl⟩ := List.mem_iff_getElem.1 hf
  have := h j hj
  rw [List.getD_eq_getElem?_getD, List.getElem?_eq_getElem hj] at this
  exact this⟩
theorem fl_put : ∀ (gs : List (Int × Int)) (k : Nat) (x y : Int), k < gs.length → putAt (fl gs) (k * 2) [PV.int .i64 x, PV.int .i64 y] = fl (gs.set k (x, y))
  | g :: gs, 0, x, y, _ => by
    show ((PV.int .i64 g.1 :: PV.int .i64 g.2 :: fl gs).take 0 ++ [PV.int .i64 x, PV.int .i64 y] ++ (PV.int .i64 g.1 :: PV.int .i64 g.2 :: fl gs).drop (0 + 2)) = _
    rfl
  | g :: gs, k + 1, x, y, h => by
    have ih := fl_put gs k x y (by simpa using h)
    show ((PV.int .i64 g.1 :: PV.int .i64 g.2 :: fl gs).take ((k + 1) * 2) ++ [PV.int .i64 x, PV.int .i64 y] ++ (PV.int .i64 g.1 :: PV.int .i64 g.2 :: fl gs).drop ((k + 1) * 2 + 2)) = PV.int .i64 g.1 :: PV.int .i64 g.2 :: fl (gs.set k (x, y))
    rw [← ih, show (k + 1) * 2 = k * 2 + 1 + 1 by omega, show k * 2 + 1 + 1 + 2 = k * 2 + 2 + 1 + 1 by omega]
    rfl
theorem fl_put0 : ∀ (gs : List (Int × Int)) (k : Nat) (x : Int), k < gs.length → putAt (fl gs) (k * 2) [PV.int .i64 x] = fl (gs.set k (x, (gs.getD k (0, 0)).2))
  | g :: gs, 0, x, _ => rfl
  | g :: gs, k + 1, x, h => by
    have ih := fl_put0 gs k x (by simpa using h)
    show ((PV.int .i64 g.1 :: PV.int .i64 g.2 :: fl gs).take ((k + 1) * 2) ++ [PV.int .i64 x] ++ (PV.int .i64 g.1 :: PV.int .i64 g.2 :: fl gs).drop ((k + 1) * 2 + 1)) = PV.int .i64 g.1 :: PV.int .i64 g.2 :: fl (gs.set k (x, (gs.getD k (0, 0)).2))
    rw [← ih, show (k + 1) * 2 = k * 2 + 1 + 1 by omega, show k * 2 + 1 + 1 + 1 = k * 2 + 1 + 1 + 1 by omega]
    rfl
theorem fl_put1 : ∀ (gs : List (Int × Int)) (k : Nat) (x : Int), k < gs.length → putAt (fl gs) (k * 2 + 1) [PV.int .i64 x] = fl (gs.set k ((gs.getD k (0, 0)).1, x))
  | g :: gs, 0, x, _ => rfl
  | g :: gs, k + 1, x, h => by
    have ih := fl_put1 gs k x (by simpa using h)
    show ((PV.int .i64 g.1 :: PV.int .i64 g.2 :: fl gs).take ((k + 1) * 2 + 1) ++ [PV.int .i64 x] ++ (PV.int .i64 g.1 :: PV.int .i64 g.2 :: fl gs).drop ((k + 1) * 2 + 1 + 1)) = PV.int .i64 g.1 :: PV.int .i64 g.2 :: fl (gs.set k ((gs.getD k (0, 0)).1, x))
    rw [← ih, show (k + 1) * 2 + 1 = k * 2 + 1 + 1 + 1 by omega, show k * 2 + 1 + 1 + 1 + 1 = k * 2 + 1 + 1 + 1 + 1 by omega]
    rfl
theorem zeros_fl (k : Nat) : zeros [PV.int .i64 0, PV.int .i64 0] k = fl (List.replicate k (0, 0)) := by
  induction k with
  | zero => rfl
  | succ k ih =>
    have h : fl (List.replicate (k + 1) (0, 0)) = fl (List.replicate k (0, 0)) ++ [PV.int .i64 0, PV.int .i64 0] := by
      rw [List.replicate_succ']; simp [fl]
    rw [h, ← ih]
    unfold zeros
    rw [show (k + 1) * [PV.int IntKind.i64 0, PV.int IntKind.i64 0].length = k * [PV.int IntKind.i64 0, PV.int IntKind.i64 0].length + 1 + 1 by simp; omega, List.range_succ, List.range_succ, List.map_append, List.map_append, List.append_assoc]
    congr 1
    simp [show (k * 2) % 2 = 0 by omega, show (k * 2 + 1) % 2 = 1 by omega]
theorem fl_fill (a : List (Int × Int)) {k : Nat} (h : k < a.length) : putAt (fl (a.take k ++ List.replicate (a.length - k) (0, 0))) (k * 2) [PV.int .i64 (a.getD k (0, 0)).1, PV.int .i64 (a.getD k (0, 0)).2] = fl (a.take (k + 1) ++ List.replicate (a.length - (k + 1)) (0, 0)) := by
  rw [fl_put _ _ _ _ (by simp; omega), take_snocI (0, 0) a k h, List.set_append_right _ _ (by simp; omega), show k - (a.take k).length = 0 by simp; omega, show a.length - k = a.length - (k + 1) + 1 by omega, List.replicate_succ, List.set_cons_zero]
  simp
def shRowK (fs : List (Int × Int)) (l : List Int) (k : Nat) : List Int := (List.range k).map fun j => shF (fs.getD j (0, 0)).1 (fs.getD j (0, 0)).2 (l.getD j 0)
theorem shRowK_succ (fs : List (Int × Int)) (l : List Int) (k : Nat) : shRowK fs l (k + 1) = shRowK fs l k ++ [shF (fs.getD k (0, 0)).1 (fs.getD k (0, 0)).2 (l.getD k 0)] := by
  unfold shRowK; rw [List.range_succ, List.map_append]; rfl
theorem shRowK_len (fs : List (Int × Int)) (l : List Int) (k : Nat) : (shRowK fs l k).length = k := by simp [shRowK]
def shRow (fs : List (Int × Int)) (l : List Int) : List Int := shRowK fs l l.length
theorem shRow_len (fs : List (Int × Int)) (l : List Int) : (shRow fs l).length = l.length := shRowK_len fs l _

theorem spec_l3FaultE (cs : List PV) (fx fy : Int) (h : cs = [.int .i64 fx, .int .i64 fy]) : PCalls Tryd.prog 75 [.agg cs] (· = [.val (.bool (decide (FaultP fx fy)))]) := by subst h; exact spec_l3Fault fx fy

set_option maxRecDepth 4000 in
theorem spec_l3Faults (fs : List (Int × Int)) (l : List Int) (hf : fs.length ≤ 4611686018427387904) (hl : l.length ≤ 4611686018427387904) : PCalls Tryd.prog 82 [.sl fs.length (fl fs), .sl l.length (l.map (.int .i64))] (· = [.val (.bool (decide (FaultsP fs l)))]) := by
  refine pcalls_of_code (n := 28) az Tryd.func82 (by kernel_rfl) rfl rfl (Nat.le_of_ble_eq_true rfl) (by intro t u h; simp [Tryd.f82] at h) ?_
  have hfl := fl_len fs
  have hfla := fl_flat fs
  refine code_seq (fun K1 hK1 => ?_)
  refine code_region ?_
  refine list_cons rfl (op_q (q_assign rfl (by decide)) ?_)
  refine list_nil ?_
  refine hK1 _ ?_; clear hK1 K1
  refine code_seq (fun K2 hK2 => ?_)
  refine code_seq (fun K3 hK3 => ?_)
  refine code_region ?_
  refine list_cons rfl (op_q (q_move rfl (by decide)) ?_)
  refine list_cons rfl (op_q (q_len_sl Tryd.underlying27 rfl rfl (by decide)) ?_)
  refine list_cons rfl (op_q (q_move rfl (by decide)) ?_)
  refine list_cons rfl (op_q (q_len_sl Tryd.underlying24 rfl rfl (by decide)) ?_)
  refine list_cons rfl (op_q (q_ne rfl rfl (by decide)) ?_)
  refine list_cons rfl (op_q (q_move rfl (by decide)) ?_)
  refine list_guard_d rfl rfl rfl rfl (by decide) rfl (by decide) (fun h1 => ?_) (fun h1 => ?_)
  · simp only [Bool.false_eq_true, if_true, if_false, Decidable.not_not] at h1
    refine id (op_q (q_move rfl (by decide)) ?_)
    refine list_guard_y rfl rfl rfl rfl (by decide) rfl ?_
    refine id (op_call _ (spec_l2Row _ (by first | omega | (simp; omega))) rfl rfl (by decide) (by decide) (by decide) rfl ?_)
    rintro _ rfl
    refine list_guard_y rfl rfl rfl rfl (by decide) rfl ?_
    refine id (op_q (by first | exact q_notd rfl (by decide) | exact q_not rfl (by decide)) ?_)
    refine list_cons rfl (op_q (q_pick rfl rfl (by decide)) ?_)
    refine list_nil ?_
    refine hK3 _ ?_; clear hK3 K3
    refine codeT.imp (σ' := [(0, _), (1, _), (4, _), (15, _)]) ?_ (imp_covers ⟨rfl, rfl, rfl, rfl, trivial⟩)
    refine code_cond_d rfl (fun h2 => ?_) (fun h2 => ?_)
    · skip
      (try simp only [Decidable.not_not] at h2)
      refine code_seq (fun K4 hK4 => ?_)
      refine code_region ?_
      refine list_cons rfl (op_q (q_assign rfl (by decide)) ?_)
      refine list_nil ?_
      refine hK4 _ ?_; clear hK4 K4
      refine code_ret ?_
      refine then_r ?_; clear hK2 K2
      refine ends_ret (cs := []) rfl rfl rfl rfl trivial ?_
      rw [decide_eq_false (fun k => h2 k.2.1)]
    · skip
      (try simp only [Decidable.not_not] at h2)
      refine code_skip ?_
      refine hK2 _ ?_; clear hK2 K2
      refine code_seq (fun K5 hK5 => ?_)
      refine code_seq (fun K6 hK6 => ?_)
      refine code_region ?_
      refine list_cons rfl (op_q (q_assign rfl (by decide)) ?_)
      refine list_nil ?_
      refine hK6 _ ?_; clear hK6 K6
      refine code_block ?_
      refine code_loop (X := Bool × Int) (fun x => [(0, .par 0 (.sl fs.length (fl fs))), (1, .par 1 (.sl l.length (l.map (.int .i64)))), (4, .val (.bool x.1)), (5, .val (.int .i64 x.2))]) (fun x => 0 ≤ x.2 ∧ x.2 ≤ (fs.length : Int) ∧ ∀ j, j < x.2.toNat → FaultP (fs.getD j (0, 0)).1 (fs.getD j (0, 0)).2) (fun x => fs.length - x.2.toNat) (_, _) (imp_covers ⟨rfl, rfl, rfl, rfl, trivial⟩) ?_ ?_
      · (try dsimp only)
        exact ⟨by omega, by omega, fun j hj => absurd hj (Nat.not_lt_zero j)⟩
      · intro x hI
        obtain ⟨t4, i⟩ := x
        replace hI : 0 ≤ i ∧ i ≤ (fs.length : Int) ∧ ∀ j, j < i.toNat → FaultP (fs.getD j (0, 0)).1 (fs.getD j (0, 0)).2 := hI
        show codeT _ _ _ [(0, .par 0 (.sl fs.length (fl fs))), (1, .par 1 (.sl l.length (l.map (.int .i64)))), (4, .val (.bool t4)), (5, .val (.int .i64 i))] _
        obtain ⟨i1, i2, i3⟩ := hI
        refine code_seq (fun K7 hK7 => ?_)
        refine code_seq (fun K8 hK8 => ?_)
        refine code_region ?_
        refine list_cons rfl (op_q (q_move rfl (by decide)) ?_)
        refine list_cons rfl (op_q (q_move rfl (by decide)) ?_)
        refine list_cons rfl (op_q (q_len_sl Tryd.underlying27 rfl rfl (by decide)) ?_)
        refine list_cons rfl (op_q (q_lt rfl rfl (by decide)) ?_)
        refine list_nil ?_
        refine hK8 _ ?_; clear hK8 K8
        refine code_cond_d rfl (fun h3 => ?_) (fun h3 => ?_)
        · skip
          (try simp only [Decidable.not_not] at h3)
          refine code_skip ?_
          refine hK7 _ ?_; clear hK7 K7
          refine code_seq (fun K9 hK9 => ?_)
          refine code_block ?_
          refine code_seq (fun K10 hK10 => ?_)
          refine code_region ?_
          refine list_cons rfl (op_q (q_move rfl (by decide)) ?_)
          refine list_cons rfl (op_q (q_move rfl (by decide)) ?_)
          refine list_cons rfl (op_q (q_indexAddr_rd sl_27 rfl (.inl ⟨_, rfl, rfl⟩) rfl (by omega) (by omega) (by decide)) ?_)
          refine list_cons rfl (op_q (q_load_rd_agg agg_42 rfl (.inl ⟨_, rfl⟩) (by first | decide | omega | exact Nat.le_refl _ | (simp; done) | (simp; omega)) (by first | rfl | exact flat_part (by assumption) _ _) (by decide)) ?_)
          refine list_cons rfl (op_call _ (spec_l3FaultE _ _ _ (fl_at fs i.toNat (by omega))) rfl rfl (by decide) (by decide) (by decide) rfl ?_)
          rintro _ rfl
          refine list_cons rfl (op_q (by first | exact q_notd rfl (by decide) | exact q_not rfl (by decide)) ?_)
          refine list_nil ?_
          refine hK10 _ ?_; clear hK10 K10
          refine codeT.imp (σ' := [(0, _), (1, _), (4, _), (5, _), (27, _)]) ?_ (imp_covers ⟨rfl, rfl, rfl, rfl, rfl, trivial⟩)
          refine code_cond_d rfl (fun h4 => ?_) (fun h4 => ?_)
          · skip
            (try simp only [Decidable.not_not] at h4)
            refine code_seq (fun K11 hK11 => ?_)
            refine code_region ?_
            refine list_cons rfl (op_q (q_assign rfl (by decide)) ?_)
            refine list_nil ?_
            refine hK11 _ ?_; clear hK11 K11
            refine code_ret ?_
            refine blk_r ?_
            refine then_r ?_; clear hK9 K9
            refine then_r ?_
            refine blk_r ?_
            refine then_r ?_; clear hK5 K5
            refine ends_ret (cs := []) rfl rfl rfl rfl trivial ?_
            rw [decide_eq_false (fun k => h4 (k.at (by omega)))]
          · skip
            (try simp only [Decidable.not_not] at h4)
            refine code_skip ?_
            refine blk_n ?_
            refine hK9 _ ?_; clear hK9 K9
            refine code_region ?_
            refine list_cons rfl (op_q (q_move rfl (by decide)) ?_)
            refine list_cons rfl (op_q (by first | exact q_addI rfl rfl (by decide) (by omega) (by omega) | exact q_ib rfl rfl rfl (by decide)) ?_)
            refine list_cons rfl (op_q (q_assign rfl (by decide)) ?_)
            refine list_nil ?_
            refine then_n ⟨(_, _), imp_covers ⟨rfl, rfl, rfl, rfl, trivial⟩, ?_, ?_⟩
            · (try dsimp only)
              refine ⟨by omega, by omega, fun j hj => ?_⟩
              by_cases e : j = i.toNat
              · subst e; exact h4
              · exact i3 j (by omega)
            · (try dsimp only); omega
        · skip
          (try simp only [Decidable.not_not] at h3)
          refine code_exit ?_
          refine then_x ?_; clear hK7 K7
          refine then_x ?_
          refine blk_hit ?_
          refine hK5 _ ?_; clear hK5 K5
          refine code_seq (fun K12 hK12 => ?_)
          refine code_region ?_
          refine list_cons rfl (op_q (q_assign rfl (by decide)) ?_)
          refine list_nil ?_
          refine hK12 _ ?_; clear hK12 K12
          refine code_ret ?_
          refine ends_ret (cs := []) rfl rfl rfl rfl trivial ?_
          rw [decide_eq_true (FaultsP.of (by omega) h2 fun j hj => i3 j (by omega))]
  · simp only [Bool.false_eq_true, if_true, if_false, Decidable.not_not] at h1
    refine list_guard_n rfl rfl rfl rfl (by decide) rfl ?_
    refine list_guard_n rfl rfl rfl rfl (by decide) rfl ?_
    refine list_cons rfl (op_q (q_pick rfl rfl (by decide)) ?_)
    refine list_nil ?_
    refine hK3 _ ?_; clear hK3 K3
    refine code_cond_t rfl ?_
    refine code_seq (fun K13 hK13 => ?_)
    refine code_region ?_
    refine list_cons rfl (op_q (q_assign rfl (by decide)) ?_)
    refine list_nil ?_
    refine hK13 _ ?_; clear hK13 K13
    refine codeT.imp (σ' := [(0, _), (1, _), (4, _)]) ?_ (imp_covers ⟨rfl, rfl, rfl, trivial⟩)
    refine code_ret ?_
    refine then_r ?_; clear hK2 K2
    refine ends_ret (cs := []) rfl rfl rfl rfl trivial ?_
    rw [decide_eq_false (fun k => h1 (by have := k.1; omega))]

theorem spec_l3ShownE (cs : List PV) (fx fy c : Int) (h : cs = [.int .i64 fx, .int .i64 fy]) (hx : 0 ≤ fx ∧ fx ≤ 127) (hy : 0 ≤ fy ∧ fy ≤ 127) (hc : 0 ≤ c ∧ c ≤ 127) : PCalls Tryd.prog 68 [.agg cs, .int .i64 c] (· = [.val (.int .i64 (shF fx fy c))]) := by subst h; exact spec_l3Shown fx fy c hx hy hc

set_option maxRecDepth 4000 in
set_option maxHeartbeats 1000000 in
theorem spec_ShownRow (fs : List (Int × Int)) (l : List Int) (hf : fs.length ≤ 4611686018427387904) (hl : l.length ≤ 4611686018427387904) : PCalls Tryd.prog 79 [.sl fs.length (fl fs), .sl l.length (l.map (.int .i64))] (· = [.own 0 3 1 (if FaultsP fs l then shRow fs l else []).length ((if FaultsP fs l then shRow fs l else []).map (.int .i64)), .val (.bool (decide (FaultsP fs l)))]) := by
  refine pcalls_of_code (n := 33) az Tryd.func79 (by kernel_rfl) rfl rfl (Nat.le_of_ble_eq_true rfl) (by intro t u h; simp [Tryd.f79] at h) ?_
  have hfl := fl_len fs
  have hfla := fl_flat fs
  refine code_seq (fun K1 hK1 => ?_)
  refine code_region ?_
  refine list_cons rfl (op_q (q_assign rfl (by decide)) ?_)
  refine list_cons rfl (op_q (q_assign rfl (by decide)) ?_)
  refine list_nil ?_
  refine hK1 _ ?_; clear hK1 K1
  refine code_seq (fun K2 hK2 => ?_)
  refine code_region ?_
  refine list_cons rfl (op_buildSlice sl_24 (parts := []) rfl rfl rfl (by decide) (by decide) (by decide) rfl ?_)
  refine list_cons rfl (op_q (q_assign rfl (by decide)) ?_)
  refine list_nil ?_
  refine hK2 _ ?_; clear hK2 K2
  refine code_seq (fun K3 hK3 => ?_)
  refine code_seq (fun K4 hK4 => ?_)
  refine code_region ?_
  refine list_cons rfl (op_q (q_move rfl (by decide)) ?_)
  refine list_cons rfl (op_q (q_move rfl (by decide)) ?_)
  refine list_cons rfl (op_call _ (spec_l3Faults _ _ (by omega) (by omega)) rfl rfl (by decide) (by decide) (by decide) rfl ?_)
  rintro _ rfl
  refine list_cons rfl (op_q (by first | exact q_notd rfl (by decide) | exact q_not rfl (by decide)) ?_)
  refine list_nil ?_
  refine hK4 _ ?_; clear hK4 K4
  refine codeT.imp (σ' := [(0, _), (1, _), (4, _), (5, _), (6, _), (12, _)]) ?_ (imp_covers ⟨rfl, rfl, rfl, rfl, rfl, rfl, trivial⟩)
  refine code_cond_d rfl (fun h1 => ?_) (fun h1 => ?_)
  · skip
    (try simp only [Decidable.not_not] at h1)
    refine code_seq (fun K5 hK5 => ?_)
    refine code_region ?_
    refine list_cons rfl (op_q (q_move rfl (by decide)) ?_)
    refine list_cons rfl (op_q (q_assign rfl (by decide)) ?_)
    refine list_cons rfl (op_q (q_assign rfl (by decide)) ?_)
    refine list_nil ?_
    refine hK5 _ ?_; clear hK5 K5
    refine code_ret ?_
    refine then_r ?_; clear hK3 K3
    refine ends_ret (cs := []) rfl rfl rfl rfl trivial ?_
    rw [if_neg h1, decide_eq_false h1]; rfl
  · skip
    (try simp only [Decidable.not_not] at h1)
    refine code_skip ?_
    refine hK3 _ ?_; clear hK3 K3
    refine code_seq (fun K6 hK6 => ?_)
    refine code_seq (fun K7 hK7 => ?_)
    refine code_region ?_
    refine list_cons rfl (op_q (q_assign rfl (by decide)) ?_)
    refine list_nil ?_
    refine hK7 _ ?_; clear hK7 K7
    refine code_block ?_
    refine code_loop (X := PV × Bool × Nat × List PV × Int) (fun x => [(0, .par 0 (.sl fs.length (fl fs))), (1, .par 1 (.sl l.length (l.map (.int .i64)))), (4, .val x.1), (5, .val (.bool x.2.1)), (6, .own 8 3 1 x.2.2.1 x.2.2.2.1), (7, .val (.int .i64 x.2.2.2.2))]) (fun x => 0 ≤ x.2.2.2.2 ∧ x.2.2.2.2 ≤ (l.length : Int) ∧ ∃ o : List Int, x.2.2.1 = o.length ∧ x.2.2.2.1 = o.map (.int .i64) ∧ o = shRowK fs l x.2.2.2.2.toNat) (fun x => l.length - x.2.2.2.2.toNat) (_, _, _, _, _) (imp_covers ⟨rfl, rfl, rfl, rfl, rfl, rfl, trivial⟩) ?_ ?_
    · (try dsimp only)
      exact ⟨by omega, by omega, [], rfl, rfl, rfl⟩
    · intro x hI
      obtain ⟨t4_p, t5, out_n, out_c, i⟩ := x
      replace hI : 0 ≤ i ∧ i ≤ (l.length : Int) ∧ ∃ o : List Int, out_n = o.length ∧ out_c = o.map (.int .i64) ∧ o = shRowK fs l i.toNat := hI
      show codeT _ _ _ [(0, .par 0 (.sl fs.length (fl fs))), (1, .par 1 (.sl l.length (l.map (.int .i64)))), (4, .val t4_p), (5, .val (.bool t5)), (6, .own 8 3 1 out_n out_c), (7, .val (.int .i64 i))] _
      obtain ⟨i1, i2, o, rfl, rfl, i3⟩ := hI
      have ho := shRowK_len fs l i.toNat
      rw [← i3] at ho
      have hll := h1.1
      have hl6 := h1.2.1.1
      refine code_seq (fun K8 hK8 => ?_)
      refine code_seq (fun K9 hK9 => ?_)
      refine code_region ?_
      refine list_cons rfl (op_q (q_move rfl (by decide)) ?_)
      refine list_cons rfl (op_q (q_move rfl (by decide)) ?_)
      refine list_cons rfl (op_q (q_len_sl Tryd.underlying24 rfl rfl (by decide)) ?_)
      refine list_cons rfl (op_q (q_lt rfl rfl (by decide)) ?_)
      refine list_nil ?_
      refine hK9 _ ?_; clear hK9 K9
      refine code_cond_d rfl (fun h2 => ?_) (fun h2 => ?_)
      · skip
        (try simp only [Decidable.not_not] at h2)
        refine code_skip ?_
        refine hK8 _ ?_; clear hK8 K8
        refine code_seq (fun K10 hK10 => ?_)
        refine code_block ?_
        refine any_start fun ob1_0 => ?_
        refine any_op (rd := [6]) ob1_0 rfl rfl rfl (anyT_quiet [(6, _)] ⟨rfl, trivial⟩ rfl (q_move rfl (by decide))) (fun ob1_1 => ?_)
        refine any_op (rd := [0]) ob1_1 rfl rfl rfl (anyT_quiet [(0, _)] ⟨rfl, trivial⟩ rfl (q_move rfl (by decide))) (fun ob1_2 => ?_)
        refine any_op (rd := [7]) ob1_2 rfl rfl rfl (anyT_quiet [(7, _)] ⟨rfl, trivial⟩ rfl (q_move rfl (by decide))) (fun ob1_3 => ?_)
        refine any_op (rd := [21, 22]) ob1_3 rfl rfl rfl (anyT_quiet [(21, _), (22, _)] ⟨rfl, rfl, trivial⟩ rfl (q_indexAddr_rd sl_27 rfl (.inl ⟨_, rfl, rfl⟩) rfl (by omega) (by omega) (by decide))) (fun ob1_4 => ?_)
        refine any_op (rd := [23]) ob1_4 rfl rfl rfl (anyT_quiet [(23, _)] ⟨rfl, trivial⟩ rfl (q_load_rd_agg agg_42 rfl (.inl ⟨_, rfl⟩) (by first | decide | omega | exact Nat.le_refl _ | (simp; done) | (simp; omega)) (by first | rfl | exact flat_part (by assumption) _ _) (by decide))) (fun ob1_5 => ?_)
        refine any_op (rd := [1]) ob1_5 rfl rfl rfl (anyT_quiet [(1, _)] ⟨rfl, trivial⟩ rfl (q_move rfl (by decide))) (fun ob1_6 => ?_)
        refine any_op (rd := [7]) ob1_6 rfl rfl rfl (anyT_quiet [(7, _)] ⟨rfl, trivial⟩ rfl (q_move rfl (by decide))) (fun ob1_7 => ?_)
        refine any_op (rd := [25, 26]) ob1_7 rfl rfl rfl (anyT_quiet [(25, _), (26, _)] ⟨rfl, rfl, trivial⟩ rfl (q_indexAddr_rd sl_24 rfl (.inl ⟨_, rfl, rfl⟩) rfl (by omega) (by omega) (by decide))) (fun ob1_8 => ?_)
        refine any_op (rd := [27]) ob1_8 rfl rfl rfl (anyT_quiet [(27, _)] ⟨rfl, trivial⟩ rfl (q_load_rd one_3 rfl (.inl ⟨_, (by first | rfl | exact congrArg (SV.rpar _) (drop_map1 _ 0 _ (by first | omega | (simp; omega)))), rfl⟩) (by decide))) (fun ob1_9 => ?_)
        refine any_op (rd := [24, 28]) ob1_9 rfl rfl rfl (fun σ hag hfr => by have e24 : σ.at 24 = some _ := (hag 24 (by decide)).trans rfl; have e28 : σ.at 28 = some _ := (hag 28 (by decide)).trans rfl; exact op_call _ (spec_l3ShownE _ _ _ _ (fl_at fs i.toNat (by omega)) (by have := (h1.at (j := i.toNat) (by have := h1.1; omega)).b; omega) (by have := (h1.at (j := i.toNat) (by have := h1.1; omega)).b; omega) (h1.2.1.at (by omega))) (evs_cons e24 (evs_cons e28 evs_nil)) rfl (by decide) (by decide) (by decide) hfr (fun rs hR => by subst hR; rfl)) (fun ob1_10 => ?_)
        refine any_op (rd := [29]) ob1_10 rfl rfl rfl (fun σ hag hfr => by have e29 : σ.at 29 = some _ := (hag 29 (by decide)).trans rfl; exact op_buildSlice sl_24 (parts := [(0, .tmp 29)]) (evp_cons (by first | rfl | assumption) rfl rfl evp_nil) rfl rfl (by decide) (by decide) (by decide) (fr1000 hfr (by decide)) rfl) (fun ob1_11 => ?_)
        refine any_end [[], [], [], [1, 2], [1, 2, 3], [], [], [5, 6], [5, 6, 7], [1, 2, 3, 4, 5, 6, 7, 8], [1, 2, 3, 4, 5, 6, 7, 8, 9], [0, 1, 2, 3, 4, 5, 6, 7, 8, 9, 10], [0, 1, 2, 3, 4, 5, 6, 7, 8, 9, 10, 11]] ob1_11 (by kernel_rfl) (Nat.le_of_ble_eq_true rfl) (by decide) (by decide) (by kernel_rfl) (by kernel_rfl) (by kernel_rfl) (by kernel_rfl) (by kernel_rfl) ?_
        clear ob1_0 ob1_1 ob1_2 ob1_3 ob1_4 ob1_5 ob1_6 ob1_7 ob1_8 ob1_9 ob1_10 ob1_11
        refine listT.imp (σ' := [(0, _), (1, _), (4, _), (5, _), (6, _), (7, _), (14, _), (15, _), (16, _), (17, _), (20, _), (21, _), (22, _), (23, _), (24, _), (25, _), (26, _), (27, _), (28, _), (29, _), (30, _)]) ?_ (imp_covers ⟨rfl, rfl, rfl, rfl, rfl, rfl, rfl, rfl, rfl, rfl, rfl, rfl, rfl, rfl, rfl, rfl, rfl, rfl, rfl, rfl, rfl, trivial⟩)
        refine list_cons rfl (op_append_gen sl_24 (l := 8) (.inl rfl) rfl rfl (l2 := none) (.inl ⟨rfl, (by first | rfl | exact flat_map _ (fun _ => rfl) _)⟩) (by first | rfl | simp | omega) (by omega) (by decide) (by decide) (by decide) ?_)
        refine list_cons rfl (op_q (q_assign rfl (by decide)) ?_)
        refine list_nil ?_
        refine blk_n ?_
        refine hK10 _ ?_; clear hK10 K10
        refine codeT.imp (σ' := [(0, _), (1, _), (4, _), (5, _), (6, _), (7, _)]) ?_ (imp_covers ⟨rfl, rfl, rfl, rfl, rfl, rfl, trivial⟩)
        refine code_region ?_
        refine list_cons rfl (op_q (q_move rfl (by decide)) ?_)
        refine list_cons rfl (op_q (by first | exact q_addI rfl rfl (by decide) (by omega) (by omega) | exact q_ib rfl rfl rfl (by decide)) ?_)
        refine list_cons rfl (op_q (q_assign rfl (by decide)) ?_)
        refine list_nil ?_
        refine then_n ⟨(_, _, _, _, _), imp_covers ⟨rfl, rfl, rfl, rfl, rfl, rfl, trivial⟩, ?_, ?_⟩
        · (try dsimp only)
          refine ⟨by omega, by omega, o ++ [shF (fs.getD i.toNat (0, 0)).1 (fs.getD i.toNat (0, 0)).2 (l.getD i.toNat 0)], by simp, by simp; rfl, ?_⟩
          rw [show (i + 1).toNat = i.toNat + 1 by omega, shRowK_succ, ← i3]
        · (try dsimp only); omega
      · skip
        (try simp only [Decidable.not_not] at h2)
        refine code_exit ?_
        refine then_x ?_; clear hK8 K8
        refine then_x ?_
        refine blk_hit ?_
        refine hK6 _ ?_; clear hK6 K6
        refine code_seq (fun K11 hK11 => ?_)
        refine code_region ?_
        refine list_cons rfl (op_q (q_move rfl (by decide)) ?_)
        refine list_cons rfl (op_q (q_assign rfl (by decide)) ?_)
        refine list_cons rfl (op_q (q_assign rfl (by decide)) ?_)
        refine list_nil ?_
        refine hK11 _ ?_; clear hK11 K11
        refine code_ret ?_
        refine ends_ret (cs := []) rfl rfl rfl rfl trivial ?_
        rw [if_pos h1, decide_eq_true h1, shRow, show l.length = i.toNat by omega, ← i3]

end Go.Proofs.YtjbbijlbenkgcaaDoor
