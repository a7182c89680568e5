/- Contracts of functions, walked over the pure layer; each says for which arguments. -/
import Derived.Test.YtjbbijlbenkgcaaDoorS3cTy
import Derived.Test.YtjbbijlbenkgcaaDoorTf
import Derived.Test.YtjbbijlbenkgcaaDoorSp
import Derived.Test.YtjbbijlbenkgcaaDoorS3
import Derived.Test.YtjbbijlbenkgcaaDoorS3b
namespace Go.Proofs.YtjbbijlbenkgcaaDoor
open Go.RowKit S3cTy
set_option linter.unusedVariables false
set_option linter.unusedSimpArgs false

def PairsP (ds cs : List Int) : Prop := ds.length = cs.length ∧ (1 ≤ ds.length ∧ ds.length ≤ 10) ∧ ∀ j, j < ds.length → (0 ≤ ds.getD j 0 ∧ ds.getD j 0 ≤ 9) ∧ (0 ≤ cs.getD j 0 ∧ cs.getD j 0 ≤ 127)
instance (ds cs : List Int) : Decidable (PairsP ds cs) := by unfold PairsP; infer_instance
def FitsP (fx fy : Int) (ds cs : List Int) : Prop := ∀ j, j < ds.length → shF fx fy (digT.getD (ds.getD j 0).toNat 0) = cs.getD j 0
instance (fx fy : Int) (ds cs : List Int) : Decidable (FitsP fx fy ds cs) := by unfold FitsP; infer_instance
def fltP (ds cs : List Int) (k : Nat) : Prop := FaultP ((k / 128 : Nat) : Int) ((k % 128 : Nat) : Int) ∧ FitsP ((k / 128 : Nat) : Int) ((k % 128 : Nat) : Int) ds cs
instance (ds cs : List Int) (k : Nat) : Decidable (fltP ds cs k) := by unfold fltP; infer_instance
/-- The first k pairs of cells, those that are faults and fit. -/
def fltK (ds cs : List Int) (k : Nat) : List (Int × Int) := ((List.range k).filter fun j => fltP ds cs j).map fun j => (((j / 128 : Nat) : Int), ((j % 128 : Nat) : Int))
theorem fltK_succ (ds cs : List Int) (k : Nat) : fltK ds cs (k + 1) = fltK ds cs k ++ if fltP ds cs k then [(((k / 128 : Nat) : Int), ((k % 128 : Nat) : Int))] else [] := by
  unfold fltK
  rw [List.range_succ, List.filter_append, List.map_append]
  congr 1
  rw [List.filter_cons]
  by_cases h : fltP ds cs k
  · rw [if_pos (decide_eq_true h), if_pos h]; rfl
  · rw [if_neg (fun e => h (of_decide_eq_true e)), if_neg h]; rfl
theorem fltK_len (ds cs : List Int) (k : Nat) : (fltK ds cs k).length ≤ k := by
  unfold fltK; rw [List.length_map]; exact Nat.le_trans (List.length_filter_le _ _) (by simp)
theorem fl_snoc (o : List (Int × Int)) (a b : Int) : fl (o ++ [(a, b)]) = fl o ++ [PV.int .i64 a, PV.int .i64 b] := by simp [fl]
theorem flt_at {d l : Int} (hd : 0 ≤ d) (h0 : 0 ≤ l) (h1 : l < 128) : (((d.toNat * 128 + l.toNat) / 128 : Nat) : Int) = d ∧ (((d.toNat * 128 + l.toNat) % 128 : Nat) : Int) = l := by omega
theorem fltK_pos {ds cs : List Int} {d l : Int} (hd : 0 ≤ d) (h0 : 0 ≤ l) (h1 : l < 128) (hf : FaultP d l) (hc : FitsP d l ds cs) : fltK ds cs (d.toNat * 128 + (l + 1).toNat) = fltK ds cs (d.toNat * 128 + l.toNat) ++ [(d, l)] := by
  have e := flt_at hd h0 h1
  rw [show d.toNat * 128 + (l + 1).toNat = d.toNat * 128 + l.toNat + 1 by omega, fltK_succ, if_pos (by unfold fltP; rw [e.1, e.2]; exact ⟨hf, hc⟩), e.1, e.2]
theorem fltK_neg {ds cs : List Int} {d l : Int} (hd : 0 ≤ d) (h0 : 0 ≤ l) (h1 : l < 128) (hn : ¬ (FaultP d l ∧ FitsP d l ds cs)) : fltK ds cs (d.toNat * 128 + (l + 1).toNat) = fltK ds cs (d.toNat * 128 + l.toNat) := by
  have e := flt_at hd h0 h1
  rw [show d.toNat * 128 + (l + 1).toNat = d.toNat * 128 + l.toNat + 1 by omega, fltK_succ, if_neg (fun k => hn (by unfold fltP at k; rw [e.1, e.2] at k; exact k)), List.append_nil]
def faultsOf (ds cs : List Int) : List (Int × Int) := fltK ds cs 16384

set_option maxRecDepth 4000 in
theorem spec_l3Pairs (ds cs : List Int) (hd : ds.length ≤ 4611686018427387904) (hc : cs.length ≤ 4611686018427387904) : PCalls Tryd.prog 74 [.sl ds.length (ds.map (.int .i64)), .sl cs.length (cs.map (.int .i64))] (· = [.val (.bool (decide (PairsP ds cs)))]) := by
  refine pcalls_of_code (n := 37) az Tryd.func74 (by kernel_rfl) rfl rfl (Nat.le_of_ble_eq_true rfl) (by intro t u h; simp [Tryd.f74] at h) ?_
  refine code_seq (fun K1 hK1 => ?_)
  refine code_region ?_
  refine list_cons rfl (op_q (q_assign rfl (by decide)) ?_)
  refine list_nil ?_
  refine hK1 _ ?_; clear hK1 K1
  refine code_seq (fun K2 hK2 => ?_)
  refine code_seq (fun K3 hK3 => ?_)
  refine code_region ?_
  refine list_cons rfl (op_q (q_move rfl (by decide)) ?_)
  refine list_cons rfl (op_q (q_len_sl Tryd.underlying24 rfl rfl (by decide)) ?_)
  refine list_cons rfl (op_q (q_move rfl (by decide)) ?_)
  refine list_cons rfl (op_q (q_len_sl Tryd.underlying24 rfl rfl (by decide)) ?_)
  refine list_cons rfl (op_q (q_ne rfl rfl (by decide)) ?_)
  refine list_cons rfl (op_q (q_move rfl (by decide)) ?_)
  refine list_guard_d rfl rfl rfl rfl (by decide) rfl (by decide) (fun h1 => ?_) (fun h1 => ?_)
  · simp only [Bool.false_eq_true, if_true, if_false, Decidable.not_not] at h1
    refine id (op_q (q_move rfl (by decide)) ?_)
    refine list_guard_y rfl rfl rfl rfl (by decide) rfl ?_
    refine id (op_q (q_len_sl Tryd.underlying24 rfl rfl (by decide)) ?_)
    refine list_guard_y rfl rfl rfl rfl (by decide) rfl ?_
    refine id (op_call _ (spec_l1In _ _ _) rfl rfl (by decide) (by decide) (by decide) rfl ?_)
    rintro _ rfl
    refine list_guard_y rfl rfl rfl rfl (by decide) rfl ?_
    refine id (op_q (by first | exact q_notd rfl (by decide) | exact q_not rfl (by decide)) ?_)
    refine list_cons rfl (op_q (q_pick rfl rfl (by decide)) ?_)
    refine list_nil ?_
    refine hK3 _ ?_; clear hK3 K3
    refine codeT.imp (σ' := [(0, _), (1, _), (4, _), (16, _)]) ?_ (imp_covers ⟨rfl, rfl, rfl, rfl, trivial⟩)
    refine code_cond_d rfl (fun h2 => ?_) (fun h2 => ?_)
    · skip
      (try simp only [Decidable.not_not] at h2)
      refine code_seq (fun K4 hK4 => ?_)
      refine code_region ?_
      refine list_cons rfl (op_q (q_assign rfl (by decide)) ?_)
      refine list_nil ?_
      refine hK4 _ ?_; clear hK4 K4
      refine code_ret ?_
      refine then_r ?_; clear hK2 K2
      refine ends_ret (cs := []) rfl rfl rfl rfl trivial ?_
      rw [decide_eq_false (fun k => h2 (by have := k.2.1; omega))]
    · skip
      (try simp only [Decidable.not_not] at h2)
      refine code_skip ?_
      refine hK2 _ ?_; clear hK2 K2
      refine code_seq (fun K5 hK5 => ?_)
      refine code_seq (fun K6 hK6 => ?_)
      refine code_region ?_
      refine list_cons rfl (op_q (q_assign rfl (by decide)) ?_)
      refine list_nil ?_
      refine hK6 _ ?_; clear hK6 K6
      refine code_block ?_
      refine code_loop (X := Bool × Int) (fun x => [(0, .par 0 (.sl ds.length (ds.map (.int .i64)))), (1, .par 1 (.sl cs.length (cs.map (.int .i64)))), (4, .val (.bool x.1)), (5, .val (.int .i64 x.2))]) (fun x => 0 ≤ x.2 ∧ x.2 ≤ ds.length ∧ ∀ j, j < x.2.toNat → (0 ≤ ds.getD j 0 ∧ ds.getD j 0 ≤ 9) ∧ (0 ≤ cs.getD j 0 ∧ cs.getD j 0 ≤ 127)) (fun x => ds.length - x.2.toNat) (_, _) (imp_covers ⟨rfl, rfl, rfl, rfl, trivial⟩) ?_ ?_
      · (try dsimp only)
        exact ⟨by omega, by omega, fun j hj => absurd hj (Nat.not_lt_zero j)⟩
      · intro x hI
        obtain ⟨t4, i⟩ := x
        replace hI : 0 ≤ i ∧ i ≤ ds.length ∧ ∀ j, j < i.toNat → (0 ≤ ds.getD j 0 ∧ ds.getD j 0 ≤ 9) ∧ (0 ≤ cs.getD j 0 ∧ cs.getD j 0 ≤ 127) := hI
        show codeT _ _ _ [(0, .par 0 (.sl ds.length (ds.map (.int .i64)))), (1, .par 1 (.sl cs.length (cs.map (.int .i64)))), (4, .val (.bool t4)), (5, .val (.int .i64 i))] _
        obtain ⟨i1, i2, i3⟩ := hI
        refine code_seq (fun K7 hK7 => ?_)
        refine code_seq (fun K8 hK8 => ?_)
        refine code_region ?_
        refine list_cons rfl (op_q (q_move rfl (by decide)) ?_)
        refine list_cons rfl (op_q (q_move rfl (by decide)) ?_)
        refine list_cons rfl (op_q (q_len_sl Tryd.underlying24 rfl rfl (by decide)) ?_)
        refine list_cons rfl (op_q (q_lt rfl rfl (by decide)) ?_)
        refine list_nil ?_
        refine hK8 _ ?_; clear hK8 K8
        refine code_cond_d rfl (fun h3 => ?_) (fun h3 => ?_)
        · skip
          (try simp only [Decidable.not_not] at h3)
          refine code_skip ?_
          refine hK7 _ ?_; clear hK7 K7
          refine code_seq (fun K9 hK9 => ?_)
          refine code_block ?_
          refine code_seq (fun K10 hK10 => ?_)
          refine code_region ?_
          refine list_cons rfl (op_q (q_move rfl (by decide)) ?_)
          refine list_cons rfl (op_q (q_move rfl (by decide)) ?_)
          refine list_cons rfl (op_q (q_indexAddr_rd sl_24 rfl (.inl ⟨_, rfl, rfl⟩) rfl (by omega) (by omega) (by decide)) ?_)
          refine list_cons rfl (op_q (q_load_rd one_3 rfl (.inl ⟨_, (by first | rfl | exact congrArg (SV.rpar _) (drop_map1 _ 0 _ (by first | omega | (simp; omega)))), rfl⟩) (by decide)) ?_)
          refine list_cons rfl (op_call _ (spec_l1In _ _ _) rfl rfl (by decide) (by decide) (by decide) rfl ?_)
          rintro _ rfl
          refine list_cons rfl (op_q (by first | exact q_notd rfl (by decide) | exact q_not rfl (by decide)) ?_)
          refine list_cons rfl (op_q (q_move rfl (by decide)) ?_)
          refine list_guard_d rfl rfl rfl rfl (by decide) rfl (by decide) (fun h4 => ?_) (fun h4 => ?_)
          · simp only [Bool.false_eq_true, if_true, if_false, Decidable.not_not] at h4
            refine id (op_q (q_move rfl (by decide)) ?_)
            refine list_guard_y rfl rfl rfl rfl (by decide) rfl ?_
            refine id (op_q (q_move rfl (by decide)) ?_)
            refine list_guard_y rfl rfl rfl rfl (by decide) rfl ?_
            refine id (op_q (q_indexAddr_rd sl_24 rfl (.inl ⟨_, rfl, rfl⟩) rfl (by omega) (by omega) (by decide)) ?_)
            refine list_guard_y rfl rfl rfl rfl (by decide) rfl ?_
            refine id (op_q (q_load_rd one_3 rfl (.inl ⟨_, (by first | rfl | exact congrArg (SV.rpar _) (drop_map1 _ 0 _ (by first | omega | (simp; omega)))), rfl⟩) (by decide)) ?_)
            refine list_guard_y rfl rfl rfl rfl (by decide) rfl ?_
            refine id (op_call _ (spec_l2Cell _) rfl rfl (by decide) (by decide) (by decide) rfl ?_)
            rintro _ rfl
            refine list_guard_y rfl rfl rfl rfl (by decide) rfl ?_
            refine id (op_q (by first | exact q_notd rfl (by decide) | exact q_not rfl (by decide)) ?_)
            refine list_cons rfl (op_q (q_pick rfl rfl (by decide)) ?_)
            refine list_nil ?_
            refine hK10 _ ?_; clear hK10 K10
            refine codeT.imp (σ' := [(0, _), (1, _), (4, _), (5, _), (36, _)]) ?_ (imp_covers ⟨rfl, rfl, rfl, rfl, rfl, trivial⟩)
            refine code_cond_d rfl (fun h5 => ?_) (fun h5 => ?_)
            · skip
              (try simp only [Decidable.not_not] at h5)
              refine code_seq (fun K11 hK11 => ?_)
              refine code_region ?_
              refine list_cons rfl (op_q (q_assign rfl (by decide)) ?_)
              refine list_nil ?_
              refine hK11 _ ?_; clear hK11 K11
              refine code_ret ?_
              refine blk_r ?_
              refine then_r ?_; clear hK9 K9
              refine then_r ?_
              refine blk_r ?_
              refine then_r ?_; clear hK5 K5
              refine ends_ret (cs := []) rfl rfl rfl rfl trivial ?_
              rw [decide_eq_false (fun k => h5 (k.2.2 i.toNat (by omega)).2)]
            · skip
              (try simp only [Decidable.not_not] at h5)
              refine code_skip ?_
              refine blk_n ?_
              refine hK9 _ ?_; clear hK9 K9
              refine code_region ?_
              refine list_cons rfl (op_q (q_move rfl (by decide)) ?_)
              refine list_cons rfl (op_q (by first | exact q_addI rfl rfl (by decide) (by omega) (by omega) | exact q_ib rfl rfl rfl (by decide)) ?_)
              refine list_cons rfl (op_q (q_assign rfl (by decide)) ?_)
              refine list_nil ?_
              refine then_n ⟨(_, _), imp_covers ⟨rfl, rfl, rfl, rfl, trivial⟩, ?_, ?_⟩
              · (try dsimp only)
                refine ⟨by omega, by omega, fun j hj => ?_⟩
                by_cases e : j = i.toNat
                · subst e; exact ⟨h4, h5⟩
                · exact i3 j (by omega)
              · (try dsimp only); omega
          · simp only [Bool.false_eq_true, if_true, if_false, Decidable.not_not] at h4
            refine list_guard_n rfl rfl rfl rfl (by decide) rfl ?_
            refine list_guard_n rfl rfl rfl rfl (by decide) rfl ?_
            refine list_guard_n rfl rfl rfl rfl (by decide) rfl ?_
            refine list_guard_n rfl rfl rfl rfl (by decide) rfl ?_
            refine list_guard_n rfl rfl rfl rfl (by decide) rfl ?_
            refine list_cons rfl (op_q (q_pick rfl rfl (by decide)) ?_)
            refine list_nil ?_
            refine hK10 _ ?_; clear hK10 K10
            refine codeT.imp (σ' := [(0, _), (1, _), (4, _), (5, _), (36, _)]) ?_ (imp_covers ⟨rfl, rfl, rfl, rfl, rfl, trivial⟩)
            refine code_cond_t rfl ?_
            refine code_seq (fun K12 hK12 => ?_)
            refine code_region ?_
            refine list_cons rfl (op_q (q_assign rfl (by decide)) ?_)
            refine list_nil ?_
            refine hK12 _ ?_; clear hK12 K12
            refine code_ret ?_
            refine blk_r ?_
            refine then_r ?_; clear hK9 K9
            refine then_r ?_
            refine blk_r ?_
            refine then_r ?_; clear hK5 K5
            refine ends_ret (cs := []) rfl rfl rfl rfl trivial ?_
            rw [decide_eq_false (fun k => h4 (k.2.2 i.toNat (by omega)).1)]
        · skip
          (try simp only [Decidable.not_not] at h3)
          refine code_exit ?_
          refine then_x ?_; clear hK7 K7
          refine then_x ?_
          refine blk_hit ?_
          refine hK5 _ ?_; clear hK5 K5
          refine code_seq (fun K13 hK13 => ?_)
          refine code_region ?_
          refine list_cons rfl (op_q (q_assign rfl (by decide)) ?_)
          refine list_nil ?_
          refine hK13 _ ?_; clear hK13 K13
          refine code_ret ?_
          refine ends_ret (cs := []) rfl rfl rfl rfl trivial ?_
          rw [decide_eq_true ⟨by omega, by omega, fun j hj => i3 j (by omega)⟩]
  · simp only [Bool.false_eq_true, if_true, if_false, Decidable.not_not] at h1
    refine list_guard_n rfl rfl rfl rfl (by decide) rfl ?_
    refine list_guard_n rfl rfl rfl rfl (by decide) rfl ?_
    refine list_guard_n rfl rfl rfl rfl (by decide) rfl ?_
    refine list_cons rfl (op_q (q_pick rfl rfl (by decide)) ?_)
    refine list_nil ?_
    refine hK3 _ ?_; clear hK3 K3
    refine code_cond_t rfl ?_
    refine code_seq (fun K14 hK14 => ?_)
    refine code_region ?_
    refine list_cons rfl (op_q (q_assign rfl (by decide)) ?_)
    refine list_nil ?_
    refine hK14 _ ?_; clear hK14 K14
    refine codeT.imp (σ' := [(0, _), (1, _), (4, _)]) ?_ (imp_covers ⟨rfl, rfl, rfl, trivial⟩)
    refine code_ret ?_
    refine then_r ?_; clear hK2 K2
    refine ends_ret (cs := []) rfl rfl rfl rfl trivial ?_
    rw [decide_eq_false (fun k => h1 (by have := k.1; omega))]

set_option maxRecDepth 4000 in
theorem spec_l3Fits (fx fy : Int) (ds cs : List Int) (hx : 0 ≤ fx ∧ fx ≤ 127) (hy : 0 ≤ fy ∧ fy ≤ 127) (hp : PairsP ds cs) : PCalls Tryd.prog 76 [.agg [.int .i64 fx, .int .i64 fy], .sl ds.length (ds.map (.int .i64)), .sl cs.length (cs.map (.int .i64))] (· = [.val (.bool (decide (FitsP fx fy ds cs)))]) := by
  refine pcalls_of_code (n := 26) az Tryd.func76 (by kernel_rfl) rfl rfl (Nat.le_of_ble_eq_true rfl) (by intro t u h; simp [Tryd.f76] at h) ?_
  have hp1 := hp.1
  have hp2 := hp.2.1
  refine code_seq (fun K1 hK1 => ?_)
  refine code_region ?_
  refine list_cons rfl (op_box rfl (.inl ⟨rfl, rfl⟩) (by decide) (by decide) rfl ?_)
  refine list_cons rfl (op_q (q_assign rfl (by decide)) ?_)
  refine list_nil ?_
  refine hK1 _ ?_; clear hK1 K1
  refine code_seq (fun K2 hK2 => ?_)
  refine code_seq (fun K3 hK3 => ?_)
  refine code_region ?_
  refine list_cons rfl (op_q (q_assign rfl (by decide)) ?_)
  refine list_nil ?_
  refine hK3 _ ?_; clear hK3 K3
  refine code_block ?_
  refine code_loop (X := Bool × Int) (fun x => [(0, .val (.agg [.int .i64 fx, .int .i64 fy])), (1, .par 1 (.sl ds.length (ds.map (.int .i64)))), (2, .par 2 (.sl cs.length (cs.map (.int .i64)))), (3, .box 3 42 [.int .i64 fx, .int .i64 fy]), (6, .val (.bool x.1)), (7, .val (.int .i64 x.2))]) (fun x => 0 ≤ x.2 ∧ x.2 ≤ ds.length ∧ ∀ j, j < x.2.toNat → shF fx fy (digT.getD (ds.getD j 0).toNat 0) = cs.getD j 0) (fun x => ds.length - x.2.toNat) (_, _) (imp_covers ⟨rfl, rfl, rfl, rfl, rfl, rfl, trivial⟩) ?_ ?_
  · (try dsimp only)
    exact ⟨by omega, by omega, fun j hj => absurd hj (Nat.not_lt_zero j)⟩
  · intro x hI
    obtain ⟨t6, i⟩ := x
    replace hI : 0 ≤ i ∧ i ≤ ds.length ∧ ∀ j, j < i.toNat → shF fx fy (digT.getD (ds.getD j 0).toNat 0) = cs.getD j 0 := hI
    show codeT _ _ _ [(0, .val (.agg [.int .i64 fx, .int .i64 fy])), (1, .par 1 (.sl ds.length (ds.map (.int .i64)))), (2, .par 2 (.sl cs.length (cs.map (.int .i64)))), (3, .box 3 42 [.int .i64 fx, .int .i64 fy]), (6, .val (.bool t6)), (7, .val (.int .i64 i))] _
    obtain ⟨i1, i2, i3⟩ := hI
    have hj : i < ds.length → _ := fun h => hp.2.2 i.toNat (by omega)
    have hdc := digT_cell (ds.getD i.toNat 0).toNat
    refine code_seq (fun K4 hK4 => ?_)
    refine code_seq (fun K5 hK5 => ?_)
    refine code_region ?_
    refine list_cons rfl (op_q (q_move rfl (by decide)) ?_)
    refine list_cons rfl (op_q (q_move rfl (by decide)) ?_)
    refine list_cons rfl (op_q (q_len_sl Tryd.underlying24 rfl rfl (by decide)) ?_)
    refine list_cons rfl (op_q (q_lt rfl rfl (by decide)) ?_)
    refine list_nil ?_
    refine hK5 _ ?_; clear hK5 K5
    refine code_cond_d rfl (fun h1 => ?_) (fun h1 => ?_)
    · skip
      (try simp only [Decidable.not_not] at h1)
      refine code_skip ?_
      refine hK4 _ ?_; clear hK4 K4
      refine code_seq (fun K6 hK6 => ?_)
      refine code_block ?_
      refine code_seq (fun K7 hK7 => ?_)
      refine code_draw (by kernel_rfl) (by kernel_rfl) ?_
      refine draw_q rfl (q_load_agg agg_42 3 (.inr ⟨rfl, _, rfl⟩) rfl rfl (by first | decide | omega | exact Nat.le_refl _ | (simp; done) | (simp; omega)) (by first | rfl | exact flat_part (flat_map _ (fun _ => rfl) _) _ _) (by decide)) ?_
      refine draw_q rfl (q_move rfl (by decide)) ?_
      refine draw_q rfl (q_move rfl (by decide)) ?_
      refine draw_q rfl (q_indexAddr_rd sl_24 rfl (.inl ⟨_, rfl, rfl⟩) rfl (by omega) (by omega) (by decide)) ?_
      refine draw_q rfl (q_load_rd one_3 rfl (.inl ⟨_, (by first | rfl | exact congrArg (SV.rpar _) (drop_map1 _ 0 _ (by first | omega | (simp; omega)))), rfl⟩) (by decide)) ?_
      refine draw_call _ (spec_l2Digit _ (by omega) (by omega)) rfl rfl rfl (by decide) ?_
      refine draw_call _ (spec_l3Shown _ _ _ (by omega) (by omega) (by omega)) rfl rfl rfl (by decide) ?_
      refine draw_q rfl (q_move rfl (by decide)) ?_
      refine draw_q rfl (q_move rfl (by decide)) ?_
      refine draw_q rfl (q_indexAddr_rd sl_24 rfl (.inl ⟨_, rfl, rfl⟩) rfl (by omega) (by omega) (by decide)) ?_
      refine draw_q rfl (q_load_rd one_3 rfl (.inl ⟨_, (by first | rfl | exact congrArg (SV.rpar _) (drop_map1 _ 0 _ (by first | omega | (simp; omega)))), rfl⟩) (by decide)) ?_
      refine draw_q rfl (q_ne rfl rfl (by decide)) ?_
      refine draw_nil ?_
      refine hK7 _ ?_; clear hK7 K7
      refine codeT.imp (σ' := [(0, _), (1, _), (2, _), (3, _), (6, _), (7, _), (25, _)]) ?_ (imp_covers ⟨rfl, rfl, rfl, rfl, rfl, rfl, rfl, trivial⟩)
      refine code_cond_d rfl (fun h2 => ?_) (fun h2 => ?_)
      · skip
        (try simp only [Decidable.not_not] at h2)
        refine code_seq (fun K8 hK8 => ?_)
        refine code_region ?_
        refine list_cons rfl (op_q (q_assign rfl (by decide)) ?_)
        refine list_nil ?_
        refine hK8 _ ?_; clear hK8 K8
        refine code_ret ?_
        refine blk_r ?_
        refine then_r ?_; clear hK6 K6
        refine then_r ?_
        refine blk_r ?_
        refine then_r ?_; clear hK2 K2
        refine ends_ret (cs := []) rfl rfl rfl rfl trivial ?_
        rw [decide_eq_false (fun k => h2 (k i.toNat (by omega)))]
      · skip
        (try simp only [Decidable.not_not] at h2)
        refine code_skip ?_
        refine blk_n ?_
        refine hK6 _ ?_; clear hK6 K6
        refine code_region ?_
        refine list_cons rfl (op_q (q_move rfl (by decide)) ?_)
        refine list_cons rfl (op_q (by first | exact q_addI rfl rfl (by decide) (by omega) (by omega) | exact q_ib rfl rfl rfl (by decide)) ?_)
        refine list_cons rfl (op_q (q_assign rfl (by decide)) ?_)
        refine list_nil ?_
        refine then_n ⟨(_, _), imp_covers ⟨rfl, rfl, rfl, rfl, rfl, rfl, trivial⟩, ?_, ?_⟩
        · (try dsimp only)
          refine ⟨by omega, by omega, fun j hj => ?_⟩
          by_cases e : j = i.toNat
          · subst e; exact h2
          · exact i3 j (by omega)
        · (try dsimp only); omega
    · skip
      (try simp only [Decidable.not_not] at h1)
      refine code_exit ?_
      refine then_x ?_; clear hK4 K4
      refine then_x ?_
      refine blk_hit ?_
      refine hK2 _ ?_; clear hK2 K2
      refine code_seq (fun K9 hK9 => ?_)
      refine code_region ?_
      refine list_cons rfl (op_q (q_assign rfl (by decide)) ?_)
      refine list_nil ?_
      refine hK9 _ ?_; clear hK9 K9
      refine code_ret ?_
      refine ends_ret (cs := []) rfl rfl rfl rfl trivial ?_
      rw [decide_eq_true (show FitsP fx fy ds cs from fun j hj => i3 j (by omega))]

set_option maxRecDepth 4000 in
theorem spec_FaultsOf (ds cs : List Int) (hd : ds.length ≤ 4611686018427387904) (hc : cs.length ≤ 4611686018427387904) : PCalls Tryd.prog 9 [.sl ds.length (ds.map (.int .i64)), .sl cs.length (cs.map (.int .i64))] (· = [.own 0 42 2 (if PairsP ds cs then faultsOf ds cs else []).length (fl (if PairsP ds cs then faultsOf ds cs else [])), .val (.bool (decide (PairsP ds cs)))]) := by
  refine pcalls_of_code (n := 40) az Tryd.func9 (by kernel_rfl) rfl rfl (Nat.le_of_ble_eq_true rfl) (by intro t u h; simp [Tryd.f9] at h) ?_
  refine code_seq (fun K1 hK1 => ?_)
  refine code_region ?_
  refine list_cons rfl (op_q (q_assign rfl (by decide)) ?_)
  refine list_cons rfl (op_q (q_assign rfl (by decide)) ?_)
  refine list_nil ?_
  refine hK1 _ ?_; clear hK1 K1
  refine code_seq (fun K2 hK2 => ?_)
  refine code_region ?_
  refine list_cons rfl (op_buildSlice sl_27 (parts := []) rfl rfl rfl (by decide) (by decide) (by decide) rfl ?_)
  refine list_cons rfl (op_q (q_assign rfl (by decide)) ?_)
  refine list_nil ?_
  refine hK2 _ ?_; clear hK2 K2
  refine code_seq (fun K3 hK3 => ?_)
  refine code_seq (fun K4 hK4 => ?_)
  refine code_region ?_
  refine list_cons rfl (op_q (q_move rfl (by decide)) ?_)
  refine list_cons rfl (op_q (q_move rfl (by decide)) ?_)
  refine list_cons rfl (op_call _ (spec_l3Pairs _ _ (by omega) (by omega)) rfl rfl (by decide) (by decide) (by decide) rfl ?_)
  rintro _ rfl
  refine list_cons rfl (op_q (by first | exact q_notd rfl (by decide) | exact q_not rfl (by decide)) ?_)
  refine list_nil ?_
  refine hK4 _ ?_; clear hK4 K4
  refine codeT.imp (σ' := [(0, _), (1, _), (4, _), (5, _), (6, _), (14, _)]) ?_ (imp_covers ⟨rfl, rfl, rfl, rfl, rfl, rfl, trivial⟩)
  refine code_cond_d rfl (fun h1 => ?_) (fun h1 => ?_)
  · skip
    (try simp only [Decidable.not_not] at h1)
    refine code_seq (fun K5 hK5 => ?_)
    refine code_region ?_
    refine list_cons rfl (op_q (q_move rfl (by decide)) ?_)
    refine list_cons rfl (op_q (q_assign rfl (by decide)) ?_)
    refine list_cons rfl (op_q (q_assign rfl (by decide)) ?_)
    refine list_nil ?_
    refine hK5 _ ?_; clear hK5 K5
    refine code_ret ?_
    refine then_r ?_; clear hK3 K3
    refine ends_ret (cs := []) rfl rfl rfl rfl trivial ?_
    rw [if_neg h1, decide_eq_false h1]; rfl
  · skip
    (try simp only [Decidable.not_not] at h1)
    refine code_skip ?_
    refine hK3 _ ?_; clear hK3 K3
    refine code_seq (fun K6 hK6 => ?_)
    refine code_seq (fun K7 hK7 => ?_)
    refine code_region ?_
    refine list_cons rfl (op_q (q_assign rfl (by decide)) ?_)
    refine list_nil ?_
    refine hK7 _ ?_; clear hK7 K7
    refine code_block ?_
    refine code_loop (X := PV × Bool × Nat × List PV × Int) (fun x => [(0, .par 0 (.sl ds.length (ds.map (.int .i64)))), (1, .par 1 (.sl cs.length (cs.map (.int .i64)))), (4, .val x.1), (5, .val (.bool x.2.1)), (6, .own 10 42 2 x.2.2.1 x.2.2.2.1), (7, .val (.int .i64 x.2.2.2.2))]) (fun x => 0 ≤ x.2.2.2.2 ∧ x.2.2.2.2 ≤ 128 ∧ ∃ o : List (Int × Int), x.2.2.1 = o.length ∧ x.2.2.2.1 = fl o ∧ o = fltK ds cs (x.2.2.2.2.toNat * 128)) (fun x => 128 - x.2.2.2.2.toNat) (_, _, _, _, _) (imp_covers ⟨rfl, rfl, rfl, rfl, rfl, rfl, trivial⟩) ?_ ?_
    · (try dsimp only)
      exact ⟨by omega, by omega, [], rfl, rfl, rfl⟩
    · intro x hI
      obtain ⟨t4_p, t5, out_n, out_c, dark⟩ := x
      replace hI : 0 ≤ dark ∧ dark ≤ 128 ∧ ∃ o : List (Int × Int), out_n = o.length ∧ out_c = fl o ∧ o = fltK ds cs (dark.toNat * 128) := hI
      show codeT _ _ _ [(0, .par 0 (.sl ds.length (ds.map (.int .i64)))), (1, .par 1 (.sl cs.length (cs.map (.int .i64)))), (4, .val t4_p), (5, .val (.bool t5)), (6, .own 10 42 2 out_n out_c), (7, .val (.int .i64 dark))] _
      obtain ⟨i1, i2, o, rfl, rfl, i3⟩ := hI
      refine code_seq (fun K8 hK8 => ?_)
      refine code_seq (fun K9 hK9 => ?_)
      refine code_region ?_
      refine list_cons rfl (op_q (q_move rfl (by decide)) ?_)
      refine list_cons rfl (op_q (q_lt rfl rfl (by decide)) ?_)
      refine list_nil ?_
      refine hK9 _ ?_; clear hK9 K9
      refine code_cond_d rfl (fun h2 => ?_) (fun h2 => ?_)
      · skip
        (try simp only [Decidable.not_not] at h2)
        refine code_skip ?_
        refine hK8 _ ?_; clear hK8 K8
        refine code_seq (fun K10 hK10 => ?_)
        refine code_block ?_
        refine code_seq (fun K11 hK11 => ?_)
        refine code_region ?_
        refine list_cons rfl (op_q (q_assign rfl (by decide)) ?_)
        refine list_nil ?_
        refine hK11 _ ?_; clear hK11 K11
        refine code_block ?_
        refine code_loop (X := PV × Bool × Nat × List PV × Int) (fun x => [(0, .par 0 (.sl ds.length (ds.map (.int .i64)))), (1, .par 1 (.sl cs.length (cs.map (.int .i64)))), (4, .val x.1), (5, .val (.bool x.2.1)), (6, .own 10 42 2 x.2.2.1 x.2.2.2.1), (7, .val (.int .i64 dark)), (8, .val (.int .i64 x.2.2.2.2))]) (fun x => 0 ≤ x.2.2.2.2 ∧ x.2.2.2.2 ≤ 128 ∧ ∃ o : List (Int × Int), x.2.2.1 = o.length ∧ x.2.2.2.1 = fl o ∧ o = fltK ds cs (dark.toNat * 128 + x.2.2.2.2.toNat)) (fun x => 128 - x.2.2.2.2.toNat) (_, _, _, _, _) (imp_covers ⟨rfl, rfl, rfl, rfl, rfl, rfl, rfl, trivial⟩) ?_ ?_
        · (try dsimp only)
          exact ⟨by omega, by omega, o, rfl, rfl, i3⟩
        · intro x hI
          obtain ⟨t4_p, t5, out_n, out_c, lit⟩ := x
          replace hI : 0 ≤ lit ∧ lit ≤ 128 ∧ ∃ o : List (Int × Int), out_n = o.length ∧ out_c = fl o ∧ o = fltK ds cs (dark.toNat * 128 + lit.toNat) := hI
          show codeT _ _ _ [(0, .par 0 (.sl ds.length (ds.map (.int .i64)))), (1, .par 1 (.sl cs.length (cs.map (.int .i64)))), (4, .val t4_p), (5, .val (.bool t5)), (6, .own 10 42 2 out_n out_c), (7, .val (.int .i64 dark)), (8, .val (.int .i64 lit))] _
          obtain ⟨j1, j2, o, rfl, rfl, j3⟩ := hI
          have hl := fltK_len ds cs (dark.toNat * 128 + lit.toNat)
          rw [← j3] at hl
          refine code_seq (fun K12 hK12 => ?_)
          refine code_seq (fun K13 hK13 => ?_)
          refine code_region ?_
          refine list_cons rfl (op_q (q_move rfl (by decide)) ?_)
          refine list_cons rfl (op_q (q_lt rfl rfl (by decide)) ?_)
          refine list_nil ?_
          refine hK13 _ ?_; clear hK13 K13
          refine code_cond_d rfl (fun h3 => ?_) (fun h3 => ?_)
          · skip
            (try simp only [Decidable.not_not] at h3)
            refine code_skip ?_
            refine hK12 _ ?_; clear hK12 K12
            refine code_seq (fun K14 hK14 => ?_)
            refine code_block ?_
            refine code_seq (fun K15 hK15 => ?_)
            refine code_region ?_
            refine list_cons rfl (op_q (q_move rfl (by decide)) ?_)
            refine list_cons rfl (op_q (q_move rfl (by decide)) ?_)
            refine list_cons rfl (op_q (q_build bt_42 (parts := [(0, .tmp 24), (1, .tmp 25)]) rfl rfl (by decide)) ?_)
            refine list_cons rfl (op_alloc zt_42 (by decide) (by decide) rfl ?_)
            refine list_cons rfl (op_store (agg_42).2 9 [9] (by intro t ht; simp only [List.mem_cons, List.not_mem_nil, or_false] at ht; subst ht; rfl) (.inr ⟨rfl, _, rfl⟩) rfl rfl rfl rfl (by first | rfl | exact flat_part (flat_map _ (fun _ => rfl) _) _ _ | exact flat_map _ (fun _ => rfl) _) (by first | rfl | (simp [PV.cells]; done)) (by first | decide | omega | exact Nat.le_refl _ | (simp; done) | (simp; omega)) (by decide) rfl ?_)
            refine list_nil ?_
            refine hK15 _ ?_; clear hK15 K15
            refine codeT.imp (σ' := [(0, _), (1, _), (4, _), (5, _), (6, _), (7, _), (8, _), (9, _)]) ?_ (imp_covers ⟨rfl, rfl, rfl, rfl, rfl, rfl, rfl, rfl, trivial⟩)
            refine code_seq (fun K16 hK16 => ?_)
            refine code_region ?_
            refine list_cons rfl (op_q (q_load_agg agg_42 9 (.inr ⟨rfl, _, rfl⟩) rfl rfl (by first | decide | omega | exact Nat.le_refl _ | (simp; done) | (simp; omega)) (by first | rfl | exact flat_part (flat_map _ (fun _ => rfl) _) _ _) (by decide)) ?_)
            refine list_cons rfl (op_call _ (spec_l3Fault _ _) rfl rfl (by decide) (by decide) (by decide) rfl ?_)
            rintro _ rfl
            refine list_cons rfl (op_q (q_move rfl (by decide)) ?_)
            refine list_guard_d rfl rfl rfl rfl (by decide) rfl (by decide) (fun h4 => ?_) (fun h4 => ?_)
            · simp only [Bool.false_eq_true, if_true, if_false, Decidable.not_not] at h4
              refine id (op_q (q_load_agg agg_42 9 (.inr ⟨rfl, _, rfl⟩) rfl rfl (by first | decide | omega | exact Nat.le_refl _ | (simp; done) | (simp; omega)) (by first | rfl | exact flat_part (flat_map _ (fun _ => rfl) _) _ _) (by decide)) ?_)
              refine list_guard_y rfl rfl rfl rfl (by decide) rfl ?_
              refine id (op_q (q_move rfl (by decide)) ?_)
              refine list_guard_y rfl rfl rfl rfl (by decide) rfl ?_
              refine id (op_q (q_move rfl (by decide)) ?_)
              refine list_guard_y rfl rfl rfl rfl (by decide) rfl ?_
              refine id (op_call _ (spec_l3Fits _ _ _ _ (by omega) (by omega) (by assumption)) rfl rfl (by decide) (by decide) (by decide) rfl ?_)
              rintro _ rfl
              refine list_cons rfl (op_q (q_pick rfl rfl (by decide)) ?_)
              refine list_nil ?_
              refine hK16 _ ?_; clear hK16 K16
              refine codeT.imp (σ' := [(0, _), (1, _), (4, _), (5, _), (6, _), (7, _), (8, _), (9, _), (34, _)]) ?_ (imp_covers ⟨rfl, rfl, rfl, rfl, rfl, rfl, rfl, rfl, rfl, trivial⟩)
              refine code_cond_d rfl (fun h5 => ?_) (fun h5 => ?_)
              · skip
                (try simp only [Decidable.not_not] at h5)
                refine code_region ?_
                refine list_cons rfl (op_q (q_move rfl (by decide)) ?_)
                refine list_cons rfl (op_q (q_load_agg agg_42 9 (.inr ⟨rfl, _, rfl⟩) rfl rfl (by first | decide | omega | exact Nat.le_refl _ | (simp; done) | (simp; omega)) (by first | rfl | exact flat_part (flat_map _ (fun _ => rfl) _) _ _) (by decide)) ?_)
                refine list_cons rfl (op_buildSlice sl_27 (parts := [(0, .tmp 36)]) rfl rfl rfl (by decide) (by decide) (by decide) rfl ?_)
                refine list_cons rfl (op_append_gen sl_27 (l := 10) (.inl rfl) rfl rfl (l2 := none) (.inl ⟨rfl, (by first | rfl | exact flat_map _ (fun _ => rfl) _)⟩) (by first | rfl | simp | omega) (by omega) (by decide) (by decide) (by decide) ?_)
                refine list_cons rfl (op_q (q_assign rfl (by decide)) ?_)
                refine list_nil ?_
                refine blk_n ?_
                refine hK14 _ ?_; clear hK14 K14
                refine codeT.imp (σ' := [(0, _), (1, _), (4, _), (5, _), (6, _), (7, _), (8, _), (9, _)]) ?_ (imp_covers ⟨rfl, rfl, rfl, rfl, rfl, rfl, rfl, rfl, trivial⟩)
                refine code_region ?_
                refine list_cons rfl (op_q (q_move rfl (by decide)) ?_)
                refine list_cons rfl (op_q (by first | exact q_addI rfl rfl (by decide) (by omega) (by omega) | exact q_ib rfl rfl rfl (by decide)) ?_)
                refine list_cons rfl (op_q (q_assign rfl (by decide)) ?_)
                refine list_nil ?_
                refine then_n ⟨(_, _, _, _, _), imp_covers ⟨rfl, rfl, rfl, rfl, rfl, rfl, rfl, trivial⟩, ?_, ?_⟩
                · (try dsimp only)
                  exact ⟨by omega, by omega, o ++ [(dark, lit)], by simp, (fl_snoc o dark lit).symm, by rw [fltK_pos i1 j1 h3 h4 h5, ← j3]⟩
                · (try dsimp only); omega
              · skip
                (try simp only [Decidable.not_not] at h5)
                refine code_skip ?_
                refine blk_n ?_
                refine hK14 _ ?_; clear hK14 K14
                refine code_region ?_
                refine list_cons rfl (op_q (q_move rfl (by decide)) ?_)
                refine list_cons rfl (op_q (by first | exact q_addI rfl rfl (by decide) (by omega) (by omega) | exact q_ib rfl rfl rfl (by decide)) ?_)
                refine list_cons rfl (op_q (q_assign rfl (by decide)) ?_)
                refine list_nil ?_
                refine then_n ⟨(_, _, _, _, _), imp_covers ⟨rfl, rfl, rfl, rfl, rfl, rfl, rfl, trivial⟩, ?_, ?_⟩
                · (try dsimp only)
                  exact ⟨by omega, by omega, o, rfl, rfl, by rw [fltK_neg i1 j1 h3 (fun k => h5 k.2), ← j3]⟩
                · (try dsimp only); omega
            · simp only [Bool.false_eq_true, if_true, if_false, Decidable.not_not] at h4
              refine list_guard_n rfl rfl rfl rfl (by decide) rfl ?_
              refine list_guard_n rfl rfl rfl rfl (by decide) rfl ?_
              refine list_guard_n rfl rfl rfl rfl (by decide) rfl ?_
              refine list_cons rfl (op_q (q_pick rfl rfl (by decide)) ?_)
              refine list_nil ?_
              refine hK16 _ ?_; clear hK16 K16
              refine code_cond_f rfl ?_
              refine code_skip ?_
              refine blk_n ?_
              refine hK14 _ ?_; clear hK14 K14
              refine code_region ?_
              refine list_cons rfl (op_q (q_move rfl (by decide)) ?_)
              refine list_cons rfl (op_q (by first | exact q_addI rfl rfl (by decide) (by omega) (by omega) | exact q_ib rfl rfl rfl (by decide)) ?_)
              refine list_cons rfl (op_q (q_assign rfl (by decide)) ?_)
              refine list_nil ?_
              refine then_n ⟨(_, _, _, _, _), imp_covers ⟨rfl, rfl, rfl, rfl, rfl, rfl, rfl, trivial⟩, ?_, ?_⟩
              · (try dsimp only)
                exact ⟨by omega, by omega, o, rfl, rfl, by rw [fltK_neg i1 j1 h3 (fun k => h4 k.1), ← j3]⟩
              · (try dsimp only); omega
          · skip
            (try simp only [Decidable.not_not] at h3)
            refine code_exit ?_
            refine then_x ?_; clear hK12 K12
            refine then_x ?_
            refine blk_hit ?_
            refine blk_n ?_
            refine hK10 _ ?_; clear hK10 K10
            refine code_region ?_
            refine list_cons rfl (op_q (q_move rfl (by decide)) ?_)
            refine list_cons rfl (op_q (by first | exact q_addI rfl rfl (by decide) (by omega) (by omega) | exact q_ib rfl rfl rfl (by decide)) ?_)
            refine list_cons rfl (op_q (q_assign rfl (by decide)) ?_)
            refine list_nil ?_
            refine then_n ⟨(_, _, _, _, _), imp_covers ⟨rfl, rfl, rfl, rfl, rfl, rfl, trivial⟩, ?_, ?_⟩
            · (try dsimp only)
              exact ⟨by omega, by omega, o, rfl, rfl, by rw [j3, show (dark + 1).toNat * 128 = dark.toNat * 128 + lit.toNat by omega]⟩
            · (try dsimp only); omega
      · skip
        (try simp only [Decidable.not_not] at h2)
        refine code_exit ?_
        refine then_x ?_; clear hK8 K8
        refine then_x ?_
        refine blk_hit ?_
        refine hK6 _ ?_; clear hK6 K6
        refine code_seq (fun K17 hK17 => ?_)
        refine code_region ?_
        refine list_cons rfl (op_q (q_move rfl (by decide)) ?_)
        refine list_cons rfl (op_q (q_assign rfl (by decide)) ?_)
        refine list_cons rfl (op_q (q_assign rfl (by decide)) ?_)
        refine list_nil ?_
        refine hK17 _ ?_; clear hK17 K17
        refine code_ret ?_
        refine ends_ret (cs := []) rfl rfl rfl rfl trivial ?_
        rw [if_pos h1, decide_eq_true h1, faultsOf, show 16384 = dark.toNat * 128 by omega, ← i3]

end Go.Proofs.YtjbbijlbenkgcaaDoor
