/- Contracts of functions, walked over the pure layer; each says for which arguments. -/
import Derived.Test.YtahjedckfkkcnabDoorI4Ty
import Derived.Test.YtahjedckfkkcnabDoorTf
import Derived.Test.YtahjedckfkkcnabDoorSp
import Derived.Test.YtahjedckfkkcnabDoorShelf
import Derived.Test.YtahjedckfkkcnabDoorS4
import Derived.Test.YtahjedckfkkcnabDoorIm
namespace Go.Proofs.YtahjedckfkkcnabDoor
open Go.RowKit I4Ty
set_option linter.unusedVariables false
set_option linter.unusedSimpArgs false

def celS (k : Nat) : List Int := filN 10 (fun d => digT.getD d 0) k
theorem celS_get {s : Nat} (h : s < 10) : ((celS 10).map (PV.int .i64))[s]? = some (.int .i64 (digT.getD s 0)) := by
  have h2 := get_map1 (PV.int .i64) 0 (celS 10) (k := s) (by unfold celS; rw [filN_len]; exact h)
  rw [Nat.mul_one] at h2
  rw [h2]
  have h1 := filN_at 10 (fun d => digT.getD d 0) 10 s h
  rw [if_pos h] at h1
  unfold celS
  rw [h1]
theorem row_get {a b : Nat} (ha : a < 10) (hb : b < 10) : ((((tabS 100).map (PV.int .i64)).drop (a * 10)).take 10)[b]? = some (.int .i64 (dgt a b)) := by
  rw [List.getElem?_take, if_pos hb, List.getElem?_drop]
  have h2 := get_map1 (PV.int .i64) 0 (tabS 100) (k := a * 10 + b) (by simp [tabS, filN_len]; omega)
  rw [Nat.mul_one] at h2
  rw [h2, tab_at ha hb]
theorem put_new {a b : List PV} {n : Nat} (ha : a.length = n) (hb : b.length = n) : putAt a 0 (PV.agg b).cells = b := by
  unfold putAt PV.cells
  simp only [List.take_zero, List.nil_append, Nat.zero_add]
  rw [List.drop_of_length_le (by omega), List.append_nil]
/-- Counts of bars to which the bars of a cell that light are added: the first k of them. -/
def wbK (l : List Int) (c : Nat) : Nat → List Int
  | 0 => l
  | k + 1 => if bitN c k then (wbK l c k).set k ((wbK l c k).getD k 0 + 1) else wbK l c k
theorem wbK_len (l : List Int) (c : Nat) : ∀ k, (wbK l c k).length = l.length
  | 0 => rfl
  | k + 1 => by unfold wbK; split <;> simp [wbK_len l c k]
theorem wbK_at (l : List Int) (c : Nat) : ∀ (k j : Nat), k ≤ j → (wbK l c k).getD j 0 = l.getD j 0
  | 0, j, _ => rfl
  | k + 1, j, h => by
    have ih := wbK_at l c k j (by omega)
    unfold wbK
    split
    · rw [List.getD_eq_getElem?_getD, List.getElem?_set, if_neg (by omega), ← List.getD_eq_getElem?_getD]; exact ih
    · exact ih
theorem wbK_le (l : List Int) (c : Nat) {m : Int} (h : ∀ j, 0 ≤ l.getD j 0 ∧ l.getD j 0 ≤ m) : ∀ (k j : Nat), 0 ≤ (wbK l c k).getD j 0 ∧ (wbK l c k).getD j 0 ≤ m + 1
  | 0, j => by have := h j; unfold wbK; omega
  | k + 1, j => by
    have ih := wbK_le l c h k j
    have hk := wbK_at l c k k (Nat.le_refl _)
    have hm := h k
    unfold wbK
    split
    · rw [List.getD_eq_getElem?_getD, List.getElem?_set]
      by_cases e : k = j
      · rw [if_pos e]
        split
        · simp only [Option.getD_some]; omega
        · simp only [Option.getD_none]; omega
      · rw [if_neg e, ← List.getD_eq_getElem?_getD]; exact ih
    · exact ih
theorem wbK_put {l : List Int} {c k o : Nat} {v : Int} (ho : o = k) (hk : k < l.length) (hb : bitN c k = true) (hv : v = (wbK l c k).getD k 0 + 1) : putAt ((wbK l c k).map (PV.int .i64)) o [PV.int .i64 v] = (wbK l c (k + 1)).map (PV.int .i64) := by
  subst ho; subst hv
  have h1 := put_map1 (PV.int .i64) (wbK l c o) (k := o) (by rw [wbK_len]; exact hk) ((wbK l c o).getD o 0 + 1)
  rw [Nat.mul_one] at h1
  rw [wbK, if_pos hb]
  exact h1
def wS : Nat → List Int
  | 0 => List.replicate 7 0
  | d + 1 => wbK (wS d) (digT.getD d 0).toNat 7
theorem wS_len : ∀ d, (wS d).length = 7
  | 0 => rfl
  | d + 1 => by rw [wS, wbK_len, wS_len d]
theorem wS_le : ∀ (d j : Nat), 0 ≤ (wS d).getD j 0 ∧ (wS d).getD j 0 ≤ d
  | 0, j => by
    have : (wS 0).getD j 0 = 0 := by
      unfold wS
      rw [List.getD_eq_getElem?_getD, List.getElem?_replicate]
      split <;> rfl
    rw [this]; omega
  | d + 1, j => by
    have := wbK_le (wS d) (digT.getD d 0).toNat (m := d) (wS_le d) 7 j
    rw [wS]; omega
set_option maxRecDepth 100000 in
theorem wS_sh : wS 10 = shS 70 := by decide
theorem celS_all : ((((celS 10).map (PV.int .i64)).drop 0).take 10) = (celS 10).map (PV.int .i64) := by
  rw [List.drop_zero, List.take_of_length_le (by simp [celS, filN_len])]

set_option maxRecDepth 20000 in
set_option maxHeartbeats 2000000 in
theorem impl_ChangeTable  : PCalls Tryd.prog 11 [] (· = [.val (.agg ((tabS 100).map (.int .i64)))]) := by
  refine pcalls_of_code (n := 50) az Tryd.func11 (by kernel_rfl) rfl rfl (Nat.le_of_ble_eq_true rfl) (by intro t u h; simp [Tryd.f11] at h; obtain ⟨_, rfl⟩ := h <;> first | exact resTy_agg agg_23 (by decide)) ?_
  refine code_seq (fun K1 hK1 => ?_)
  refine code_region ?_
  refine list_cons rfl (op_alloc zt_23 (by decide) (by decide) rfl ?_)
  refine list_nil ?_
  refine hK1 _ ?_; clear hK1 K1
  refine code_seq (fun K2 hK2 => ?_)
  refine code_region ?_
  refine list_cons rfl (op_alloc zt_22 (by decide) (by decide) rfl ?_)
  refine list_nil ?_
  refine hK2 _ ?_; clear hK2 K2
  refine code_seq (fun K3 hK3 => ?_)
  refine code_seq (fun K4 hK4 => ?_)
  refine code_region ?_
  refine list_cons rfl (op_q (q_move rfl (by decide)) ?_)
  refine list_nil ?_
  refine hK4 _ ?_; clear hK4 K4
  refine code_block ?_
  refine code_loop (X := List PV × Int) (fun x => [(0, .box 0 23 (List.replicate 100 (.int .i64 0))), (1, .box 1 22 x.1), (12, .val (.int .i64 x.2))]) (fun x => 0 ≤ x.2 ∧ x.2 ≤ 10 ∧ x.1 = (celS x.2.toNat).map (.int .i64)) (fun x => (10 - x.2).toNat) (_, _) (imp_covers ⟨rfl, rfl, rfl, trivial⟩) ?_ ?_
  · (try dsimp only)
    exact ⟨by omega, by omega, rfl⟩
  · intro x hI
    obtain ⟨cells_c, t12⟩ := x
    replace hI : 0 ≤ t12 ∧ t12 ≤ 10 ∧ cells_c = (celS t12.toNat).map (.int .i64) := hI
    show codeT _ _ _ [(0, .box 0 23 (List.replicate 100 (.int .i64 0))), (1, .box 1 22 cells_c), (12, .val (.int .i64 t12))] _
    obtain ⟨i1, i2, rfl⟩ := hI
    refine code_seq (fun K5 hK5 => ?_)
    refine code_region ?_
    refine list_cons rfl (op_q (q_lt rfl rfl (by decide)) ?_)
    refine list_nil ?_
    refine hK5 _ ?_; clear hK5 K5
    refine code_seq (fun K6 hK6 => ?_)
    refine code_cond_d rfl (fun h1 => ?_) (fun h1 => ?_)
    · skip
      (try simp only [Decidable.not_not] at h1)
      refine code_skip ?_
      refine hK6 _ ?_; clear hK6 K6
      refine code_seq (fun K7 hK7 => ?_)
      refine code_block ?_
      refine code_seq (fun K8 hK8 => ?_)
      refine code_region ?_
      refine list_cons rfl (op_q (q_move rfl (by decide)) ?_)
      refine list_cons rfl (op_q (q_assign rfl (by decide)) ?_)
      refine list_nil ?_
      refine hK8 _ ?_; clear hK8 K8
      refine code_seq (fun K9 hK9 => ?_)
      refine code_region ?_
      refine list_cons rfl (op_q (q_move rfl (by decide)) ?_)
      refine list_cons rfl (op_call _ (impl_CellOf t12) rfl rfl (by decide) (by decide) (by decide) rfl ?_)
      rintro _ rfl; simp only [if_pos (show 0 ≤ t12 ∧ t12 ≤ 9 by omega), decide_eq_true (show 0 ≤ t12 ∧ t12 ≤ 9 by omega)]
      refine list_cons rfl (op_q (q_move rfl (by decide)) ?_)
      refine list_cons rfl (op_q (q_extract rfl rfl (by decide)) ?_)
      refine list_cons rfl (op_q (q_extract rfl rfl (by decide)) ?_)
      refine list_cons rfl (op_q (q_assign rfl (by decide)) ?_)
      refine list_cons rfl (op_q (q_assign rfl (by decide)) ?_)
      refine list_nil ?_
      refine hK9 _ ?_; clear hK9 K9
      refine codeT.imp (σ' := [(0, _), (1, _), (2, _), (3, _), (4, _), (12, _)]) ?_ (imp_covers ⟨rfl, rfl, rfl, rfl, rfl, rfl, trivial⟩)
      refine code_seq (fun K10 hK10 => ?_)
      refine code_region ?_
      refine list_cons rfl (op_q (q_move rfl (by decide)) ?_)
      refine list_nil ?_
      refine hK10 _ ?_; clear hK10 K10
      refine code_cond_t rfl ?_
      refine code_region ?_
      refine list_cons rfl (op_q (q_move rfl (by decide)) ?_)
      refine list_cons rfl (op_q (q_move rfl (by decide)) ?_)
      refine list_cons rfl (op_q (q_indexAddr_arr arr_22 rfl rfl rfl (by omega) (by omega) (by decide)) ?_)
      refine list_cons rfl (op_store (one_3).2 1 [1] (by intro t ht; simp only [List.mem_cons, List.not_mem_nil, or_false] at ht; subst ht; rfl) (.inl rfl) rfl rfl rfl rfl rfl rfl (by first | decide | omega | exact Nat.le_refl _ | (simp only [tabS, celS, filN_len, List.length_map]; omega) | (simp; done) | (simp; omega)) (by decide) rfl ?_)
      refine list_nil ?_
      refine blk_n ?_
      refine hK7 _ ?_; clear hK7 K7
      refine codeT.imp (σ' := [(0, _), (1, _), (2, _), (3, _), (4, _), (12, _)]) ?_ (imp_covers ⟨rfl, rfl, rfl, rfl, rfl, rfl, trivial⟩)
      refine code_region ?_
      refine list_cons rfl (op_q (by first | exact q_addI rfl rfl (by decide) (by omega) (by omega) | exact q_ib rfl rfl rfl (by decide)) ?_)
      refine list_cons rfl (op_q (q_move rfl (by decide)) ?_)
      refine list_nil ?_
      refine then_n ⟨(_, _), imp_covers ⟨rfl, rfl, rfl, trivial⟩, ?_, ?_⟩
      · (try dsimp only)
        refine ⟨by omega, by omega, ?_⟩
        rw [show (t12 + 1).toNat = t12.toNat + 1 by omega]
        exact filN_put 10 (fun d => digT.getD d 0) (by omega) (by omega) rfl
      · (try dsimp only); omega
    · skip
      (try simp only [Decidable.not_not] at h1)
      refine code_exit ?_
      refine then_x ?_; clear hK6 K6
      refine then_x ?_
      refine blk_hit ?_
      refine hK3 _ ?_; clear hK3 K3
      refine code_seq (fun K11 hK11 => ?_)
      refine code_region ?_
      refine list_cons rfl (op_alloc zt_23 (by decide) (by decide) rfl ?_)
      refine list_nil ?_
      refine hK11 _ ?_; clear hK11 K11
      refine code_seq (fun K12 hK12 => ?_)
      refine code_seq (fun K13 hK13 => ?_)
      refine code_region ?_
      refine list_cons rfl (op_q (q_load_agg agg_22 1 (.inr ⟨rfl, _, rfl⟩) rfl rfl (by first | decide | omega | exact Nat.le_refl _ | (simp only [tabS, celS, filN_len, List.length_map]; omega) | (simp; done) | (simp; omega)) (by first | rfl | exact flat_part (flat_map _ (fun _ => rfl) _) _ _) (by decide)) ?_)
      refine list_cons rfl (op_q (q_move rfl (by decide)) ?_)
      refine list_nil ?_
      refine hK13 _ ?_; clear hK13 K13
      refine code_block ?_
      refine code_loop (X := List PV × List PV × Int × List PV × Int) (fun x => [(0, .box 0 23 (List.replicate 100 (.int .i64 0))), (1, .box 1 22 x.1), (5, .box 5 23 x.2.1), (12, .val (.int .i64 x.2.2.1)), (25, .val (.agg x.2.2.2.1)), (26, .val (.int .i64 x.2.2.2.2))]) (fun x => 0 ≤ x.2.2.2.2 ∧ x.2.2.2.2 ≤ 10 ∧ x.1 = (celS 10).map (.int .i64) ∧ x.2.1 = (tabS (x.2.2.2.2.toNat * 10)).map (.int .i64) ∧ x.2.2.2.1 = (celS 10).map (.int .i64)) (fun x => (10 - x.2.2.2.2).toNat) (_, _, _, _, _) (imp_covers ⟨rfl, rfl, rfl, rfl, rfl, rfl, trivial⟩) ?_ ?_
      · (try dsimp only)
        have e : t12.toNat = 10 := by omega
        rw [e]
        exact ⟨by omega, by omega, rfl, rfl, celS_all⟩
      · intro x hI
        obtain ⟨cells_c, table_c, t12, t25_a, t26⟩ := x
        replace hI : 0 ≤ t26 ∧ t26 ≤ 10 ∧ cells_c = (celS 10).map (.int .i64) ∧ table_c = (tabS (t26.toNat * 10)).map (.int .i64) ∧ t25_a = (celS 10).map (.int .i64) := hI
        show codeT _ _ _ [(0, .box 0 23 (List.replicate 100 (.int .i64 0))), (1, .box 1 22 cells_c), (5, .box 5 23 table_c), (12, .val (.int .i64 t12)), (25, .val (.agg t25_a)), (26, .val (.int .i64 t26))] _
        obtain ⟨k1, k2, rfl, rfl, rfl⟩ := hI
        refine code_seq (fun K14 hK14 => ?_)
        refine code_region ?_
        refine list_cons rfl (op_q (q_lt rfl rfl (by decide)) ?_)
        refine list_nil ?_
        refine hK14 _ ?_; clear hK14 K14
        refine code_seq (fun K15 hK15 => ?_)
        refine code_cond_d rfl (fun h2 => ?_) (fun h2 => ?_)
        · skip
          (try simp only [Decidable.not_not] at h2)
          refine code_skip ?_
          refine hK15 _ ?_; clear hK15 K15
          refine code_seq (fun K16 hK16 => ?_)
          refine code_block ?_
          refine code_seq (fun K17 hK17 => ?_)
          refine code_region ?_
          refine list_cons rfl (op_q (q_move rfl (by decide)) ?_)
          refine list_cons rfl (op_q (q_index_arr (size := 1) Tryd.underlying22 one_3.2 one_3 rfl rfl (by omega) (by omega) (celS_get (by omega)) (by decide) rfl) ?_)
          refine list_cons rfl (op_q (q_assign rfl (by decide)) ?_)
          refine list_cons rfl (op_q (q_assign rfl (by decide)) ?_)
          refine list_nil ?_
          refine hK17 _ ?_; clear hK17 K17
          refine code_seq (fun K18 hK18 => ?_)
          refine code_region ?_
          refine list_cons rfl (op_q (q_load_agg agg_22 1 (.inr ⟨rfl, _, rfl⟩) rfl rfl (by first | decide | omega | exact Nat.le_refl _ | (simp only [tabS, celS, filN_len, List.length_map]; omega) | (simp; done) | (simp; omega)) (by first | rfl | exact flat_part (flat_map _ (fun _ => rfl) _) _ _) (by decide)) ?_)
          refine list_cons rfl (op_q (q_move rfl (by decide)) ?_)
          refine list_nil ?_
          refine hK18 _ ?_; clear hK18 K18
          refine code_block ?_
          refine code_loop (X := List PV × Int × List PV × Int) (fun x => [(0, .box 0 23 (List.replicate 100 (.int .i64 0))), (1, .box 1 22 ((celS 10).map (.int .i64))), (5, .box 5 23 x.1), (6, .val (.int .i64 t26)), (7, .val (.int .i64 (digT.getD t26.toNat 0))), (12, .val (.int .i64 x.2.1)), (25, .val (.agg ((celS 10).map (.int .i64)))), (26, .val (.int .i64 t26)), (30, .val (.agg x.2.2.1)), (31, .val (.int .i64 x.2.2.2))]) (fun x => 0 ≤ x.2.2.2 ∧ x.2.2.2 ≤ 10 ∧ x.1 = (tabS (t26.toNat * 10 + x.2.2.2.toNat)).map (.int .i64) ∧ x.2.2.1 = (celS 10).map (.int .i64)) (fun x => (10 - x.2.2.2).toNat) (_, _, _, _) (imp_covers ⟨rfl, rfl, rfl, rfl, rfl, rfl, rfl, rfl, rfl, rfl, trivial⟩) ?_ ?_
          · (try dsimp only)
            exact ⟨by omega, by omega, rfl, celS_all⟩
          · intro x hI
            obtain ⟨table_c, t12, t30_a, t31⟩ := x
            replace hI : 0 ≤ t31 ∧ t31 ≤ 10 ∧ table_c = (tabS (t26.toNat * 10 + t31.toNat)).map (.int .i64) ∧ t30_a = (celS 10).map (.int .i64) := hI
            show codeT _ _ _ [(0, .box 0 23 (List.replicate 100 (.int .i64 0))), (1, .box 1 22 ((celS 10).map (.int .i64))), (5, .box 5 23 table_c), (6, .val (.int .i64 t26)), (7, .val (.int .i64 (digT.getD t26.toNat 0))), (12, .val (.int .i64 t12)), (25, .val (.agg ((celS 10).map (.int .i64)))), (26, .val (.int .i64 t26)), (30, .val (.agg t30_a)), (31, .val (.int .i64 t31))] _
            obtain ⟨j1, j2, rfl, rfl⟩ := hI
            have d1 := digT_cell t26.toNat
            have d2 := digT_cell t31.toNat
            refine code_seq (fun K19 hK19 => ?_)
            refine code_region ?_
            refine list_cons rfl (op_q (q_lt rfl rfl (by decide)) ?_)
            refine list_nil ?_
            refine hK19 _ ?_; clear hK19 K19
            refine code_seq (fun K20 hK20 => ?_)
            refine code_cond_d rfl (fun h3 => ?_) (fun h3 => ?_)
            · skip
              (try simp only [Decidable.not_not] at h3)
              refine code_skip ?_
              refine hK20 _ ?_; clear hK20 K20
              refine code_seq (fun K21 hK21 => ?_)
              refine code_block ?_
              refine code_seq (fun K22 hK22 => ?_)
              refine code_region ?_
              refine list_cons rfl (op_q (q_move rfl (by decide)) ?_)
              refine list_cons rfl (op_q (q_index_arr (size := 1) Tryd.underlying22 one_3.2 one_3 rfl rfl (by omega) (by omega) (celS_get (by omega)) (by decide) rfl) ?_)
              refine list_cons rfl (op_q (q_assign rfl (by decide)) ?_)
              refine list_cons rfl (op_q (q_assign rfl (by decide)) ?_)
              refine list_nil ?_
              refine hK22 _ ?_; clear hK22 K22
              refine code_seq (fun K23 hK23 => ?_)
              refine code_region ?_
              refine list_cons rfl (op_q (q_move rfl (by decide)) ?_)
              refine list_cons rfl (op_q (q_move rfl (by decide)) ?_)
              refine list_cons rfl (op_call _ (impl_FarCells _ _) rfl rfl (by decide) (by decide) (by decide) rfl ?_)
              rintro _ rfl; simp only [if_pos (show _ ∧ _ from ⟨d1, d2⟩), decide_eq_true (show _ ∧ _ from ⟨d1, d2⟩)]
              refine list_cons rfl (op_q (q_move rfl (by decide)) ?_)
              refine list_cons rfl (op_q (q_extract rfl rfl (by decide)) ?_)
              refine list_cons rfl (op_q (q_extract rfl rfl (by decide)) ?_)
              refine list_cons rfl (op_q (q_assign rfl (by decide)) ?_)
              refine list_cons rfl (op_q (q_assign rfl (by decide)) ?_)
              refine list_nil ?_
              refine hK23 _ ?_; clear hK23 K23
              refine codeT.imp (σ' := [(0, _), (1, _), (5, _), (6, _), (7, _), (8, _), (9, _), (10, _), (11, _), (12, _), (25, _), (26, _), (30, _), (31, _)]) ?_ (imp_covers ⟨rfl, rfl, rfl, rfl, rfl, rfl, rfl, rfl, rfl, rfl, rfl, rfl, rfl, rfl, trivial⟩)
              refine code_seq (fun K24 hK24 => ?_)
              refine code_region ?_
              refine list_cons rfl (op_q (q_move rfl (by decide)) ?_)
              refine list_nil ?_
              refine hK24 _ ?_; clear hK24 K24
              refine code_cond_t rfl ?_
              refine code_region ?_
              refine list_cons rfl (op_q (q_move rfl (by decide)) ?_)
              refine list_cons rfl (op_q (q_move rfl (by decide)) ?_)
              refine list_cons rfl (op_q (q_move rfl (by decide)) ?_)
              refine list_cons rfl (op_q (q_indexAddr_arr arr_23 rfl rfl rfl (by omega) (by omega) (by decide)) ?_)
              refine list_cons rfl (op_q (q_indexAddr_arr arr_22 rfl rfl rfl (by omega) (by omega) (by decide)) ?_)
              refine list_cons rfl (op_store (one_3).2 5 [5] (by intro t ht; simp only [List.mem_cons, List.not_mem_nil, or_false] at ht; subst ht; rfl) (.inl rfl) rfl rfl rfl rfl rfl rfl (by first | decide | omega | exact Nat.le_refl _ | (simp only [tabS, celS, filN_len, List.length_map]; omega) | (simp; done) | (simp; omega)) (by decide) rfl ?_)
              refine list_nil ?_
              refine blk_n ?_
              refine hK21 _ ?_; clear hK21 K21
              refine codeT.imp (σ' := [(0, _), (1, _), (5, _), (6, _), (7, _), (8, _), (9, _), (10, _), (11, _), (12, _), (25, _), (26, _), (30, _), (31, _)]) ?_ (imp_covers ⟨rfl, rfl, rfl, rfl, rfl, rfl, rfl, rfl, rfl, rfl, rfl, rfl, rfl, rfl, trivial⟩)
              refine code_region ?_
              refine list_cons rfl (op_q (by first | exact q_addI rfl rfl (by decide) (by omega) (by omega) | exact q_ib rfl rfl rfl (by decide)) ?_)
              refine list_cons rfl (op_q (q_move rfl (by decide)) ?_)
              refine list_nil ?_
              refine then_n ⟨(_, _, _, _), imp_covers ⟨rfl, rfl, rfl, rfl, rfl, rfl, rfl, rfl, rfl, rfl, trivial⟩, ?_, ?_⟩
              · (try dsimp only)
                refine ⟨by omega, by omega, ?_, rfl⟩
                rw [show (t31 + 1).toNat = t31.toNat + 1 by omega]
                exact filN_put 100 tabF (by omega) (by omega) (by unfold tabF; rw [show (t26.toNat * 10 + t31.toNat) / 10 = t26.toNat by omega, show (t26.toNat * 10 + t31.toNat) % 10 = t31.toNat by omega]; rfl)
              · (try dsimp only); omega
            · skip
              (try simp only [Decidable.not_not] at h3)
              refine code_exit ?_
              refine then_x ?_; clear hK20 K20
              refine then_x ?_
              refine blk_hit ?_
              refine blk_n ?_
              refine hK16 _ ?_; clear hK16 K16
              refine code_region ?_
              refine list_cons rfl (op_q (by first | exact q_addI rfl rfl (by decide) (by omega) (by omega) | exact q_ib rfl rfl rfl (by decide)) ?_)
              refine list_cons rfl (op_q (q_move rfl (by decide)) ?_)
              refine list_nil ?_
              refine then_n ⟨(_, _, _, _, _), imp_covers ⟨rfl, rfl, rfl, rfl, rfl, rfl, trivial⟩, ?_, ?_⟩
              · (try dsimp only)
                exact ⟨by omega, by omega, rfl, by rw [show (t26 + 1).toNat * 10 = t26.toNat * 10 + t31.toNat by omega], rfl⟩
              · (try dsimp only); omega
        · skip
          (try simp only [Decidable.not_not] at h2)
          refine code_exit ?_
          refine then_x ?_; clear hK15 K15
          refine then_x ?_
          refine blk_hit ?_
          refine hK12 _ ?_; clear hK12 K12
          refine code_seq (fun K25 hK25 => ?_)
          refine code_region ?_
          refine list_cons rfl (op_q (q_load_agg agg_23 5 (.inr ⟨rfl, _, rfl⟩) rfl rfl (by first | decide | omega | exact Nat.le_refl _ | (simp only [tabS, celS, filN_len, List.length_map]; omega) | (simp; done) | (simp; omega)) (by first | rfl | exact flat_part (flat_map _ (fun _ => rfl) _) _ _) (by decide)) ?_)
          refine list_cons rfl (op_store (agg_23).2 0 [0] (by intro t ht; simp only [List.mem_cons, List.not_mem_nil, or_false] at ht; subst ht; rfl) (.inr ⟨rfl, _, rfl⟩) rfl rfl rfl rfl (by first | rfl | exact flat_part (flat_map _ (fun _ => rfl) _) _ _ | exact flat_map _ (fun _ => rfl) _) (by first | rfl | (simp [PV.cells, tabS, filN_len]; done)) (by first | decide | omega | exact Nat.le_refl _ | (simp only [tabS, celS, filN_len, List.length_map]; omega) | (simp; done) | (simp; omega)) (by decide) rfl ?_)
          refine list_nil ?_
          refine hK25 _ ?_; clear hK25 K25
          refine codeT.imp (σ' := [(0, _), (1, _), (5, _), (12, _), (25, _), (26, _)]) ?_ (imp_covers ⟨rfl, rfl, rfl, rfl, rfl, rfl, trivial⟩)
          refine code_ret ?_
          refine ends_ret (cs := []) (res_agg1 (cs := (tabS 100).map (.int .i64)) (congrArg (fun z => some (SV.box 0 23 z)) (by rw [show t26.toNat * 10 = 100 by omega]; exact put_all (n := 100) (by simp) (by simp [tabS, filN_len]))) rfl (flat_map _ (fun _ => rfl) _) (by simp [tabS, filN_len]; rfl)) rfl rfl rfl trivial ?_
          rfl

set_option maxRecDepth 20000 in
set_option maxHeartbeats 2000000 in
theorem impl_NearestDigits (digit : Int) : PCalls Tryd.prog 17 [.int .i64 digit] (· = [.own 0 3 1 (if 0 ≤ digit ∧ digit ≤ 9 then (nearK digit.toNat 8 10).1 else []).length ((if 0 ≤ digit ∧ digit ≤ 9 then (nearK digit.toNat 8 10).1 else []).map (.int .i64)), .val (.int .i64 (if 0 ≤ digit ∧ digit ≤ 9 then (nearK digit.toNat 8 10).2 else 0)), .val (.bool (decide (0 ≤ digit ∧ digit ≤ 9)))]) := by
  refine pcalls_of_code (n := 46) az Tryd.func17 (by kernel_rfl) rfl rfl (Nat.le_of_ble_eq_true rfl) (by intro t u h; simp [Tryd.f17] at h) ?_
  refine code_seq (fun K1 hK1 => ?_)
  refine code_region ?_
  refine list_cons rfl (op_q (q_assign rfl (by decide)) ?_)
  refine list_cons rfl (op_q (q_assign rfl (by decide)) ?_)
  refine list_cons rfl (op_q (q_assign rfl (by decide)) ?_)
  refine list_nil ?_
  refine hK1 _ ?_; clear hK1 K1
  refine code_seq (fun K2 hK2 => ?_)
  refine code_region ?_
  refine list_cons rfl (op_call _ (impl_ChangeTable) rfl rfl (by decide) (by decide) (by decide) rfl ?_)
  rintro _ rfl
  refine list_cons rfl (op_alloc zt_23 (by decide) (by decide) rfl ?_)
  refine list_cons rfl (op_store (agg_23).2 5 [5] (by intro t ht; simp only [List.mem_cons, List.not_mem_nil, or_false] at ht; subst ht; rfl) (.inr ⟨rfl, _, rfl⟩) rfl rfl rfl rfl (by first | rfl | exact flat_part (flat_map _ (fun _ => rfl) _) _ _ | exact flat_map _ (fun _ => rfl) _) (by first | rfl | (simp [PV.cells, tabS, filN_len]; done)) (by simp [PV.cells]; done) (by decide) rfl ?_)
  refine list_nil ?_
  refine hK2 _ ?_; clear hK2 K2
  refine codeT.imp (σ' := [(0, _), (2, _), (3, _), (4, _), (5, .box 5 23 ((tabS 100).map (.int .i64)))]) ?_ (imp_covers ⟨rfl, rfl, rfl, rfl, (congrArg (fun z => some (SV.box 5 23 z)) (put_new (n := 100) (by rfl) (by simp [tabS, filN_len]))), trivial⟩)
  refine code_seq (fun K3 hK3 => ?_)
  refine code_seq (fun K4 hK4 => ?_)
  refine code_region ?_
  refine list_cons rfl (op_q (q_move rfl (by decide)) ?_)
  refine list_cons rfl (op_q (q_lt rfl rfl (by decide)) ?_)
  refine list_cons rfl (op_q (q_move rfl (by decide)) ?_)
  refine list_guard_d rfl rfl rfl rfl (by decide) rfl (by decide) (fun h1 => ?_) (fun h1 => ?_)
  · simp only [Bool.false_eq_true, if_true, if_false, Decidable.not_not] at h1
    refine id (op_q (q_move rfl (by decide)) ?_)
    refine list_guard_y rfl rfl rfl rfl (by decide) rfl ?_
    refine id (op_q (q_ge rfl rfl (by decide)) ?_)
    refine list_cons rfl (op_q (q_pick rfl rfl (by decide)) ?_)
    refine list_nil ?_
    refine hK4 _ ?_; clear hK4 K4
    refine code_cond_d rfl (fun h2 => ?_) (fun h2 => ?_)
    · skip
      (try simp only [Decidable.not_not] at h2)
      refine code_seq (fun K5 hK5 => ?_)
      refine code_region ?_
      refine list_cons rfl (op_buildSlice sl_30 (parts := []) rfl rfl rfl (by decide) (by decide) (by decide) rfl ?_)
      refine list_cons rfl (op_q (q_assign rfl (by decide)) ?_)
      refine list_cons rfl (op_q (q_assign rfl (by decide)) ?_)
      refine list_cons rfl (op_q (q_assign rfl (by decide)) ?_)
      refine list_nil ?_
      refine hK5 _ ?_; clear hK5 K5
      refine codeT.imp (σ' := [(0, _), (2, _), (3, _), (4, _), (5, _)]) ?_ (imp_covers ⟨rfl, rfl, rfl, rfl, rfl, trivial⟩)
      refine code_ret ?_
      refine then_r ?_; clear hK3 K3
      refine ends_ret (cs := []) rfl rfl rfl rfl trivial ?_
      first
        | (have e : ¬ (0 ≤ digit ∧ digit ≤ 9) := by omega
           simp only [if_neg e, decide_eq_false e]; rfl)
        | (have e : 0 ≤ digit ∧ digit ≤ 9 := ⟨g1, g2⟩
           have e2 : nearK digit.toNat 8 10 = (l, fewest) := by rw [← near_87 _ (by omega), hk, show t22.toNat = 10 by omega]
           simp only [if_pos e, decide_eq_true e, e2])
    · skip
      (try simp only [Decidable.not_not] at h2)
      refine code_skip ?_
      refine hK3 _ ?_; clear hK3 K3
      refine code_seq (fun K6 hK6 => ?_)
      refine code_region ?_
      refine list_cons rfl (op_buildSlice sl_30 (parts := []) rfl rfl rfl (by decide) (by decide) (by decide) rfl ?_)
      refine list_cons rfl (op_q (q_assign rfl (by decide)) ?_)
      refine list_cons rfl (op_q (q_assign rfl (by decide)) ?_)
      refine list_nil ?_
      refine hK6 _ ?_; clear hK6 K6
      refine codeT.imp (σ' := [(0, _), (2, _), (3, _), (4, _), (5, _), (6, _), (7, _)]) ?_ (imp_covers ⟨rfl, rfl, rfl, rfl, rfl, rfl, rfl, trivial⟩)
      refine code_seq (fun K7 hK7 => ?_)
      refine code_seq (fun K8 hK8 => ?_)
      refine code_region ?_
      refine list_cons rfl (op_q (q_move rfl (by decide)) ?_)
      refine list_cons rfl (op_q (q_indexAddr_arr arr_23 rfl rfl rfl (by omega) (by omega) (by decide)) ?_)
      refine list_cons rfl (op_q (q_load_agg agg_22 5 (.inl rfl) rfl rfl (by simp [PV.cells, tabS, filN_len]; omega) (by first | rfl | exact flat_part (flat_map _ (fun _ => rfl) _) _ _) (by decide)) ?_)
      refine list_cons rfl (op_q (q_move rfl (by decide)) ?_)
      refine list_nil ?_
      refine hK8 _ ?_; clear hK8 K8
      refine code_block ?_
      refine code_loop (X := PV × Int × Bool × List PV × Nat × List PV × Int × List PV × Int) (fun x => [(0, .val (.int .i64 digit)), (2, .val x.1), (3, .val (.int .i64 x.2.1)), (4, .val (.bool x.2.2.1)), (5, .box 5 23 x.2.2.2.1), (6, .own 18 3 1 x.2.2.2.2.1 x.2.2.2.2.2.1), (7, .val (.int .i64 x.2.2.2.2.2.2.1)), (21, .val (.agg x.2.2.2.2.2.2.2.1)), (22, .val (.int .i64 x.2.2.2.2.2.2.2.2))]) (fun x => 0 ≤ x.2.2.2.2.2.2.2.2 ∧ x.2.2.2.2.2.2.2.2 ≤ 10 ∧ 0 ≤ digit ∧ digit ≤ 9 ∧ x.2.2.2.2.2.2.2.1 = (((tabS 100).map (PV.int .i64)).drop (digit.toNat * 10)).take 10 ∧ ∃ l : List Int, x.2.2.2.2.1 = l.length ∧ x.2.2.2.2.2.1 = l.map (.int .i64) ∧ (l, x.2.2.2.2.2.2.1) = nearK digit.toNat 7 x.2.2.2.2.2.2.2.2.toNat) (fun x => (10 - x.2.2.2.2.2.2.2.2).toNat) (_, _, _, _, _, _, _, _, _) (imp_covers ⟨rfl, rfl, rfl, rfl, rfl, rfl, rfl, rfl, rfl, trivial⟩) ?_ ?_
      · (try dsimp only)
        exact ⟨by omega, by omega, by omega, by omega, rfl, [], rfl, rfl, rfl⟩
      · intro x hI
        obtain ⟨t2_p, t3, t4, table_c, nearest_n, nearest_c, fewest, t21_a, t22⟩ := x
        replace hI : 0 ≤ t22 ∧ t22 ≤ 10 ∧ 0 ≤ digit ∧ digit ≤ 9 ∧ t21_a = (((tabS 100).map (PV.int .i64)).drop (digit.toNat * 10)).take 10 ∧ ∃ l : List Int, nearest_n = l.length ∧ nearest_c = l.map (.int .i64) ∧ (l, fewest) = nearK digit.toNat 7 t22.toNat := hI
        show codeT _ _ _ [(0, .val (.int .i64 digit)), (2, .val t2_p), (3, .val (.int .i64 t3)), (4, .val (.bool t4)), (5, .box 5 23 table_c), (6, .own 18 3 1 nearest_n nearest_c), (7, .val (.int .i64 fewest)), (21, .val (.agg t21_a)), (22, .val (.int .i64 t22))] _
        obtain ⟨i1, i2, g1, g2, rfl, l, rfl, rfl, hk⟩ := hI
        have hd : ((t22.toNat : Nat) : Int) = t22 := Int.toNat_of_nonneg i1
        have hn := nearK_le digit.toNat (m := 7) (by omega) t22.toNat
        rw [← hk] at hn
        simp only [] at hn
        have hdl := dgt_le digit.toNat t22.toNat
        refine code_seq (fun K9 hK9 => ?_)
        refine code_region ?_
        refine list_cons rfl (op_q (q_lt rfl rfl (by decide)) ?_)
        refine list_nil ?_
        refine hK9 _ ?_; clear hK9 K9
        refine code_seq (fun K10 hK10 => ?_)
        refine code_cond_d rfl (fun h3 => ?_) (fun h3 => ?_)
        · skip
          (try simp only [Decidable.not_not] at h3)
          refine code_skip ?_
          refine hK10 _ ?_; clear hK10 K10
          refine code_seq (fun K11 hK11 => ?_)
          refine code_block ?_
          refine code_seq (fun K12 hK12 => ?_)
          refine code_region ?_
          refine list_cons rfl (op_q (q_move rfl (by decide)) ?_)
          refine list_cons rfl (op_q (q_index_arr (size := 1) Tryd.underlying22 one_3.2 one_3 rfl rfl (by omega) (by omega) (row_get (by omega) (by omega)) (by decide) rfl) ?_)
          refine list_cons rfl (op_q (q_assign rfl (by decide)) ?_)
          refine list_cons rfl (op_q (q_assign rfl (by decide)) ?_)
          refine list_nil ?_
          refine hK12 _ ?_; clear hK12 K12
          refine code_seq (fun K13 hK13 => ?_)
          refine code_seq (fun K14 hK14 => ?_)
          refine code_region ?_
          refine list_cons rfl (op_q (q_move rfl (by decide)) ?_)
          refine list_cons rfl (op_q (q_move rfl (by decide)) ?_)
          refine list_cons rfl (op_q (q_eq rfl rfl (by decide)) ?_)
          refine list_cons rfl (op_q (q_move rfl (by decide)) ?_)
          refine list_guard_d rfl rfl rfl rfl (by decide) rfl (by decide) (fun h4 => ?_) (fun h4 => ?_)
          · simp only [Bool.false_eq_true, if_true, if_false, Decidable.not_not] at h4
            refine id (op_q (q_move rfl (by decide)) ?_)
            refine list_guard_y rfl rfl rfl rfl (by decide) rfl ?_
            refine id (op_q (q_move rfl (by decide)) ?_)
            refine list_guard_y rfl rfl rfl rfl (by decide) rfl ?_
            refine id (op_q (q_gt rfl rfl (by decide)) ?_)
            refine list_cons rfl (op_q (q_pick rfl rfl (by decide)) ?_)
            refine list_nil ?_
            refine hK14 _ ?_; clear hK14 K14
            refine codeT.imp (σ' := [(0, _), (2, _), (3, _), (4, _), (5, _), (6, _), (7, _), (8, _), (9, _), (21, _), (22, _), (33, _)]) ?_ (imp_covers ⟨rfl, rfl, rfl, rfl, rfl, rfl, rfl, rfl, rfl, rfl, rfl, rfl, trivial⟩)
            refine code_cond_d rfl (fun h5 => ?_) (fun h5 => ?_)
            · skip
              (try simp only [Decidable.not_not] at h5)
              refine code_exit ?_
              refine then_x ?_; clear hK13 K13
              refine blk_hit ?_
              refine hK11 _ ?_; clear hK11 K11
              refine code_region ?_
              refine list_cons rfl (op_q (by first | exact q_addI rfl rfl (by decide) (by omega) (by omega) | exact q_ib rfl rfl rfl (by decide)) ?_)
              refine list_cons rfl (op_q (q_move rfl (by decide)) ?_)
              refine list_nil ?_
              refine then_n ⟨(_, _, _, _, _, _, _, _, _), imp_covers ⟨rfl, rfl, rfl, rfl, rfl, rfl, rfl, rfl, rfl, trivial⟩, ?_, ?_⟩
              · (try dsimp only)
                refine ⟨by omega, by omega, g1, g2, rfl, l, rfl, rfl, ?_⟩
                rw [show (t22 + 1).toNat = t22.toNat + 1 by omega, nearK, ← hk]
                unfold near1
                simp only [hd]
                first
                  | (rw [if_pos (by omega)]; done)
                  | (rw [if_neg (by omega), if_pos (by omega)]; done)
                  | (rw [if_neg (by omega), if_pos (by omega)]; rfl)
                  | (rw [if_neg (by omega), if_neg (by omega)]; done)
              · (try dsimp only); omega
            · skip
              (try simp only [Decidable.not_not] at h5)
              refine code_skip ?_
              refine hK13 _ ?_; clear hK13 K13
              refine code_seq (fun K15 hK15 => ?_)
              refine code_seq (fun K16 hK16 => ?_)
              refine code_region ?_
              refine list_cons rfl (op_q (q_move rfl (by decide)) ?_)
              refine list_cons rfl (op_q (q_move rfl (by decide)) ?_)
              refine list_cons rfl (op_q (q_lt rfl rfl (by decide)) ?_)
              refine list_nil ?_
              refine hK16 _ ?_; clear hK16 K16
              refine code_cond_d rfl (fun h6 => ?_) (fun h6 => ?_)
              · skip
                (try simp only [Decidable.not_not] at h6)
                refine code_region ?_
                refine list_cons rfl (op_buildSlice sl_30 (parts := []) rfl rfl rfl (by decide) (by decide) (by decide) rfl ?_)
                refine list_cons rfl (op_q (q_move rfl (by decide)) ?_)
                refine list_cons rfl (op_q (q_assign rfl (by decide)) ?_)
                refine list_cons rfl (op_q (q_assign rfl (by decide)) ?_)
                refine list_nil ?_
                refine hK15 _ ?_; clear hK15 K15
                refine code_region ?_
                refine list_cons rfl (op_q (q_move rfl (by decide)) ?_)
                refine list_cons rfl (op_q (q_move rfl (by decide)) ?_)
                refine list_cons rfl (op_buildSlice sl_30 (parts := [(0, .tmp 40)]) rfl rfl rfl (by decide) (by decide) (by decide) rfl ?_)
                refine list_cons rfl (op_append_gen sl_30 (l := 37) (.inl rfl) rfl rfl (l2 := none) (.inl ⟨rfl, (by first | rfl | exact flat_map _ (fun _ => rfl) _)⟩) (by first | rfl | simp | omega) (by omega) (by decide) (by decide) (by decide) ?_)
                refine list_cons rfl (op_q (q_assign rfl (by decide)) ?_)
                refine list_nil ?_
                refine blk_n ?_
                refine hK11 _ ?_; clear hK11 K11
                refine codeT.imp (σ' := [(0, _), (2, _), (3, _), (4, _), (5, _), (6, _), (7, _), (8, _), (9, _), (21, _), (22, _)]) ?_ (imp_covers ⟨rfl, rfl, rfl, rfl, rfl, rfl, rfl, rfl, rfl, rfl, rfl, trivial⟩)
                refine code_region ?_
                refine list_cons rfl (op_q (by first | exact q_addI rfl rfl (by decide) (by omega) (by omega) | exact q_ib rfl rfl rfl (by decide)) ?_)
                refine list_cons rfl (op_q (q_move rfl (by decide)) ?_)
                refine list_nil ?_
                refine then_n ⟨(_, _, _, _, _, _, _, _, _), (imp_covers (σ' := [(0, _), (2, _), (3, _), (4, _), (5, _), (6, _), (7, _), (21, _), (22, _)]) ⟨rfl, rfl, rfl, rfl, rfl, rfl, rfl, rfl, rfl, trivial⟩).trans ((imp_ren 37 18 (by decide) (by decide) rfl).trans (imp_covers ⟨rfl, rfl, rfl, rfl, rfl, rfl, rfl, rfl, rfl, trivial⟩)), ?_, ?_⟩
                · (try dsimp only)
                  refine ⟨by omega, by omega, g1, g2, rfl, [t22], rfl, rfl, ?_⟩
                  rw [show (t22 + 1).toNat = t22.toNat + 1 by omega, nearK, ← hk]
                  unfold near1
                  simp only [hd]
                  first
                    | (rw [if_pos (by omega)]; done)
                    | (rw [if_neg (by omega), if_pos (by omega)]; done)
                    | (rw [if_neg (by omega), if_pos (by omega)]; rfl)
                    | (rw [if_neg (by omega), if_neg (by omega)]; done)
                · (try dsimp only); omega
              · skip
                (try simp only [Decidable.not_not] at h6)
                refine code_skip ?_
                refine hK15 _ ?_; clear hK15 K15
                refine code_region ?_
                refine list_cons rfl (op_q (q_move rfl (by decide)) ?_)
                refine list_cons rfl (op_q (q_move rfl (by decide)) ?_)
                refine list_cons rfl (op_buildSlice sl_30 (parts := [(0, .tmp 40)]) rfl rfl rfl (by decide) (by decide) (by decide) rfl ?_)
                refine list_cons rfl (op_append_gen sl_30 (l := 18) (.inl rfl) rfl rfl (l2 := none) (.inl ⟨rfl, (by first | rfl | exact flat_map _ (fun _ => rfl) _)⟩) (by first | rfl | simp | omega) (by omega) (by decide) (by decide) (by decide) ?_)
                refine list_cons rfl (op_q (q_assign rfl (by decide)) ?_)
                refine list_nil ?_
                refine blk_n ?_
                refine hK11 _ ?_; clear hK11 K11
                refine codeT.imp (σ' := [(0, _), (2, _), (3, _), (4, _), (5, _), (6, _), (7, _), (8, _), (9, _), (21, _), (22, _)]) ?_ (imp_covers ⟨rfl, rfl, rfl, rfl, rfl, rfl, rfl, rfl, rfl, rfl, rfl, trivial⟩)
                refine code_region ?_
                refine list_cons rfl (op_q (by first | exact q_addI rfl rfl (by decide) (by omega) (by omega) | exact q_ib rfl rfl rfl (by decide)) ?_)
                refine list_cons rfl (op_q (q_move rfl (by decide)) ?_)
                refine list_nil ?_
                refine then_n ⟨(_, _, _, _, _, _, _, _, _), imp_covers ⟨rfl, rfl, rfl, rfl, rfl, rfl, rfl, rfl, rfl, trivial⟩, ?_, ?_⟩
                · (try dsimp only)
                  refine ⟨by omega, by omega, g1, g2, rfl, l ++ [t22], by simp, by simp; rfl, ?_⟩
                  rw [show (t22 + 1).toNat = t22.toNat + 1 by omega, nearK, ← hk]
                  unfold near1
                  simp only [hd]
                  first
                    | (rw [if_pos (by omega)]; done)
                    | (rw [if_neg (by omega), if_pos (by omega)]; done)
                    | (rw [if_neg (by omega), if_pos (by omega)]; rfl)
                    | (rw [if_neg (by omega), if_neg (by omega)]; done)
                · (try dsimp only); omega
          · simp only [Bool.false_eq_true, if_true, if_false, Decidable.not_not] at h4
            refine list_guard_n rfl rfl rfl rfl (by decide) rfl ?_
            refine list_guard_n rfl rfl rfl rfl (by decide) rfl ?_
            refine list_cons rfl (op_q (q_pick rfl rfl (by decide)) ?_)
            refine list_nil ?_
            refine hK14 _ ?_; clear hK14 K14
            refine codeT.imp (σ' := [(0, _), (2, _), (3, _), (4, _), (5, _), (6, _), (7, _), (8, _), (9, _), (21, _), (22, _), (33, _)]) ?_ (imp_covers ⟨rfl, rfl, rfl, rfl, rfl, rfl, rfl, rfl, rfl, rfl, rfl, rfl, trivial⟩)
            refine code_cond_t rfl ?_
            refine code_exit ?_
            refine then_x ?_; clear hK13 K13
            refine blk_hit ?_
            refine hK11 _ ?_; clear hK11 K11
            refine code_region ?_
            refine list_cons rfl (op_q (by first | exact q_addI rfl rfl (by decide) (by omega) (by omega) | exact q_ib rfl rfl rfl (by decide)) ?_)
            refine list_cons rfl (op_q (q_move rfl (by decide)) ?_)
            refine list_nil ?_
            refine then_n ⟨(_, _, _, _, _, _, _, _, _), imp_covers ⟨rfl, rfl, rfl, rfl, rfl, rfl, rfl, rfl, rfl, trivial⟩, ?_, ?_⟩
            · (try dsimp only)
              refine ⟨by omega, by omega, g1, g2, rfl, l, rfl, rfl, ?_⟩
              rw [show (t22 + 1).toNat = t22.toNat + 1 by omega, nearK, ← hk]
              unfold near1
              simp only [hd]
              first
                | (rw [if_pos (by omega)]; done)
                | (rw [if_neg (by omega), if_pos (by omega)]; done)
                | (rw [if_neg (by omega), if_pos (by omega)]; rfl)
                | (rw [if_neg (by omega), if_neg (by omega)]; done)
            · (try dsimp only); omega
        · skip
          (try simp only [Decidable.not_not] at h3)
          refine code_exit ?_
          refine then_x ?_; clear hK10 K10
          refine then_x ?_
          refine blk_hit ?_
          refine hK7 _ ?_; clear hK7 K7
          refine code_seq (fun K17 hK17 => ?_)
          refine code_region ?_
          refine list_cons rfl (op_q (q_move rfl (by decide)) ?_)
          refine list_cons rfl (op_q (q_move rfl (by decide)) ?_)
          refine list_cons rfl (op_q (q_assign rfl (by decide)) ?_)
          refine list_cons rfl (op_q (q_assign rfl (by decide)) ?_)
          refine list_cons rfl (op_q (q_assign rfl (by decide)) ?_)
          refine list_nil ?_
          refine hK17 _ ?_; clear hK17 K17
          refine code_ret ?_
          refine ends_ret (cs := []) rfl rfl rfl rfl trivial ?_
          first
            | (have e : ¬ (0 ≤ digit ∧ digit ≤ 9) := by omega
               simp only [if_neg e, decide_eq_false e]; rfl)
            | (have e : 0 ≤ digit ∧ digit ≤ 9 := ⟨g1, g2⟩
               have e2 : nearK digit.toNat 8 10 = (l, fewest) := by rw [← near_87 _ (by omega), hk, show t22.toNat = 10 by omega]
               simp only [if_pos e, decide_eq_true e, e2])
  · simp only [Bool.false_eq_true, if_true, if_false, Decidable.not_not] at h1
    refine list_guard_n rfl rfl rfl rfl (by decide) rfl ?_
    refine list_cons rfl (op_q (q_pick rfl rfl (by decide)) ?_)
    refine list_nil ?_
    refine hK4 _ ?_; clear hK4 K4
    refine code_cond_t rfl ?_
    refine code_seq (fun K18 hK18 => ?_)
    refine code_region ?_
    refine list_cons rfl (op_buildSlice sl_30 (parts := []) rfl rfl rfl (by decide) (by decide) (by decide) rfl ?_)
    refine list_cons rfl (op_q (q_assign rfl (by decide)) ?_)
    refine list_cons rfl (op_q (q_assign rfl (by decide)) ?_)
    refine list_cons rfl (op_q (q_assign rfl (by decide)) ?_)
    refine list_nil ?_
    refine hK18 _ ?_; clear hK18 K18
    refine code_ret ?_
    refine then_r ?_; clear hK3 K3
    refine ends_ret (cs := []) rfl rfl rfl rfl trivial ?_
    first
      | (have e : ¬ (0 ≤ digit ∧ digit ≤ 9) := by omega
         simp only [if_neg e, decide_eq_false e]; rfl)
      | (have e : 0 ≤ digit ∧ digit ≤ 9 := ⟨g1, g2⟩
         have e2 : nearK digit.toNat 8 10 = (l, fewest) := by rw [← near_87 _ (by omega), hk, show t22.toNat = 10 by omega]
         simp only [if_pos e, decide_eq_true e, e2])

set_option maxRecDepth 4000 in
set_option maxHeartbeats 1000000 in
theorem impl_withBars (l : List Int) (c m : Int) (hl : l.length = 7) (hm : ∀ j, 0 ≤ l.getD j 0 ∧ l.getD j 0 ≤ m) (hm2 : m ≤ 1099511627776) (hc : 0 ≤ c ∧ c ≤ 127) : PCalls Tryd.prog 39 [.agg (l.map (.int .i64)), .int .i64 c] (· = [.val (.agg ((wbK l c.toNat 7).map (.int .i64)))]) := by
  refine pcalls_of_code (n := 19) az Tryd.func39 (by kernel_rfl) rfl rfl (Nat.le_of_ble_eq_true rfl) (by intro t u h; simp [Tryd.f39] at h; obtain ⟨_, rfl⟩ := h <;> first | exact resTy_agg agg_27 (by decide)) ?_
  have hfl := flat_map (PV.int .i64) (fun _ => rfl) l
  rw [show inits false 0 [.agg (l.map (.int .i64)), .int .i64 c] = [(0, SV.val (.agg (l.map (.int .i64)))), (1, SV.val (.int .i64 c))] from by simp [inits, PV.start, PV.flat, hfl]]
  refine code_seq (fun K1 hK1 => ?_)
  refine code_region ?_
  refine list_cons rfl (op_box rfl (.inl ⟨rfl, hfl⟩) (by decide) (by decide) rfl ?_)
  refine list_cons rfl (op_alloc zt_27 (by decide) (by decide) rfl ?_)
  refine list_nil ?_
  refine hK1 _ ?_; clear hK1 K1
  refine code_seq (fun K2 hK2 => ?_)
  refine code_seq (fun K3 hK3 => ?_)
  refine code_region ?_
  refine list_cons rfl (op_q (q_move rfl (by decide)) ?_)
  refine list_nil ?_
  refine hK3 _ ?_; clear hK3 K3
  refine code_block ?_
  refine code_loop (X := List PV × Int) (fun x => [(0, .val (.agg (l.map (.int .i64)))), (1, .val (.int .i64 c)), (2, .box 2 27 x.1), (4, .box 4 27 (List.replicate 7 (.int .i64 0))), (6, .val (.int .i64 x.2))]) (fun x => 0 ≤ x.2 ∧ x.2 ≤ 7 ∧ x.1 = (wbK l c.toNat x.2.toNat).map (.int .i64)) (fun x => (7 - x.2).toNat) (_, _) (imp_covers ⟨rfl, rfl, rfl, rfl, rfl, trivial⟩) ?_ ?_
  · (try dsimp only)
    exact ⟨by omega, by omega, rfl⟩
  · intro x hI
    obtain ⟨counts_2_c, t6⟩ := x
    replace hI : 0 ≤ t6 ∧ t6 ≤ 7 ∧ counts_2_c = (wbK l c.toNat t6.toNat).map (.int .i64) := hI
    show codeT _ _ _ [(0, .val (.agg (l.map (.int .i64)))), (1, .val (.int .i64 c)), (2, .box 2 27 counts_2_c), (4, .box 4 27 (List.replicate 7 (.int .i64 0))), (6, .val (.int .i64 t6))] _
    obtain ⟨i1, i2, rfl⟩ := hI
    have hle := wbK_le l c.toNat hm t6.toNat t6.toNat
    refine code_seq (fun K4 hK4 => ?_)
    refine code_region ?_
    refine list_cons rfl (op_q (q_lt rfl rfl (by decide)) ?_)
    refine list_nil ?_
    refine hK4 _ ?_; clear hK4 K4
    refine code_seq (fun K5 hK5 => ?_)
    refine code_cond_d rfl (fun h1 => ?_) (fun h1 => ?_)
    · skip
      (try simp only [Decidable.not_not] at h1)
      refine code_skip ?_
      refine hK5 _ ?_; clear hK5 K5
      refine code_seq (fun K6 hK6 => ?_)
      refine code_block ?_
      refine code_seq (fun K7 hK7 => ?_)
      refine code_region ?_
      refine list_cons rfl (op_q (q_move rfl (by decide)) ?_)
      refine list_cons rfl (op_q (q_assign rfl (by decide)) ?_)
      refine list_nil ?_
      refine hK7 _ ?_; clear hK7 K7
      refine code_seq (fun K8 hK8 => ?_)
      refine code_region ?_
      refine list_cons rfl (op_q (q_move rfl (by decide)) ?_)
      refine list_cons rfl (op_q (q_move rfl (by decide)) ?_)
      refine list_cons rfl (op_call _ (impl_hasBar _ _ (by omega) (by omega)) rfl rfl (by decide) (by decide) (by decide) rfl ?_)
      rintro _ rfl
      refine list_nil ?_
      refine hK8 _ ?_; clear hK8 K8
      refine codeT.imp (σ' := [(0, _), (1, _), (2, _), (4, _), (5, _), (6, _), (11, _)]) ?_ (imp_covers ⟨rfl, rfl, rfl, rfl, rfl, rfl, rfl, trivial⟩)
      refine code_cond_d rfl (fun h2 => ?_) (fun h2 => ?_)
      · skip
        (try simp only [Decidable.not_not] at h2)
        refine code_region ?_
        refine list_cons rfl (op_q (q_move rfl (by decide)) ?_)
        refine list_cons rfl (op_q (q_indexAddr_arr arr_27 rfl rfl rfl (by omega) (by omega) (by decide)) ?_)
        refine list_cons rfl (op_q (q_load one_3 2 rfl rfl rfl (by first | exact get_map1 (PV.int .i64) 0 (wbK l c.toNat t6.toNat) (by rw [wbK_len]; omega) | (simp only [wbK_len, List.length_map]; omega)) (by decide)) ?_)
        refine list_cons rfl (op_q (by first | exact q_addI rfl rfl (by decide) (by omega) (by omega) | exact q_ib rfl rfl rfl (by decide)) ?_)
        refine list_cons rfl (op_q (q_indexAddr_arr arr_27 rfl rfl rfl (by omega) (by omega) (by decide)) ?_)
        refine list_cons rfl (op_store (one_3).2 2 [2] (by intro t ht; simp only [List.mem_cons, List.not_mem_nil, or_false] at ht; subst ht; rfl) (.inl rfl) rfl rfl rfl rfl rfl rfl (by first | decide | omega | exact Nat.le_refl _ | (simp only [wbK_len, List.length_map]; omega) | (simp; done) | (simp; omega)) (by decide) rfl ?_)
        refine list_nil ?_
        refine blk_n ?_
        refine hK6 _ ?_; clear hK6 K6
        refine codeT.imp (σ' := [(0, _), (1, _), (2, _), (4, _), (5, _), (6, _)]) ?_ (imp_covers ⟨rfl, rfl, rfl, rfl, rfl, rfl, trivial⟩)
        refine code_region ?_
        refine list_cons rfl (op_q (by first | exact q_addI rfl rfl (by decide) (by omega) (by omega) | exact q_ib rfl rfl rfl (by decide)) ?_)
        refine list_cons rfl (op_q (q_move rfl (by decide)) ?_)
        refine list_nil ?_
        refine then_n ⟨(_, _), imp_covers ⟨rfl, rfl, rfl, rfl, rfl, trivial⟩, ?_, ?_⟩
        · (try dsimp only)
          refine ⟨by omega, by omega, ?_⟩
          rw [show (t6 + 1).toNat = t6.toNat + 1 by omega]
          exact wbK_put (by omega) (by omega) h2 rfl
        · (try dsimp only); omega
      · skip
        (try simp only [Decidable.not_not] at h2)
        refine code_skip ?_
        refine blk_n ?_
        refine hK6 _ ?_; clear hK6 K6
        refine code_region ?_
        refine list_cons rfl (op_q (by first | exact q_addI rfl rfl (by decide) (by omega) (by omega) | exact q_ib rfl rfl rfl (by decide)) ?_)
        refine list_cons rfl (op_q (q_move rfl (by decide)) ?_)
        refine list_nil ?_
        refine then_n ⟨(_, _), imp_covers ⟨rfl, rfl, rfl, rfl, rfl, trivial⟩, ?_, ?_⟩
        · (try dsimp only)
          refine ⟨by omega, by omega, ?_⟩
          rw [show (t6 + 1).toNat = t6.toNat + 1 by omega, wbK, if_neg h2]
        · (try dsimp only); omega
    · skip
      (try simp only [Decidable.not_not] at h1)
      refine code_exit ?_
      refine then_x ?_; clear hK5 K5
      refine then_x ?_
      refine blk_hit ?_
      refine hK2 _ ?_; clear hK2 K2
      refine code_seq (fun K9 hK9 => ?_)
      refine code_region ?_
      refine list_cons rfl (op_q (q_load_agg agg_27 2 (.inr ⟨rfl, _, rfl⟩) rfl rfl (by first | exact get_map1 (PV.int .i64) 0 (wbK l c.toNat t6.toNat) (by rw [wbK_len]; omega) | (simp only [wbK_len, List.length_map]; omega)) (by first | rfl | exact flat_part (flat_map _ (fun _ => rfl) _) _ _) (by decide)) ?_)
      refine list_cons rfl (op_store (agg_27).2 4 [4] (by intro t ht; simp only [List.mem_cons, List.not_mem_nil, or_false] at ht; subst ht; rfl) (.inr ⟨rfl, _, rfl⟩) rfl rfl rfl rfl (by first | rfl | exact flat_part (flat_map _ (fun _ => rfl) _) _ _ | exact flat_map _ (fun _ => rfl) _) (by first | rfl | (simp [PV.cells, wbK_len, hl]; done)) (by first | decide | omega | exact Nat.le_refl _ | (simp only [wbK_len, List.length_map]; omega) | (simp; done) | (simp; omega)) (by decide) rfl ?_)
      refine list_nil ?_
      refine hK9 _ ?_; clear hK9 K9
      refine codeT.imp (σ' := [(0, _), (1, _), (2, _), (4, _), (6, _)]) ?_ (imp_covers ⟨rfl, rfl, rfl, rfl, rfl, trivial⟩)
      refine code_ret ?_
      refine ends_ret (cs := []) (res_agg1 (cs := (wbK l c.toNat 7).map (.int .i64)) (congrArg (fun z => some (SV.box 4 27 z)) (by rw [show t6.toNat = 7 by omega]; exact put_all (n := 7) (by simp) (by simp [wbK_len, hl]))) rfl (flat_map _ (fun _ => rfl) _) (by simp [wbK_len, hl]; rfl)) rfl rfl rfl trivial ?_
      rfl

set_option maxRecDepth 4000 in
set_option maxHeartbeats 1000000 in
theorem impl_BarShares  : PCalls Tryd.prog 14 [] (· = [.val (.agg ((shS 70).map (.int .i64)))]) := by
  refine pcalls_of_code (n := 19) az Tryd.func14 (by kernel_rfl) rfl rfl (Nat.le_of_ble_eq_true rfl) (by intro t u h; simp [Tryd.f14] at h; obtain ⟨_, rfl⟩ := h <;> first | exact resTy_agg agg_27 (by decide)) ?_
  refine code_seq (fun K1 hK1 => ?_)
  refine code_region ?_
  refine list_cons rfl (op_alloc zt_27 (by decide) (by decide) rfl ?_)
  refine list_nil ?_
  refine hK1 _ ?_; clear hK1 K1
  refine code_seq (fun K2 hK2 => ?_)
  refine code_region ?_
  refine list_cons rfl (op_alloc zt_27 (by decide) (by decide) rfl ?_)
  refine list_nil ?_
  refine hK2 _ ?_; clear hK2 K2
  refine code_seq (fun K3 hK3 => ?_)
  refine code_seq (fun K4 hK4 => ?_)
  refine code_region ?_
  refine list_cons rfl (op_q (q_move rfl (by decide)) ?_)
  refine list_nil ?_
  refine hK4 _ ?_; clear hK4 K4
  refine code_block ?_
  refine code_loop (X := List PV × Int) (fun x => [(0, .box 0 27 (List.replicate 7 (.int .i64 0))), (1, .box 1 27 x.1), (5, .val (.int .i64 x.2))]) (fun x => 0 ≤ x.2 ∧ x.2 ≤ 10 ∧ x.1 = (wS x.2.toNat).map (.int .i64)) (fun x => (10 - x.2).toNat) (_, _) (imp_covers ⟨rfl, rfl, rfl, trivial⟩) ?_ ?_
  · (try dsimp only)
    exact ⟨by omega, by omega, rfl⟩
  · intro x hI
    obtain ⟨shares_c, t5⟩ := x
    replace hI : 0 ≤ t5 ∧ t5 ≤ 10 ∧ shares_c = (wS t5.toNat).map (.int .i64) := hI
    show codeT _ _ _ [(0, .box 0 27 (List.replicate 7 (.int .i64 0))), (1, .box 1 27 shares_c), (5, .val (.int .i64 t5))] _
    obtain ⟨i1, i2, rfl⟩ := hI
    have hdc := digT_cell t5.toNat
    have hw : List.take 7 (List.drop 0 ((wS t5.toNat).map (PV.int .i64))) = (wS t5.toNat).map (PV.int .i64) := by rw [List.drop_zero, List.take_of_length_le (by simp [wS_len])]
    refine code_seq (fun K5 hK5 => ?_)
    refine code_region ?_
    refine list_cons rfl (op_q (q_lt rfl rfl (by decide)) ?_)
    refine list_nil ?_
    refine hK5 _ ?_; clear hK5 K5
    refine code_seq (fun K6 hK6 => ?_)
    refine code_cond_d rfl (fun h1 => ?_) (fun h1 => ?_)
    · skip
      (try simp only [Decidable.not_not] at h1)
      refine code_skip ?_
      refine hK6 _ ?_; clear hK6 K6
      refine code_seq (fun K7 hK7 => ?_)
      refine code_block ?_
      refine code_seq (fun K8 hK8 => ?_)
      refine code_region ?_
      refine list_cons rfl (op_q (q_move rfl (by decide)) ?_)
      refine list_cons rfl (op_q (q_assign rfl (by decide)) ?_)
      refine list_nil ?_
      refine hK8 _ ?_; clear hK8 K8
      refine code_seq (fun K9 hK9 => ?_)
      refine code_region ?_
      refine list_cons rfl (op_q (q_move rfl (by decide)) ?_)
      refine list_cons rfl (op_call _ (impl_CellOf t5) rfl rfl (by decide) (by decide) (by decide) rfl ?_)
      rintro _ rfl; simp only [if_pos (show 0 ≤ t5 ∧ t5 ≤ 9 by omega), decide_eq_true (show 0 ≤ t5 ∧ t5 ≤ 9 by omega)]
      refine list_cons rfl (op_q (q_move rfl (by decide)) ?_)
      refine list_cons rfl (op_q (q_extract rfl rfl (by decide)) ?_)
      refine list_cons rfl (op_q (q_extract rfl rfl (by decide)) ?_)
      refine list_cons rfl (op_q (q_assign rfl (by decide)) ?_)
      refine list_cons rfl (op_q (q_assign rfl (by decide)) ?_)
      refine list_nil ?_
      refine hK9 _ ?_; clear hK9 K9
      refine codeT.imp (σ' := [(0, _), (1, _), (2, _), (3, _), (4, _), (5, _)]) ?_ (imp_covers ⟨rfl, rfl, rfl, rfl, rfl, rfl, trivial⟩)
      refine code_seq (fun K10 hK10 => ?_)
      refine code_region ?_
      refine list_cons rfl (op_q (q_move rfl (by decide)) ?_)
      refine list_nil ?_
      refine hK10 _ ?_; clear hK10 K10
      refine code_cond_t rfl ?_
      refine code_region ?_
      refine list_cons rfl (op_q (q_load_agg agg_27 1 (.inr ⟨rfl, _, rfl⟩) rfl rfl (by simp [wS_len]) (by first | rfl | exact flat_part (flat_map _ (fun _ => rfl) _) _ _) (by decide)) ?_)
      refine list_cons rfl (op_q (q_move rfl (by decide)) ?_)
      refine list_cons rfl (op_call _ ((by rw [hw]; exact impl_withBars (wS t5.toNat) _ t5.toNat (wS_len _) (wS_le _) (by omega) hdc)) rfl rfl (by decide) (by decide) (by decide) rfl ?_)
      rintro _ rfl
      refine list_cons rfl (op_store (agg_27).2 1 [1] (by intro t ht; simp only [List.mem_cons, List.not_mem_nil, or_false] at ht; subst ht; rfl) (.inr ⟨rfl, _, rfl⟩) rfl rfl rfl rfl (by first | rfl | exact flat_part (flat_map _ (fun _ => rfl) _) _ _ | exact flat_map _ (fun _ => rfl) _) (by first | rfl | (simp [PV.cells, wbK_len, wS_len]; done)) (by first | decide | omega | exact Nat.le_refl _ | (simp only [wS_len, List.length_map]; omega) | (simp; done) | (simp; omega)) (by decide) rfl ?_)
      refine list_nil ?_
      refine blk_n ?_
      refine hK7 _ ?_; clear hK7 K7
      refine codeT.imp (σ' := [(0, _), (1, _), (2, _), (3, _), (4, _), (5, _)]) ?_ (imp_covers ⟨rfl, rfl, rfl, rfl, rfl, rfl, trivial⟩)
      refine code_region ?_
      refine list_cons rfl (op_q (by first | exact q_addI rfl rfl (by decide) (by omega) (by omega) | exact q_ib rfl rfl rfl (by decide)) ?_)
      refine list_cons rfl (op_q (q_move rfl (by decide)) ?_)
      refine list_nil ?_
      refine then_n ⟨(_, _), imp_covers ⟨rfl, rfl, rfl, trivial⟩, ?_, ?_⟩
      · (try dsimp only)
        refine ⟨by omega, by omega, ?_⟩
        rw [show (t5 + 1).toNat = t5.toNat + 1 by omega]
        exact put_new (n := 7) (by simp [wS_len]) (by simp [wbK_len, wS_len])
      · (try dsimp only); omega
    · skip
      (try simp only [Decidable.not_not] at h1)
      refine code_exit ?_
      refine then_x ?_; clear hK6 K6
      refine then_x ?_
      refine blk_hit ?_
      refine hK3 _ ?_; clear hK3 K3
      refine code_seq (fun K11 hK11 => ?_)
      refine code_region ?_
      refine list_cons rfl (op_q (q_load_agg agg_27 1 (.inr ⟨rfl, _, rfl⟩) rfl rfl (by simp [wS_len]) (by first | rfl | exact flat_part (flat_map _ (fun _ => rfl) _) _ _) (by decide)) ?_)
      refine list_cons rfl (op_store (agg_27).2 0 [0] (by intro t ht; simp only [List.mem_cons, List.not_mem_nil, or_false] at ht; subst ht; rfl) (.inr ⟨rfl, _, rfl⟩) rfl rfl rfl rfl (by first | rfl | exact flat_part (flat_map _ (fun _ => rfl) _) _ _ | exact flat_map _ (fun _ => rfl) _) (by first | rfl | (simp [PV.cells, wbK_len, wS_len]; done)) (by first | decide | omega | exact Nat.le_refl _ | (simp only [wS_len, List.length_map]; omega) | (simp; done) | (simp; omega)) (by decide) rfl ?_)
      refine list_nil ?_
      refine hK11 _ ?_; clear hK11 K11
      refine codeT.imp (σ' := [(0, _), (1, _), (5, _)]) ?_ (imp_covers ⟨rfl, rfl, rfl, trivial⟩)
      refine code_ret ?_
      refine ends_ret (cs := []) (res_agg1 (cs := (shS 70).map (.int .i64)) (congrArg (fun z => some (SV.box 0 27 z)) (by rw [show t5.toNat = 10 by omega, wS_sh]; exact put_all (n := 7) (by simp) (by simp [shS_len]))) rfl (flat_map _ (fun _ => rfl) _) (by simp [shS_len]; rfl)) rfl rfl rfl trivial ?_
      rfl

end Go.Proofs.YtahjedckfkkcnabDoor
