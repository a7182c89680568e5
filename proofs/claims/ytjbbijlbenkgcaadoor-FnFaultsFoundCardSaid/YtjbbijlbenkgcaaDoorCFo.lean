/- Contracts of functions, walked over the pure layer; each says for which arguments. -/
import Derived.Test.YtjbbijlbenkgcaaDoorCFoTy
import Derived.Test.YtjbbijlbenkgcaaDoorTf
import Derived.Test.YtjbbijlbenkgcaaDoorSp
import Derived.Test.YtjbbijlbenkgcaaDoorS3
import Derived.Test.YtjbbijlbenkgcaaDoorShelf
import Derived.Test.YtjbbijlbenkgcaaDoorIm
import Derived.Test.YtjbbijlbenkgcaaDoorS3b
import Derived.Test.YtjbbijlbenkgcaaDoorS3d
import Derived.Test.YtjbbijlbenkgcaaDoorIm3f
import Derived.Test.YtjbbijlbenkgcaaDoorIm3g
import Derived.Test.YtjbbijlbenkgcaaDoorS3c
namespace Go.Proofs.YtjbbijlbenkgcaaDoor
open Go.RowKit CFoTy
set_option linter.unusedVariables false
set_option linter.unusedSimpArgs false

def fxOf (j : Nat) : Int := ((j / 128 : Nat) : Int)
def fyOf (j : Nat) : Int := ((j % 128 : Nat) : Int)
theorem fx_at {d l : Int} (d0 : 0 ≤ d) (l0 : 0 ≤ l) (l1 : l < 128) : fxOf (d.toNat * 128 + l.toNat) = d ∧ fyOf (d.toNat * 128 + l.toNat) = l := by
  unfold fxOf fyOf; omega
def fltA (k : Nat) : List Nat := (List.range k).filter fun j => decide (FaultP (fxOf j) (fyOf j))
theorem fltA_yes {k : Nat} (h : FaultP (fxOf k) (fyOf k)) : fltA (k + 1) = fltA k ++ [k] := by
  unfold fltA; rw [List.range_succ, List.filter_append, List.filter_cons, if_pos (decide_eq_true h)]; rfl
theorem fltA_no {k : Nat} (h : ¬ FaultP (fxOf k) (fyOf k)) : fltA (k + 1) = fltA k := by
  unfold fltA; rw [List.range_succ, List.filter_append, List.filter_cons, if_neg (fun e => h (of_decide_eq_true e))]; simp
theorem fltA_get {x : Nat} (hp : FaultP (fxOf x) (fyOf x)) : ∀ m, x < m → (fltA m)[(fltA x).length]? = some x
  | 0, h => absurd h (Nat.not_lt_zero x)
  | m + 1, h => by
    by_cases e : x = m
    · subst e; rw [fltA_yes hp, List.getElem?_append_right (Nat.le_refl _), Nat.sub_self]; rfl
    · have ih := fltA_get hp m (by omega)
      by_cases c : FaultP (fxOf m) (fyOf m)
      · rw [fltA_yes c]
        have hl : (fltA x).length < (fltA m).length := by
          by_cases hc : (fltA x).length < (fltA m).length
          · exact hc
          · rw [List.getElem?_eq_none (by omega)] at ih; cases ih
        rw [List.getElem?_append_left hl]; exact ih
      · rw [fltA_no c]; exact ih
def fE (i : Nat) : List PV := [.agg [.int .i64 (fxOf ((fltA 16384).getD i 0)), .int .i64 (fyOf ((fltA 16384).getD i 0))]]
theorem fE_lt {d l : Int} (d0 : 0 ≤ d) (d1 : d < 128) (l0 : 0 ≤ l) (l1 : l < 128) (h : FaultP d l) : (fltA (d.toNat * 128 + l.toNat)).length < (fltA 16384).length := by
  have e := fx_at d0 l0 l1
  have k := fltA_get (x := d.toNat * 128 + l.toNat) (by rw [e.1, e.2]; exact h) 16384 (by omega)
  by_cases hc : (fltA (d.toNat * 128 + l.toNat)).length < (fltA 16384).length
  · exact hc
  · rw [List.getElem?_eq_none (by omega)] at k; cases k
theorem fE_at {d l : Int} (d0 : 0 ≤ d) (d1 : d < 128) (l0 : 0 ≤ l) (l1 : l < 128) (h : FaultP d l) : fE (fltA (d.toNat * 128 + l.toNat)).length = [.agg [.int .i64 d, .int .i64 l]] := by
  have e := fx_at d0 l0 l1
  have k := fltA_get (x := d.toNat * 128 + l.toNat) (by rw [e.1, e.2]; exact h) 16384 (by omega)
  unfold fE
  rw [List.getD_eq_getElem?_getD, k, Option.getD_some, e.1, e.2]
theorem fE_yes {d l : Int} (d0 : 0 ≤ d) (l0 : 0 ≤ l) (l1 : l < 128) (h : FaultP d l) : (fltA (d.toNat * 128 + l.toNat)).length + 1 = (fltA (d.toNat * 128 + (l + 1).toNat)).length := by
  have e := fx_at d0 l0 l1
  rw [show d.toNat * 128 + (l + 1).toNat = d.toNat * 128 + l.toNat + 1 by omega, fltA_yes (by rw [e.1, e.2]; exact h), List.length_append]; rfl
theorem fE_no {d l : Int} (d0 : 0 ≤ d) (l0 : 0 ≤ l) (l1 : l < 128) (h : ¬ FaultP d l) : (fltA (d.toNat * 128 + l.toNat)).length = (fltA (d.toNat * 128 + (l + 1).toNat)).length := by
  have e := fx_at d0 l0 l1
  rw [show d.toNat * 128 + (l + 1).toNat = d.toNat * 128 + l.toNat + 1 by omega, fltA_no (by rw [e.1, e.2]; exact h)]
theorem fE_ok {i : Nat} (h : i < (fltA 16384).length) : FaultP (fxOf ((fltA 16384).getD i 0)) (fyOf ((fltA 16384).getD i 0)) := by
  rw [List.getD_eq_getElem?_getD, List.getElem?_eq_getElem h, Option.getD_some]
  have := List.getElem_mem h
  unfold fltA at this
  exact of_decide_eq_true (List.mem_filter.1 this).2
theorem fltA_len (k : Nat) : (fltA k).length ≤ k := by
  unfold fltA; exact Nat.le_trans (List.length_filter_le _ _) (by simp)
def hOk (s : Int) (j : Nat) : Bool := decide (((cnt7 (fxOf j).toNat + cnt7 (fyOf j).toNat : Nat) : Int) = s ∧ (grp (fxOf j) (fyOf j)).length = 10)
def cHi (s : Int) (i : Nat) : Nat := ((fltA 16384).take i).countP (hOk s)
theorem cHi_le (s : Int) (i : Nat) : cHi s i ≤ i := by
  unfold cHi
  exact Nat.le_trans List.countP_le_length (by rw [List.length_take]; omega)
theorem cHi_succ (s : Int) {i : Nat} (h : i < (fltA 16384).length) : cHi s (i + 1) = cHi s i + if hOk s ((fltA 16384).getD i 0) = true then 1 else 0 := by
  unfold cHi
  rw [List.take_add_one, List.getElem?_eq_getElem h, List.countP_append, List.getD_eq_getElem?_getD, List.getElem?_eq_getElem h, Option.getD_some, Option.toList_some, List.countP_singleton]
theorem cHi_yes (s : Int) {i : Nat} (h : i < (fltA 16384).length) (k : ((cnt7 (fxOf ((fltA 16384).getD i 0)).toNat + cnt7 (fyOf ((fltA 16384).getD i 0)).toNat : Nat) : Int) = s ∧ (grp (fxOf ((fltA 16384).getD i 0)) (fyOf ((fltA 16384).getD i 0))).length = 10) : ((cHi s i : Nat) : Int) + 1 = ((cHi s (i + 1) : Nat) : Int) := by
  have e : hOk s ((fltA 16384).getD i 0) = true := decide_eq_true k
  rw [cHi_succ s h, if_pos e]; rfl
theorem cHi_no (s : Int) {i : Nat} (h : i < (fltA 16384).length) (k : ¬ (((cnt7 (fxOf ((fltA 16384).getD i 0)).toNat + cnt7 (fyOf ((fltA 16384).getD i 0)).toNat : Nat) : Int) = s ∧ (grp (fxOf ((fltA 16384).getD i 0)) (fyOf ((fltA 16384).getD i 0))).length = 10)) : ((cHi s i : Nat) : Int) = ((cHi s (i + 1) : Nat) : Int) := by
  have e : ¬ hOk s ((fltA 16384).getD i 0) = true := fun e => k (of_decide_eq_true e)
  rw [cHi_succ s h, if_neg e]; rfl
def cHs (s : Int) (k : Nat) : Nat := (fltA k).countP (hOk s)
theorem cHs_end (s : Int) : cHi s (fltA 16384).length = cHs s 16384 := by
  unfold cHi cHs; rw [List.take_length]
theorem cHs_yes (s : Int) {d l : Int} (d0 : 0 ≤ d) (l0 : 0 ≤ l) (l1 : l < 128) (h : FaultP d l) (h1 : ((cnt7 d.toNat + cnt7 l.toNat : Nat) : Int) = s) (h2 : (grp d l).length = 10) : ((cHs s (d.toNat * 128 + l.toNat) : Nat) : Int) + 1 = ((cHs s (d.toNat * 128 + (l + 1).toNat) : Nat) : Int) := by
  have e := fx_at d0 l0 l1
  unfold cHs
  rw [show d.toNat * 128 + (l + 1).toNat = d.toNat * 128 + l.toNat + 1 by omega, fltA_yes (by rw [e.1, e.2]; exact h), List.countP_append, List.countP_singleton, if_pos (by unfold hOk; rw [e.1, e.2]; exact decide_eq_true ⟨h1, h2⟩)]; rfl
theorem cHs_no (s : Int) {d l : Int} (d0 : 0 ≤ d) (l0 : 0 ≤ l) (l1 : l < 128) (h : ¬ (FaultP d l ∧ ((cnt7 d.toNat + cnt7 l.toNat : Nat) : Int) = s ∧ (grp d l).length = 10)) : ((cHs s (d.toNat * 128 + l.toNat) : Nat) : Int) = ((cHs s (d.toNat * 128 + (l + 1).toNat) : Nat) : Int) := by
  have e := fx_at d0 l0 l1
  unfold cHs
  rw [show d.toNat * 128 + (l + 1).toNat = d.toNat * 128 + l.toNat + 1 by omega]
  by_cases c : FaultP d l
  · rw [fltA_yes (by rw [e.1, e.2]; exact c), List.countP_append, List.countP_singleton, if_neg (by unfold hOk; rw [e.1, e.2]; exact fun k => h ⟨c, of_decide_eq_true k⟩)]; rfl
  · rw [fltA_no (by rw [e.1, e.2]; exact c)]
theorem cHs_le (s : Int) (k : Nat) : cHs s k ≤ k := Nat.le_trans List.countP_le_length (fltA_len k)
theorem cnt7_or {x y : Int} (h : FaultP x y) : cnt7 (x.toNat ||| y.toNat) = cnt7 x.toNat + cnt7 y.toNat := by
  have k : below 128 (fun x => below 128 (fun y => !Nat.beq (x &&& y) 0 || Nat.beq (cnt7 (x ||| y)) (cnt7 x + cnt7 y))) = true := by kernel_rfl
  have hb := h.b
  have k2 := below_ok (below_ok k x.toNat (by omega)) y.toNat (by omega)
  rw [h.2.2] at k2
  exact Nat.eq_of_beq_eq_true (by simpa using k2)

set_option maxRecDepth 4000 in
theorem allFaults_it  : ITer Tryd.prog 72 [] ((fltA 16384).length) (fE) := by
  refine iter_of_code (n := 24) Tryd.func72 (by kernel_rfl) rfl rfl (Nat.le_of_ble_eq_true rfl) rfl (fun Y hYN hYe => ?_)
  refine codeY_imp (σ' := [(0, _)]) rfl (imp_covers ⟨rfl, trivial⟩) ?_
  refine codeY_seq (fun K1 hK1 => ?_)
  refine codeY_of rfl rfl ?_
  refine code_region ?_
  refine list_cons rfl (op_q (q_move rfl (by decide)) ?_)
  refine list_nil ?_
  refine thy_n ?_
  refine hK1 _ _ ?_; clear hK1 K1
  refine codeY_imp (σ' := [(0, _), (5, _)]) rfl (imp_covers ⟨rfl, rfl, trivial⟩) ?_
  refine codeY_block ?_
  refine codeY_loop (X := Int) (fun x => [(0, .yld Y.l), (5, .val (.int .i64 x))]) (fun x => (false, (fltA (x.toNat * 128)).length)) (fun x => 0 ≤ x ∧ x ≤ 128) (fun x => (128 - x).toNat) (_) rfl (imp_covers ⟨rfl, rfl, trivial⟩) rfl ?_ ?_
  · (try dsimp only)
    exact ⟨by omega, by omega⟩
  · intro x hI
    revert hI; revert x; intro t5 hI
    replace hI : 0 ≤ t5 ∧ t5 ≤ 128 := hI
    show codeY _ _ _ [(0, .yld Y.l), (5, .val (.int .i64 t5))] (false, (fltA (t5.toNat * 128)).length) _
    obtain ⟨i1, i2⟩ := hI
    refine codeY_seq (fun K2 hK2 => ?_)
    refine codeY_of rfl rfl ?_
    refine code_region ?_
    refine list_cons rfl (op_q (q_lt rfl rfl (by decide)) ?_)
    refine list_nil ?_
    refine thy_n ?_
    refine hK2 _ _ ?_; clear hK2 K2
    refine codeY_imp (σ' := [(0, _), (5, _), (6, _)]) rfl (imp_covers ⟨rfl, rfl, rfl, trivial⟩) ?_
    refine codeY_seq (fun K3 hK3 => ?_)
    refine codeY_of rfl rfl ?_
    refine code_cond_d rfl (fun h1 => ?_) (fun h1 => ?_)
    · skip
      (try have qh1 := fE_lt (by omega) (by omega) (by omega) (by omega) h1)
      refine code_skip ?_
      refine thy_n ?_
      refine hK3 _ _ ?_; clear hK3 K3
      refine codeY_imp (σ' := [(0, _), (5, _)]) rfl (imp_covers ⟨rfl, rfl, trivial⟩) ?_
      refine codeY_seq (fun K4 hK4 => ?_)
      refine codeY_block ?_
      refine codeY_seq (fun K5 hK5 => ?_)
      refine codeY_of rfl rfl ?_
      refine code_region ?_
      refine list_cons rfl (op_q (q_move rfl (by decide)) ?_)
      refine list_cons rfl (op_q (q_assign rfl (by decide)) ?_)
      refine list_nil ?_
      refine thy_n ?_
      refine hK5 _ _ ?_; clear hK5 K5
      refine codeY_imp (σ' := [(0, _), (2, _), (5, _)]) rfl (imp_covers ⟨rfl, rfl, rfl, trivial⟩) ?_
      refine codeY_seq (fun K6 hK6 => ?_)
      refine codeY_of rfl rfl ?_
      refine code_region ?_
      refine list_cons rfl (op_q (q_move rfl (by decide)) ?_)
      refine list_nil ?_
      refine thy_n ?_
      refine hK6 _ _ ?_; clear hK6 K6
      refine codeY_imp (σ' := [(0, _), (2, _), (5, _), (8, _)]) rfl (imp_covers ⟨rfl, rfl, rfl, rfl, trivial⟩) ?_
      refine codeY_block ?_
      refine codeY_loop (X := Int) (fun x => [(0, .yld Y.l), (2, .val (.int .i64 t5)), (5, .val (.int .i64 t5)), (8, .val (.int .i64 x))]) (fun x => (false, (fltA (t5.toNat * 128 + x.toNat)).length)) (fun x => 0 ≤ x ∧ x ≤ 128) (fun x => (128 - x).toNat) (_) rfl (imp_covers ⟨rfl, rfl, rfl, rfl, trivial⟩) rfl ?_ ?_
      · (try dsimp only)
        exact ⟨by omega, by omega⟩
      · intro x hI
        revert hI; revert x; intro t8 hI
        replace hI : 0 ≤ t8 ∧ t8 ≤ 128 := hI
        show codeY _ _ _ [(0, .yld Y.l), (2, .val (.int .i64 t5)), (5, .val (.int .i64 t5)), (8, .val (.int .i64 t8))] (false, (fltA (t5.toNat * 128 + t8.toNat)).length) _
        obtain ⟨j1, j2⟩ := hI
        refine codeY_seq (fun K7 hK7 => ?_)
        refine codeY_of rfl rfl ?_
        refine code_region ?_
        refine list_cons rfl (op_q (q_lt rfl rfl (by decide)) ?_)
        refine list_nil ?_
        refine thy_n ?_
        refine hK7 _ _ ?_; clear hK7 K7
        refine codeY_imp (σ' := [(0, _), (2, _), (5, _), (8, _), (9, _)]) rfl (imp_covers ⟨rfl, rfl, rfl, rfl, rfl, trivial⟩) ?_
        refine codeY_seq (fun K8 hK8 => ?_)
        refine codeY_of rfl rfl ?_
        refine code_cond_d rfl (fun h2 => ?_) (fun h2 => ?_)
        · skip
          (try have qh2 := fE_lt (by omega) (by omega) (by omega) (by omega) h2)
          refine code_skip ?_
          refine thy_n ?_
          refine hK8 _ _ ?_; clear hK8 K8
          refine codeY_imp (σ' := [(0, _), (2, _), (5, _), (8, _)]) rfl (imp_covers ⟨rfl, rfl, rfl, rfl, trivial⟩) ?_
          refine codeY_seq (fun K9 hK9 => ?_)
          refine codeY_block ?_
          refine codeY_seq (fun K10 hK10 => ?_)
          refine codeY_of rfl rfl ?_
          refine code_region ?_
          refine list_cons rfl (op_q (q_move rfl (by decide)) ?_)
          refine list_cons rfl (op_q (q_assign rfl (by decide)) ?_)
          refine list_nil ?_
          refine thy_n ?_
          refine hK10 _ _ ?_; clear hK10 K10
          refine codeY_imp (σ' := [(0, _), (2, _), (3, _), (5, _), (8, _)]) rfl (imp_covers ⟨rfl, rfl, rfl, rfl, rfl, trivial⟩) ?_
          refine codeY_seq (fun K11 hK11 => ?_)
          refine codeY_of rfl rfl ?_
          refine code_region ?_
          refine list_cons rfl (op_q (q_move rfl (by decide)) ?_)
          refine list_cons rfl (op_q (q_move rfl (by decide)) ?_)
          refine list_cons rfl (op_q (q_build bt_42 (parts := [(0, .tmp 11), (1, .tmp 12)]) rfl rfl (by decide)) ?_)
          refine list_cons rfl (op_alloc zt_42 (by decide) (by decide) rfl ?_)
          refine list_cons rfl (op_store (agg_42).2 4 [4] (by intro t ht; simp only [List.mem_cons, List.not_mem_nil, or_false] at ht; subst ht; rfl) (.inr ⟨rfl, _, rfl⟩) rfl rfl rfl rfl (by first | rfl | exact flat_part (flat_map _ (fun _ => rfl) _) _ _ | exact flat_map _ (fun _ => rfl) _) (by first | rfl | (simp [PV.cells]; done)) (by first | decide | omega | exact Nat.le_refl _ | (simp; done) | (simp; omega)) (by decide) rfl ?_)
          refine list_nil ?_
          refine thy_n ?_
          refine hK11 _ _ ?_; clear hK11 K11
          refine codeY_imp (σ' := [(0, _), (2, _), (3, _), (4, _), (5, _), (8, _)]) rfl (imp_covers ⟨rfl, rfl, rfl, rfl, rfl, rfl, trivial⟩) ?_
          refine codeY_seq (fun K12 hK12 => ?_)
          refine codeY_region ?_
          refine listY_op rfl rfl (op_q (q_load_agg agg_42 4 (.inr ⟨rfl, _, rfl⟩) rfl rfl (by first | decide | omega | exact Nat.le_refl _ | (simp; done) | (simp; omega)) (by first | rfl | exact flat_part (flat_map _ (fun _ => rfl) _) _ _) (by decide)) ?_)
          refine listY_op rfl rfl (op_call _ (impl_IsFault _ _) rfl rfl (by decide) (by decide) (by decide) rfl ?_)
          rintro _ rfl
          refine listY_op rfl rfl (op_q (q_move rfl (by decide)) ?_)
          refine listY_split (dj := 16) rfl (fun h3 => ?_) (fun h3 => ?_)
          · skip
            (try have qh3 := fE_lt (by omega) (by omega) (by omega) (by omega) h3)
            refine listY_guard_y rfl rfl rfl (by decide) rfl (op_q (q_move rfl (by decide)) ?_)
            refine listY_guard_y rfl rfl rfl (by decide) rfl (op_q (q_load_agg agg_42 4 (.inr ⟨rfl, _, rfl⟩) rfl rfl (by first | decide | omega | exact Nat.le_refl _ | (simp; done) | (simp; omega)) (by first | rfl | exact flat_part (flat_map _ (fun _ => rfl) _) _ _) (by decide)) ?_)
            refine listY_yieldG (k := (fltA (t5.toNat * 128 + t8.toNat)).length) rfl rfl (by rw [hYe]; exact congrArg some (fE_at (by omega) (by omega) (by omega) (by omega) (by assumption)).symm) (by rw [hYe]; rfl) (by rw [hYN]; omega) rfl (by decide) (.inr ⟨_, _, _, rfl, rfl, rfl, by decide⟩) ?_ ?_
            · skip
              refine listY_guard_y rfl rfl rfl (by decide) rfl (op_q (by first | exact q_notd rfl (by decide) | exact q_not rfl (by decide)) ?_)
              refine listY_op rfl rfl (op_q (q_pick rfl rfl (by decide)) ?_)
              refine listY_nil ?_
              refine thy_n ?_
              refine hK12 _ _ ?_; clear hK12 K12
              refine codeY_imp (σ' := [(0, _), (2, _), (3, _), (4, _), (5, _), (8, _), (21, _)]) rfl (imp_covers ⟨rfl, rfl, rfl, rfl, rfl, rfl, rfl, trivial⟩) ?_
              refine codeY_of rfl rfl ?_
              refine code_cond_f rfl ?_
              refine code_skip ?_
              refine bly_n ?_
              refine thy_n ?_
              refine hK9 _ _ ?_; clear hK9 K9
              refine codeY_imp (σ' := [(0, _), (2, _), (3, _), (4, _), (5, _), (8, _)]) rfl (imp_covers ⟨rfl, rfl, rfl, rfl, rfl, rfl, trivial⟩) ?_
              refine codeY_of rfl rfl ?_
              refine code_region ?_
              refine list_cons rfl (op_q (by first | exact q_addI rfl rfl (by decide) (by omega) (by omega) | exact q_ib rfl rfl rfl (by decide)) ?_)
              refine list_cons rfl (op_q (q_move rfl (by decide)) ?_)
              refine list_nil ?_
              refine thy_n ⟨(_), rfl, imp_covers ⟨rfl, rfl, rfl, rfl, trivial⟩, ?_, ?_, ?_⟩
              · (try dsimp only); first | rw [fE_yes (by omega) (by omega) (by omega) (by assumption)] | rw [fE_no (by omega) (by omega) (by omega) (by assumption)]
              · (try dsimp only)
                exact ⟨by omega, by omega⟩
              · (try dsimp only); omega
            · skip
              refine listY_guard_y rfl rfl rfl (by decide) rfl (op_q (by first | exact q_notd rfl (by decide) | exact q_not rfl (by decide)) ?_)
              refine listY_op rfl rfl (op_q (q_pick rfl rfl (by decide)) ?_)
              refine listY_nil ?_
              refine thy_n ?_
              refine hK12 _ _ ?_; clear hK12 K12
              refine codeY_imp (σ' := [(0, _), (2, _), (3, _), (4, _), (5, _), (8, _), (21, _)]) rfl (imp_covers ⟨rfl, rfl, rfl, rfl, rfl, rfl, rfl, trivial⟩) ?_
              refine codeY_of rfl rfl ?_
              refine code_cond_t rfl ?_
              refine code_ret ?_
              refine bly_r ?_
              refine thy_r ?_
              refine thy_r ?_
              refine bly_r ?_
              refine bly_r ?_
              refine thy_r ?_
              refine thy_r ?_
              refine bly_r ?_
              exact ⟨.inr rfl, .inl ⟨rfl, by (try dsimp only); omega⟩⟩
          · skip
            (try have qh3 := fE_lt (by omega) (by omega) (by omega) (by omega) h3)
            refine listY_guard_n rfl rfl rfl rfl (by decide) (by decide) ?_
            refine listY_guard_n rfl rfl rfl rfl (by decide) (by decide) ?_
            refine listY_guard_n rfl rfl rfl rfl (by decide) (by decide) ?_
            refine listY_guard_n rfl rfl rfl rfl (by decide) (by decide) ?_
            refine listY_op rfl rfl (op_q (q_pick rfl rfl (by decide)) ?_)
            refine listY_nil ?_
            refine thy_n ?_
            refine hK12 _ _ ?_; clear hK12 K12
            refine codeY_imp (σ' := [(0, _), (2, _), (3, _), (4, _), (5, _), (8, _), (21, _)]) rfl (imp_covers ⟨rfl, rfl, rfl, rfl, rfl, rfl, rfl, trivial⟩) ?_
            refine codeY_of rfl rfl ?_
            refine code_cond_f rfl ?_
            refine code_skip ?_
            refine bly_n ?_
            refine thy_n ?_
            refine hK9 _ _ ?_; clear hK9 K9
            refine codeY_imp (σ' := [(0, _), (2, _), (3, _), (4, _), (5, _), (8, _)]) rfl (imp_covers ⟨rfl, rfl, rfl, rfl, rfl, rfl, trivial⟩) ?_
            refine codeY_of rfl rfl ?_
            refine code_region ?_
            refine list_cons rfl (op_q (by first | exact q_addI rfl rfl (by decide) (by omega) (by omega) | exact q_ib rfl rfl rfl (by decide)) ?_)
            refine list_cons rfl (op_q (q_move rfl (by decide)) ?_)
            refine list_nil ?_
            refine thy_n ⟨(_), rfl, imp_covers ⟨rfl, rfl, rfl, rfl, trivial⟩, ?_, ?_, ?_⟩
            · (try dsimp only); first | rw [fE_yes (by omega) (by omega) (by omega) (by assumption)] | rw [fE_no (by omega) (by omega) (by omega) (by assumption)]
            · (try dsimp only)
              exact ⟨by omega, by omega⟩
            · (try dsimp only); omega
        · skip
          (try have qh2 := fE_lt (by omega) (by omega) (by omega) (by omega) h2)
          refine code_exit ?_
          refine thy_x ?_; clear hK8 K8
          refine thy_x ?_
          refine bly_hit ?_
          refine bly_n ?_
          refine thy_n ?_
          refine hK4 _ _ ?_; clear hK4 K4
          refine codeY_imp (σ' := [(0, _), (2, _), (5, _), (8, _)]) rfl (imp_covers ⟨rfl, rfl, rfl, rfl, trivial⟩) ?_
          refine codeY_of rfl rfl ?_
          refine code_region ?_
          refine list_cons rfl (op_q (by first | exact q_addI rfl rfl (by decide) (by omega) (by omega) | exact q_ib rfl rfl rfl (by decide)) ?_)
          refine list_cons rfl (op_q (q_move rfl (by decide)) ?_)
          refine list_nil ?_
          refine thy_n ⟨(_), rfl, imp_covers ⟨rfl, rfl, trivial⟩, ?_, ?_, ?_⟩
          · (try dsimp only); rw [show (t5 + 1).toNat * 128 = t5.toNat * 128 + t8.toNat by omega]
          · (try dsimp only)
            exact ⟨by omega, by omega⟩
          · (try dsimp only); omega
    · skip
      (try have qh1 := fE_lt (by omega) (by omega) (by omega) (by omega) h1)
      refine code_exit ?_
      refine thy_x ?_; clear hK3 K3
      refine thy_x ?_
      refine bly_hit ?_
      exact ⟨.inl rfl, .inr (by rw [show t5.toNat * 128 = 16384 by omega])⟩

theorem shB_bitO {x y c i : Nat} (hx : x < 128) (hc : c < 128) : (shB x y c).testBit i = ((c.testBit i && !x.testBit i) || y.testBit i) := by
  unfold shB
  rw [← xor_sub7 c x hc hx, Nat.testBit_or, Nat.testBit_xor, Nat.testBit_and]
  cases c.testBit i <;> cases x.testBit i <;> rfl
theorem shB_ltO {x y c : Nat} (hy : y < 128) (hc : c < 128) : shB x y c < 128 := by
  unfold shB
  exact @Nat.or_lt_two_pow _ _ 7 (by omega) hy
theorem bits7O {a b : Nat} (ha : a < 128) (hb : b < 128) (h : ∀ i, i < 7 → a.testBit i = b.testBit i) : a = b := by
  apply Nat.eq_of_testBit_eq
  intro i
  by_cases hi : i < 7
  · exact h i hi
  · have e : ∀ x : Nat, x < 128 → x.testBit i = false := fun x hx => Nat.testBit_lt_two_pow (Nat.lt_of_lt_of_le hx (Nat.pow_le_pow_right (n := 2) (by omega) (show 7 ≤ i by omega)))
    rw [e a ha, e b hb]
theorem and_bit0O {x y : Nat} (h : x &&& y = 0) (i : Nat) : (x.testBit i && y.testBit i) = false := by
  have := congrArg (fun z => z.testBit i) h
  simpa [Nat.testBit_and] using this
theorem seen_iff {x y c s : Nat} (hx : x < 128) (hy : y < 128) (hc : c < 128) (hs : s < 128) (hxy : x &&& y = 0) : (x &&& c = c ^^^ (c &&& s) ∧ y ^^^ (y &&& c) = s ^^^ (s &&& c)) ↔ shB x y c = s := by
  constructor
  · rintro ⟨h1, h2⟩
    refine bits7O (shB_ltO hy hc) hs fun i hi => ?_
    rw [shB_bitO hx hc]
    have k1 := congrArg (fun z => z.testBit i) h1
    have k2 := congrArg (fun z => z.testBit i) h2
    have k3 := and_bit0O hxy i
    simp only [Nat.testBit_and, Nat.testBit_xor] at k1 k2
    revert k1 k2 k3
    cases x.testBit i <;> cases y.testBit i <;> cases c.testBit i <;> cases s.testBit i <;> simp
  · rintro rfl
    have hl := shB_ltO (x := x) hy hc
    have ha : ∀ {a b : Nat}, a < 128 → a &&& b < 128 := fun h => Nat.lt_of_le_of_lt Nat.and_le_left h
    constructor
    · refine bits7O (ha hx) (@Nat.xor_lt_two_pow _ _ 7 hc (ha hc)) fun i hi => ?_
      have k3 := and_bit0O hxy i
      rw [Nat.testBit_and, Nat.testBit_xor, Nat.testBit_and, shB_bitO hx hc]
      revert k3
      cases x.testBit i <;> cases y.testBit i <;> cases c.testBit i <;> simp
    · refine bits7O (@Nat.xor_lt_two_pow _ _ 7 hy (ha hy)) (@Nat.xor_lt_two_pow _ _ 7 hl (ha hl)) fun i hi => ?_
      have k3 := and_bit0O hxy i
      rw [Nat.testBit_xor, Nat.testBit_and, Nat.testBit_xor, Nat.testBit_and, shB_bitO hx hc]
      revert k3
      cases x.testBit i <;> cases y.testBit i <;> cases c.testBit i <;> simp
theorem seen_int {fx fy c s : Int} (hF : FaultP fx fy) (hc : 0 ≤ c ∧ c ≤ 127) (hs : 0 ≤ s ∧ s ≤ 127) : (((fx.toNat &&& c.toNat : Nat) : Int) = ((c.toNat ^^^ (c.toNat &&& s.toNat) : Nat) : Int) ∧ ((fy.toNat ^^^ (fy.toNat &&& c.toNat) : Nat) : Int) = ((s.toNat ^^^ (s.toNat &&& c.toNat) : Nat) : Int)) ↔ shF fx fy c = s := by
  have hb := hF.b
  have h := seen_iff (x := fx.toNat) (y := fy.toNat) (c := c.toNat) (s := s.toNat) (by omega) (by omega) (by omega) (by omega) hF.2.2
  unfold shF
  constructor
  · rintro ⟨h1, h2⟩
    have := h.1 ⟨by omega, by omega⟩
    omega
  · intro h1
    have := h.2 (by omega)
    omega
theorem flat_app3 : ∀ {a b : List PV}, PV.flatL a = true → PV.flatL b = true → PV.flatL (a ++ b) = true
  | [], b, _, h => h
  | x :: a, b, h1, h2 => by
    simp only [PV.flatL, Bool.and_eq_true] at h1
    show (x.flat && PV.flatL (a ++ b)) = true
    rw [h1.1, flat_app3 h1.2 h2]; rfl
def dgl (ds : List Int) : List Int := ds.map fun d => digT.getD d.toNat 0
theorem dgl_len (ds : List Int) : (dgl ds).length = ds.length := by simp [dgl]
theorem dgl_at (ds : List Int) {j : Nat} (h : j < ds.length) : (dgl ds).getD j 0 = digT.getD (ds.getD j 0).toNat 0 := by
  unfold dgl
  simp [List.getD_eq_getElem?_getD, h]
theorem dgl_fill (ds : List Int) {k : Nat} (h : k < ds.length) : putAt ((dgl (ds.take k) ++ List.replicate (ds.length - k) 0).map (PV.int .i64)) (k * 1) [PV.int .i64 (digT.getD (ds.getD k 0).toNat 0)] = ((dgl (ds.take (k + 1)) ++ List.replicate (ds.length - (k + 1)) 0).map (PV.int .i64)) := by
  have e : (dgl (ds.take k)).length = k := by rw [dgl_len]; simp; omega
  rw [put_map1 (PV.int .i64) _ (by simp [dgl]; omega), List.set_append_right _ _ (by omega), e, Nat.sub_self, show ds.length - k = ds.length - (k + 1) + 1 by omega, List.replicate_succ, List.set_cons_zero]
  unfold dgl
  rw [map_take _ 0 ds h]; simp
/-- What has been found in the first rounds. -/
def fitB (ds cs : List Int) (j : Nat) : Bool := decide (FitsP (fxOf j) (fyOf j) ds cs)
def fI (ds cs : List Int) (i : Nat) : List (Int × Int) := (((fltA 16384).take i).filter (fitB ds cs)).map fun j => (fxOf j, fyOf j)
theorem fI_len (ds cs : List Int) (i : Nat) : (fI ds cs i).length ≤ 16384 := by
  unfold fI
  rw [List.length_map]
  exact Nat.le_trans (List.length_filter_le _ _) (Nat.le_trans (by rw [List.length_take]; exact Nat.min_le_right _ _) (fltA_len 16384))
theorem fI_succ (ds cs : List Int) {i : Nat} (h : i < (fltA 16384).length) : fI ds cs (i + 1) = fI ds cs i ++ if fitB ds cs ((fltA 16384).getD i 0) = true then [(fxOf ((fltA 16384).getD i 0), fyOf ((fltA 16384).getD i 0))] else [] := by
  unfold fI
  rw [List.take_add_one, List.getElem?_eq_getElem h, List.getD_eq_getElem?_getD, List.getElem?_eq_getElem h, Option.getD_some, Option.toList_some, List.filter_append, List.map_append]
  congr 1
  rw [List.filter_cons]
  split <;> rfl
theorem fI_yes (ds cs : List Int) {i : Nat} (h : i < (fltA 16384).length) (hf : FitsP (fxOf ((fltA 16384).getD i 0)) (fyOf ((fltA 16384).getD i 0)) ds cs) : fI ds cs (i + 1) = fI ds cs i ++ [(fxOf ((fltA 16384).getD i 0), fyOf ((fltA 16384).getD i 0))] := by
  rw [fI_succ ds cs h, if_pos (show fitB ds cs _ = true from decide_eq_true hf)]
theorem fI_no (ds cs : List Int) {i : Nat} (h : i < (fltA 16384).length) (hf : ¬ FitsP (fxOf ((fltA 16384).getD i 0)) (fyOf ((fltA 16384).getD i 0)) ds cs) : fI ds cs (i + 1) = fI ds cs i := by
  rw [fI_succ ds cs h, if_neg (fun k : fitB ds cs _ = true => hf (of_decide_eq_true k)), List.append_nil]
theorem fI_gen (ds cs : List Int) (K : Nat) : ((fltA K).filter (fitB ds cs)).map (fun j => (fxOf j, fyOf j)) = fltK ds cs K := by
  unfold fltA fltK
  rw [List.filter_filter]
  show List.map (fun j => (((j / 128 : Nat) : Int), ((j % 128 : Nat) : Int))) _ = _
  congr 1
  apply List.filter_congr
  intro j _
  unfold fitB fltP fxOf fyOf
  rw [Bool.and_comm, ← Bool.decide_and]
theorem fI_end (ds cs : List Int) : fI ds cs (fltA 16384).length = faultsOf ds cs := by
  unfold fI faultsOf
  rw [List.take_length]
  exact fI_gen ds cs 16384
theorem fI_0 (ds cs : List Int) : fI ds cs 0 = [] := by unfold fI; rw [List.take_zero]; rfl
theorem fI_ex (ds cs : List Int) : ∃ gI : Nat → List (Int × Int), gI 0 = [] ∧ (∀ i, (gI i).length ≤ 16384) ∧ gI (fltA 16384).length = faultsOf ds cs ∧ (∀ i, i < (fltA 16384).length → FitsP (fxOf ((fltA 16384).getD i 0)) (fyOf ((fltA 16384).getD i 0)) ds cs → gI (i + 1) = gI i ++ [(fxOf ((fltA 16384).getD i 0), fyOf ((fltA 16384).getD i 0))]) ∧ ∀ i, i < (fltA 16384).length → ¬ FitsP (fxOf ((fltA 16384).getD i 0)) (fyOf ((fltA 16384).getD i 0)) ds cs → gI (i + 1) = gI i :=
  ⟨fI ds cs, fI_0 ds cs, fI_len ds cs, fI_end ds cs, fun i h k => fI_yes ds cs h k, fun i h k => fI_no ds cs h k⟩
theorem snocP {g g' : List (Int × Int)} {a b : Int} (h : g' = g ++ [(a, b)]) : ((g.length + 1, fl g ++ [PV.int .i64 a, PV.int .i64 b]) : Nat × List PV) = (g'.length, fl g') := by
  subst h; rw [List.length_append, fl_snoc]; rfl
theorem sameP {g g' : List (Int × Int)} (h : g' = g) : ((g.length, fl g) : Nat × List PV) = (g'.length, fl g') := by rw [h]

set_option maxRecDepth 4000 in
theorem seenOn_c (fx fy c : Int) (hF : FaultP fx fy) (hc : 0 ≤ c ∧ c ≤ 127) : PCalls Tryd.prog 118 [.agg [.int .i64 fx, .int .i64 fy], .int .i64 c] (· = [.val (.agg [.int .i64 ((fx.toNat &&& c.toNat : Nat) : Int), .int .i64 ((fy.toNat ^^^ (fy.toNat &&& c.toNat) : Nat) : Int)])]) := by
  refine pcalls_of_code (n := 14) az Tryd.func118 (by kernel_rfl) rfl rfl (Nat.le_of_ble_eq_true rfl) (by intro t u h; simp [Tryd.f118] at h; obtain ⟨_, rfl⟩ := h <;> first | exact resTy_agg agg_42 (by decide)) ?_
  have hb := hF.b
  refine code_seq (fun K1 hK1 => ?_)
  refine code_region ?_
  refine list_cons rfl (op_box rfl (.inl ⟨rfl, rfl⟩) (by decide) (by decide) rfl ?_)
  refine list_cons rfl (op_alloc zt_42 (by decide) (by decide) rfl ?_)
  refine list_nil ?_
  refine hK1 _ ?_; clear hK1 K1
  refine code_seq (fun K2 hK2 => ?_)
  refine code_region ?_
  refine list_cons rfl (op_q (q_fieldAddr fi_42_0 rfl rfl (by decide)) ?_)
  refine list_cons rfl (op_q (q_load one_3 2 rfl rfl rfl (by first | rfl | exact get_map1 _ 0 _ (by first | omega | (simp; omega))) (by decide)) ?_)
  refine list_cons rfl (op_q (q_move rfl (by decide)) ?_)
  refine list_cons rfl (op_q (by first | exact q_andI rfl rfl (by decide) (by omega) (by omega) (by omega) (by omega) | exact q_ib rfl rfl rfl (by decide)) ?_)
  refine list_cons rfl (op_q (q_fieldAddr fi_42_1 rfl rfl (by decide)) ?_)
  refine list_cons rfl (op_q (q_load one_3 2 rfl rfl rfl (by first | rfl | exact get_map1 _ 0 _ (by first | omega | (simp; omega))) (by decide)) ?_)
  refine list_cons rfl (op_q (q_move rfl (by decide)) ?_)
  refine list_cons rfl (op_q (by first | exact q_andNotI rfl rfl (by decide) (by omega) (by omega) (by omega) (by omega) | exact q_ib rfl rfl rfl (by decide)) ?_)
  refine list_cons rfl (op_q (q_build bt_42 (parts := [(0, .tmp 8), (1, .tmp 12)]) rfl rfl (by decide)) ?_)
  refine list_cons rfl (op_store (agg_42).2 4 [4] (by intro t ht; simp only [List.mem_cons, List.not_mem_nil, or_false] at ht; subst ht; rfl) (.inr ⟨rfl, _, rfl⟩) rfl rfl rfl rfl (by first | rfl | exact flat_part (flat_map _ (fun _ => rfl) _) _ _ | exact flat_map _ (fun _ => rfl) _) (by first | rfl | (simp [PV.cells]; done)) (by first | decide | omega | exact Nat.le_refl _ | (simp; done) | (simp; omega)) (by decide) rfl ?_)
  refine list_nil ?_
  refine hK2 _ ?_; clear hK2 K2
  refine codeT.imp (σ' := [(0, _), (1, _), (2, _), (4, _)]) ?_ (imp_covers ⟨rfl, rfl, rfl, rfl, trivial⟩)
  refine code_ret ?_
  refine ends_ret (cs := []) rfl rfl rfl rfl trivial ?_
  rfl

set_option maxRecDepth 4000 in
theorem seenBetween_c (c s : Int) (hc : 0 ≤ c ∧ c ≤ 127) (hs : 0 ≤ s ∧ s ≤ 127) : PCalls Tryd.prog 119 [.int .i64 c, .int .i64 s] (· = [.val (.agg [.int .i64 ((c.toNat ^^^ (c.toNat &&& s.toNat) : Nat) : Int), .int .i64 ((s.toNat ^^^ (s.toNat &&& c.toNat) : Nat) : Int)])]) := by
  refine pcalls_of_code (n := 12) az Tryd.func119 (by kernel_rfl) rfl rfl (Nat.le_of_ble_eq_true rfl) (by intro t u h; simp [Tryd.f119] at h; obtain ⟨_, rfl⟩ := h <;> first | exact resTy_agg agg_42 (by decide)) ?_
  refine code_seq (fun K1 hK1 => ?_)
  refine code_region ?_
  refine list_cons rfl (op_alloc zt_42 (by decide) (by decide) rfl ?_)
  refine list_nil ?_
  refine hK1 _ ?_; clear hK1 K1
  refine code_seq (fun K2 hK2 => ?_)
  refine code_region ?_
  refine list_cons rfl (op_q (q_move rfl (by decide)) ?_)
  refine list_cons rfl (op_q (q_move rfl (by decide)) ?_)
  refine list_cons rfl (op_q (by first | exact q_andNotI rfl rfl (by decide) (by omega) (by omega) (by omega) (by omega) | exact q_ib rfl rfl rfl (by decide)) ?_)
  refine list_cons rfl (op_q (q_move rfl (by decide)) ?_)
  refine list_cons rfl (op_q (q_move rfl (by decide)) ?_)
  refine list_cons rfl (op_q (by first | exact q_andNotI rfl rfl (by decide) (by omega) (by omega) (by omega) (by omega) | exact q_ib rfl rfl rfl (by decide)) ?_)
  refine list_cons rfl (op_q (q_build bt_42 (parts := [(0, .tmp 7), (1, .tmp 10)]) rfl rfl (by decide)) ?_)
  refine list_cons rfl (op_store (agg_42).2 4 [4] (by intro t ht; simp only [List.mem_cons, List.not_mem_nil, or_false] at ht; subst ht; rfl) (.inr ⟨rfl, _, rfl⟩) rfl rfl rfl rfl (by first | rfl | exact flat_part (flat_map _ (fun _ => rfl) _) _ _ | exact flat_map _ (fun _ => rfl) _) (by first | rfl | (simp [PV.cells]; done)) (by first | decide | omega | exact Nat.le_refl _ | (simp; done) | (simp; omega)) (by decide) rfl ?_)
  refine list_nil ?_
  refine hK2 _ ?_; clear hK2 K2
  refine codeT.imp (σ' := [(0, _), (1, _), (4, _)]) ?_ (imp_covers ⟨rfl, rfl, rfl, trivial⟩)
  refine code_ret ?_
  refine ends_ret (cs := []) rfl rfl rfl rfl trivial ?_
  rfl

set_option maxRecDepth 4000 in
set_option maxHeartbeats 1000000 in
theorem explains_c (fx fy : Int) (ds cs : List Int) (hF : FaultP fx fy) (hp : PairsP ds cs) : PCalls Tryd.prog 73 [.agg [.int .i64 fx, .int .i64 fy], .sl ds.length ((dgl ds).map (.int .i64)), .sl cs.length (cs.map (.int .i64))] (· = [.val (.bool (decide (FitsP fx fy ds cs)))]) := by
  refine pcalls_of_code (n := 27) az Tryd.func73 (by kernel_rfl) rfl rfl (Nat.le_of_ble_eq_true rfl) (by intro t u h; simp [Tryd.f73] at h) ?_
  have hp1 := hp.1
  have hp2 := hp.2.1
  have hl := dgl_len ds
  refine code_seq (fun K1 hK1 => ?_)
  refine code_region ?_
  refine list_cons rfl (op_box rfl (.inl ⟨rfl, rfl⟩) (by decide) (by decide) rfl ?_)
  refine list_cons rfl (op_q (q_assign rfl (by decide)) ?_)
  refine list_nil ?_
  refine hK1 _ ?_; clear hK1 K1
  refine code_seq (fun K2 hK2 => ?_)
  refine code_seq (fun K3 hK3 => ?_)
  refine code_region ?_
  refine list_cons rfl (op_q (q_move rfl (by decide)) ?_)
  refine list_cons rfl (op_q (q_len_sl Tryd.underlying24 rfl rfl (by decide)) ?_)
  refine list_cons rfl (op_q (q_move rfl (by decide)) ?_)
  refine list_nil ?_
  refine hK3 _ ?_; clear hK3 K3
  refine code_block ?_
  refine code_loop (X := Bool × Int) (fun x => [(0, .val (.agg [.int .i64 fx, .int .i64 fy])), (1, .par 1 (.sl ds.length ((dgl ds).map (.int .i64)))), (2, .par 2 (.sl cs.length (cs.map (.int .i64)))), (3, .box 3 42 [.int .i64 fx, .int .i64 fy]), (6, .val (.bool x.1)), (9, .par 1 (.sl ds.length ((dgl ds).map (.int .i64)))), (10, .val (.int .i64 ds.length)), (11, .val (.int .i64 x.2))]) (fun x => 0 ≤ x.2 ∧ x.2 ≤ ds.length ∧ ∀ j, j < x.2.toNat → shF fx fy (digT.getD (ds.getD j 0).toNat 0) = cs.getD j 0) (fun x => (ds.length - x.2).toNat) (_, _) (imp_covers ⟨rfl, rfl, rfl, rfl, rfl, rfl, rfl, rfl, trivial⟩) ?_ ?_
  · (try dsimp only)
    exact ⟨by omega, by omega, fun j hj => absurd hj (Nat.not_lt_zero j)⟩
  · intro x hI
    obtain ⟨t6, t11⟩ := x
    replace hI : 0 ≤ t11 ∧ t11 ≤ ds.length ∧ ∀ j, j < t11.toNat → shF fx fy (digT.getD (ds.getD j 0).toNat 0) = cs.getD j 0 := hI
    show codeT _ _ _ [(0, .val (.agg [.int .i64 fx, .int .i64 fy])), (1, .par 1 (.sl ds.length ((dgl ds).map (.int .i64)))), (2, .par 2 (.sl cs.length (cs.map (.int .i64)))), (3, .box 3 42 [.int .i64 fx, .int .i64 fy]), (6, .val (.bool t6)), (9, .par 1 (.sl ds.length ((dgl ds).map (.int .i64)))), (10, .val (.int .i64 ds.length)), (11, .val (.int .i64 t11))] _
    obtain ⟨i1, i2, i3⟩ := hI
    have hA : ∀ j, j < ds.length → (0 ≤ (dgl ds).getD j 0 ∧ (dgl ds).getD j 0 ≤ 127) ∧ (0 ≤ cs.getD j 0 ∧ cs.getD j 0 ≤ 127) := fun j hj => ⟨by rw [dgl_at ds hj]; exact digT_cell _, (hp.2.2 j hj).2⟩
    refine code_seq (fun K4 hK4 => ?_)
    refine code_region ?_
    refine list_cons rfl (op_q (q_lt rfl rfl (by decide)) ?_)
    refine list_nil ?_
    refine hK4 _ ?_; clear hK4 K4
    refine code_seq (fun K5 hK5 => ?_)
    refine code_cond_d rfl (fun h1 => ?_) (fun h1 => ?_)
    · skip
      (try simp only [Decidable.not_not, EqP, Eq1, and_true] at h1)
      refine code_skip ?_
      refine hK5 _ ?_; clear hK5 K5
      refine code_seq (fun K6 hK6 => ?_)
      refine code_block ?_
      refine code_seq (fun K7 hK7 => ?_)
      refine code_region ?_
      refine list_cons rfl (op_q (q_move rfl (by decide)) ?_)
      refine list_cons rfl (op_q (q_indexAddr_rd sl_24 rfl (.inl ⟨_, rfl, rfl⟩) rfl (by omega) (by omega) (by decide)) ?_)
      refine list_cons rfl (op_q (q_load_rd one_3 rfl (.inl ⟨_, (by first | rfl | exact congrArg (SV.rpar _) (drop_map1 _ 0 _ (by first | omega | (simp; omega)))), rfl⟩) (by decide)) ?_)
      refine list_cons rfl (op_q (q_assign rfl (by decide)) ?_)
      refine list_cons rfl (op_q (q_assign rfl (by decide)) ?_)
      refine list_nil ?_
      refine hK7 _ ?_; clear hK7 K7
      refine code_seq (fun K8 hK8 => ?_)
      refine code_draw (by kernel_rfl) (by kernel_rfl) ?_
      refine draw_q rfl (q_load_agg agg_42 3 (.inr ⟨rfl, _, rfl⟩) rfl rfl (by first | decide | omega | exact Nat.le_refl _ | (simp; done) | (simp; omega)) (by first | rfl | exact flat_part (flat_map _ (fun _ => rfl) _) _ _) (by decide)) ?_
      refine draw_q rfl (q_move rfl (by decide)) ?_
      refine draw_call _ (seenOn_c fx fy _ hF (hA t11.toNat (by omega)).1) rfl rfl rfl (by decide) ?_
      refine draw_q rfl (q_move rfl (by decide)) ?_
      refine draw_q rfl (q_move rfl (by decide)) ?_
      refine draw_q rfl (q_move rfl (by decide)) ?_
      refine draw_q rfl (q_indexAddr_rd sl_24 rfl (.inl ⟨_, rfl, rfl⟩) rfl (by omega) (by omega) (by decide)) ?_
      refine draw_q rfl (q_load_rd one_3 rfl (.inl ⟨_, (by first | rfl | exact congrArg (SV.rpar _) (drop_map1 _ 0 _ (by first | omega | (simp; omega)))), rfl⟩) (by decide)) ?_
      refine draw_call _ (seenBetween_c _ _ (hA t11.toNat (by omega)).1 (hA t11.toNat (by omega)).2) rfl rfl rfl (by decide) ?_
      refine draw_q rfl (q_aggne (by decide) agg_42 eqty_42 eqg_42 rfl rfl (by first | exact ⟨_, _, rfl, ⟨_, rfl⟩, ⟨_, _, rfl, ⟨_, rfl⟩, trivial⟩⟩) (by first | exact ⟨_, _, rfl, ⟨_, rfl⟩, ⟨_, _, rfl, ⟨_, rfl⟩, trivial⟩⟩) rfl rfl (by decide)) ?_
      refine draw_nil ?_
      refine hK8 _ ?_; clear hK8 K8
      refine codeT.imp (σ' := [(0, _), (1, _), (2, _), (3, _), (6, _), (7, _), (8, _), (9, _), (10, _), (11, _), (25, _)]) ?_ (imp_covers ⟨rfl, rfl, rfl, rfl, rfl, rfl, rfl, rfl, rfl, rfl, rfl, trivial⟩)
      refine code_cond_d rfl (fun h2 => ?_) (fun h2 => ?_)
      · skip
        (try simp only [Decidable.not_not, EqP, Eq1, and_true] at h2)
        refine code_seq (fun K9 hK9 => ?_)
        refine code_region ?_
        refine list_cons rfl (op_q (q_assign rfl (by decide)) ?_)
        refine list_nil ?_
        refine hK9 _ ?_; clear hK9 K9
        refine code_ret ?_
        refine blk_r ?_
        refine then_r ?_; clear hK6 K6
        refine then_r ?_
        refine blk_r ?_
        refine then_r ?_; clear hK2 K2
        refine ends_ret (cs := []) rfl rfl rfl rfl trivial ?_
        first
          | (rw [decide_eq_true (show FitsP fx fy ds cs from fun j hj => i3 j (by omega))]; done)
          | (rw [decide_eq_false (fun k => h2 ((seen_int hF (hA t11.toNat (by omega)).1 (hA t11.toNat (by omega)).2).2 (by rw [dgl_at ds (by omega)]; exact k t11.toNat (by omega))))])
      · skip
        (try simp only [Decidable.not_not, EqP, Eq1, and_true] at h2)
        refine code_skip ?_
        refine blk_n ?_
        refine hK6 _ ?_; clear hK6 K6
        refine code_region ?_
        refine list_cons rfl (op_q (by first | exact q_addI rfl rfl (by decide) (by omega) (by omega) | exact q_ib rfl rfl rfl (by decide)) ?_)
        refine list_cons rfl (op_q (q_move rfl (by decide)) ?_)
        refine list_nil ?_
        refine then_n ⟨(_, _), imp_covers ⟨rfl, rfl, rfl, rfl, rfl, rfl, rfl, rfl, trivial⟩, ?_, ?_⟩
        · (try dsimp only)
          refine ⟨by omega, by omega, fun j hj => ?_⟩
          by_cases e : j = t11.toNat
          · subst e
            have hx := (seen_int hF (hA t11.toNat (by omega)).1 (hA t11.toNat (by omega)).2).1 h2
            rw [dgl_at ds (by omega)] at hx; exact hx
          · exact i3 j (by omega)
        · (try dsimp only); omega
    · skip
      (try simp only [Decidable.not_not, EqP, Eq1, and_true] at h1)
      refine code_exit ?_
      refine then_x ?_; clear hK5 K5
      refine then_x ?_
      refine blk_hit ?_
      refine hK2 _ ?_; clear hK2 K2
      refine code_seq (fun K10 hK10 => ?_)
      refine code_region ?_
      refine list_cons rfl (op_q (q_assign rfl (by decide)) ?_)
      refine list_nil ?_
      refine hK10 _ ?_; clear hK10 K10
      refine code_ret ?_
      refine ends_ret (cs := []) rfl rfl rfl rfl trivial ?_
      first
        | (rw [decide_eq_true (show FitsP fx fy ds cs from fun j hj => i3 j (by omega))]; done)
        | (rw [decide_eq_false (fun k => h1 ((seen_int hF (hA t11.toNat (by omega)).1 (hA t11.toNat (by omega)).2).2 (by rw [dgl_at ds (by omega)]; exact k t11.toNat (by omega))))])

set_option maxRecDepth 8000 in
set_option maxHeartbeats 2000000 in
theorem impl_FaultsOf (ds cs : List Int) (hd : ds.length ≤ 4611686018427387904) (hc : cs.length ≤ 4611686018427387904) : MCalls Tryd.prog 8 true none [.sl ds.length (ds.map (.int .i64)), .sl cs.length (cs.map (.int .i64))] (fun rs _ => rs = [.own 0 42 2 (if PairsP ds cs then faultsOf ds cs else []).length (fl (if PairsP ds cs then faultsOf ds cs else [])), .val (.bool (decide (PairsP ds cs)))]) := by
  refine mcalls_of_code (n := 71) az Tryd.func8 (by kernel_rfl) rfl rfl (Nat.le_of_ble_eq_true rfl) (by intro t u h; simp [Tryd.f8] at h) ?_
  obtain ⟨gI, g0, gL, gE, gY, gN⟩ := fI_ex ds cs
  refine code_seq (fun K1 hK1 => ?_)
  refine code_region ?_
  refine list_cons rfl (op_box rfl (.inr rfl) (by decide) (by decide) rfl ?_)
  refine list_cons rfl (op_q (q_assign rfl (by decide)) ?_)
  refine list_cons rfl (op_q (q_assign rfl (by decide)) ?_)
  refine list_nil ?_
  refine hK1 _ ?_; clear hK1 K1
  refine code_seq (fun K2 hK2 => ?_)
  refine code_seq (fun K3 hK3 => ?_)
  refine code_region ?_
  refine list_cons rfl (op_q (q_move rfl (by decide)) ?_)
  refine list_cons rfl (op_q (q_len_sl Tryd.underlying24 rfl rfl (by decide)) ?_)
  refine list_cons rfl (op_q (q_load_boxD one_24 rfl (by decide)) ?_)
  refine list_cons rfl (op_q (q_len_sl Tryd.underlying24 rfl rfl (by decide)) ?_)
  refine list_cons rfl (op_q (q_ne rfl rfl (by decide)) ?_)
  refine list_cons rfl (op_q (q_move rfl (by decide)) ?_)
  refine list_guard_d rfl rfl rfl rfl (by decide) rfl (by decide) (fun h1 => ?_) (fun h1 => ?_)
  · simp only [Bool.false_eq_true, if_true, if_false, Decidable.not_not] at h1
    refine id (op_q (q_move rfl (by decide)) ?_)
    refine list_guard_y rfl rfl rfl rfl (by decide) rfl ?_
    refine id (op_q (q_len_sl Tryd.underlying24 rfl rfl (by decide)) ?_)
    refine list_guard_y rfl rfl rfl rfl (by decide) rfl ?_
    refine id (op_q (q_eq rfl rfl (by decide)) ?_)
    refine list_cons rfl (op_q (q_pick rfl rfl (by decide)) ?_)
    refine list_cons rfl (op_q (q_move rfl (by decide)) ?_)
    refine list_guard_d rfl rfl rfl rfl (by decide) rfl (by decide) (fun h2 => ?_) (fun h2 => ?_)
    · simp only [Bool.false_eq_true, if_true, if_false, Decidable.not_not] at h2
      refine id (op_q (q_move rfl (by decide)) ?_)
      refine list_guard_y rfl rfl rfl rfl (by decide) rfl ?_
      refine id (op_q (q_len_sl Tryd.underlying24 rfl rfl (by decide)) ?_)
      refine list_guard_y rfl rfl rfl rfl (by decide) rfl ?_
      refine id (op_q (q_gt rfl rfl (by decide)) ?_)
      refine list_cons rfl (op_q (q_pick rfl rfl (by decide)) ?_)
      refine list_nil ?_
      refine hK3 _ ?_; clear hK3 K3
      refine codeT.imp (σ' := [(0, _), (1, _), (3, _), (4, _), (5, _), (27, _)]) ?_ (imp_covers ⟨rfl, rfl, rfl, rfl, rfl, rfl, trivial⟩)
      refine code_cond_d rfl (fun h3 => ?_) (fun h3 => ?_)
      · skip
        (try simp only [Decidable.not_not] at h3)
        refine code_seq (fun K4 hK4 => ?_)
        refine code_region ?_
        refine list_cons rfl (op_buildSlice sl_27 (parts := []) rfl rfl rfl (by decide) (by decide) (by decide) rfl ?_)
        refine list_cons rfl (op_q (q_assign rfl (by decide)) ?_)
        refine list_cons rfl (op_q (q_assign rfl (by decide)) ?_)
        refine list_nil ?_
        refine hK4 _ ?_; clear hK4 K4
        refine code_ret ?_
        refine then_r ?_; clear hK2 K2
        refine ends_ret (cs := []) rfl rfl rfl rfl trivial ?_
        first
          | (have e : ¬ PairsP ds cs := fun k => by have := k.1; have := k.2.1; omega
             simp only [if_neg e, decide_eq_false e]; rfl)
          | (have e : ¬ PairsP ds cs := fun k => absurd (k.2.2 t34.toNat (by omega)).2 (by assumption)
             simp only [if_neg e, decide_eq_false e]; rfl)
          | (have e : ¬ PairsP ds cs := fun k => absurd (k.2.2 t34.toNat (by omega)).1 (by assumption)
             simp only [if_neg e, decide_eq_false e]; rfl)
          | (rw [if_pos hP, decide_eq_true hP, ← gE])
      · skip
        (try simp only [Decidable.not_not] at h3)
        refine code_skip ?_
        refine hK2 _ ?_; clear hK2 K2
        refine code_seq (fun K5 hK5 => ?_)
        refine code_region ?_
        refine list_cons rfl (op_q (q_move rfl (by decide)) ?_)
        refine list_cons rfl (op_q (q_len_sl Tryd.underlying24 rfl rfl (by decide)) ?_)
        refine list_cons rfl (op_make sl_24 rfl rfl (by omega) (by decide) (by decide) rfl ?_)
        refine list_cons rfl (op_alloc zt_24 (by decide) (by decide) rfl ?_)
        refine list_cons rfl (op_storeS (one_24).2 rfl rfl (by decide) rfl ?_)
        refine list_nil ?_
        refine hK5 _ ?_; clear hK5 K5
        refine codeT.imp (σ' := [(0, _), (1, _), (3, _), (4, _), (5, _), (6, _)]) ?_ (imp_covers ⟨rfl, rfl, rfl, rfl, rfl, rfl, trivial⟩)
        refine code_seq (fun K6 hK6 => ?_)
        refine code_seq (fun K7 hK7 => ?_)
        refine code_region ?_
        refine list_cons rfl (op_q (q_move rfl (by decide)) ?_)
        refine list_cons rfl (op_q (q_len_sl Tryd.underlying24 rfl rfl (by decide)) ?_)
        refine list_cons rfl (op_q (q_move rfl (by decide)) ?_)
        refine list_nil ?_
        refine hK7 _ ?_; clear hK7 K7
        refine code_block ?_
        refine code_loop (X := PV × Bool × Nat × List PV × Int) (fun x => [(0, .ext (.sl ds.length (ds.map (.int .i64)))), (1, .ext (.sl cs.length (cs.map (.int .i64)))), (3, .box 3 24 [.sl cs.length (cs.map (.int .i64))]), (4, .val x.1), (5, .val (.bool x.2.1)), (6, .boxS 6 24 31 3 1 x.2.2.1 x.2.2.2.1), (32, .ext (.sl ds.length (ds.map (.int .i64)))), (33, .val (.int .i64 ds.length)), (34, .val (.int .i64 x.2.2.2.2))]) (fun x => ds.length = cs.length ∧ (1 ≤ ds.length ∧ ds.length ≤ 10) ∧ 0 ≤ x.2.2.2.2 ∧ x.2.2.2.2 ≤ ds.length ∧ x.2.2.1 = ds.length ∧ x.2.2.2.1 = (dgl (ds.take x.2.2.2.2.toNat) ++ List.replicate (ds.length - x.2.2.2.2.toNat) 0).map (.int .i64) ∧ ∀ j, j < x.2.2.2.2.toNat → (0 ≤ ds.getD j 0 ∧ ds.getD j 0 ≤ 9) ∧ (0 ≤ cs.getD j 0 ∧ cs.getD j 0 ≤ 127)) (fun x => (ds.length - x.2.2.2.2).toNat) (_, _, _, _, _) (imp_covers ⟨rfl, rfl, rfl, rfl, rfl, rfl, rfl, rfl, rfl, trivial⟩) ?_ ?_
        · (try dsimp only)
          exact ⟨by omega, ⟨by omega, by omega⟩, by omega, by omega, rfl, zeros_map1 (PV.int .i64) 0 ds.length, fun j hj => absurd hj (Nat.not_lt_zero j)⟩
        · intro x hI
          obtain ⟨t4_p, t5, sent_n, sent_c, t34⟩ := x
          replace hI : ds.length = cs.length ∧ (1 ≤ ds.length ∧ ds.length ≤ 10) ∧ 0 ≤ t34 ∧ t34 ≤ ds.length ∧ sent_n = ds.length ∧ sent_c = (dgl (ds.take t34.toNat) ++ List.replicate (ds.length - t34.toNat) 0).map (.int .i64) ∧ ∀ j, j < t34.toNat → (0 ≤ ds.getD j 0 ∧ ds.getD j 0 ≤ 9) ∧ (0 ≤ cs.getD j 0 ∧ cs.getD j 0 ≤ 127) := hI
          show codeT _ _ _ [(0, .ext (.sl ds.length (ds.map (.int .i64)))), (1, .ext (.sl cs.length (cs.map (.int .i64)))), (3, .box 3 24 [.sl cs.length (cs.map (.int .i64))]), (4, .val t4_p), (5, .val (.bool t5)), (6, .boxS 6 24 31 3 1 sent_n sent_c), (32, .ext (.sl ds.length (ds.map (.int .i64)))), (33, .val (.int .i64 ds.length)), (34, .val (.int .i64 t34))] _
          obtain ⟨h0l, h0b, i1, i2, rfl, rfl, i3⟩ := hI
          have hzl : (dgl (ds.take t34.toNat) ++ List.replicate (ds.length - t34.toNat) (0 : Int)).length = ds.length := by simp [dgl]; omega
          refine code_seq (fun K8 hK8 => ?_)
          refine code_region ?_
          refine list_cons rfl (op_q (q_lt rfl rfl (by decide)) ?_)
          refine list_nil ?_
          refine hK8 _ ?_; clear hK8 K8
          refine code_seq (fun K9 hK9 => ?_)
          refine code_cond_d rfl (fun h4 => ?_) (fun h4 => ?_)
          · skip
            (try simp only [Decidable.not_not] at h4)
            refine code_skip ?_
            refine hK9 _ ?_; clear hK9 K9
            refine code_seq (fun K10 hK10 => ?_)
            refine code_block ?_
            refine code_seq (fun K11 hK11 => ?_)
            refine code_region ?_
            refine list_cons rfl (op_q (q_move rfl (by decide)) ?_)
            refine list_cons rfl (op_q (q_indexAddr_ext sl_24 rfl rfl (by omega) (by omega) (by decide)) ?_)
            refine list_cons rfl (op_q (q_load_rd one_3 rfl (.inr ⟨_, (by first | rfl | exact congrArg (SV.rbor _) (drop_map1 _ 0 _ (by first | omega | (simp; omega)))), rfl⟩) (by decide)) ?_)
            refine list_cons rfl (op_q (q_assign rfl (by decide)) ?_)
            refine list_cons rfl (op_q (q_assign rfl (by decide)) ?_)
            refine list_nil ?_
            refine hK11 _ ?_; clear hK11 K11
            refine code_seq (fun K12 hK12 => ?_)
            refine code_region ?_
            refine list_cons rfl (op_q (q_move rfl (by decide)) ?_)
            refine list_cons rfl (op_call _ (impl_CellOf _) rfl rfl (by decide) (by decide) (by decide) rfl ?_)
            rintro _ rfl
            refine list_cons rfl (op_q (q_move rfl (by decide)) ?_)
            refine list_cons rfl (op_q (q_extract rfl rfl (by decide)) ?_)
            refine list_cons rfl (op_q (q_extract rfl rfl (by decide)) ?_)
            refine list_cons rfl (op_q (q_assign rfl (by decide)) ?_)
            refine list_cons rfl (op_q (q_assign rfl (by decide)) ?_)
            refine list_nil ?_
            refine hK12 _ ?_; clear hK12 K12
            refine codeT.imp (σ' := [(0, _), (1, _), (3, _), (4, _), (5, _), (6, _), (7, _), (8, _), (9, _), (10, _), (32, _), (33, _), (34, _)]) ?_ (imp_covers ⟨rfl, rfl, rfl, rfl, rfl, rfl, rfl, rfl, rfl, rfl, rfl, rfl, rfl, trivial⟩)
            refine code_seq (fun K13 hK13 => ?_)
            refine code_seq (fun K14 hK14 => ?_)
            refine code_region ?_
            refine list_cons rfl (op_q (q_move rfl (by decide)) ?_)
            refine list_cons rfl (op_q (by first | exact q_notd rfl (by decide) | exact q_not rfl (by decide)) ?_)
            refine list_cons rfl (op_q (q_move rfl (by decide)) ?_)
            refine list_guard_d rfl rfl rfl rfl (by decide) rfl (by decide) (fun h5 => ?_) (fun h5 => ?_)
            · simp only [Bool.false_eq_true, if_true, if_false, Decidable.not_not] at h5
              refine id (op_q (q_load_boxD one_24 rfl (by decide)) ?_)
              refine list_guard_y rfl rfl rfl rfl (by decide) rfl ?_
              refine id (op_q (q_move rfl (by decide)) ?_)
              refine list_guard_y rfl rfl rfl rfl (by decide) rfl ?_
              refine id (op_q (q_indexAddr_rd sl_24 rfl (.inr ⟨_, rfl, rfl⟩) rfl (by omega) (by omega) (by decide)) ?_)
              refine list_guard_y rfl rfl rfl rfl (by decide) rfl ?_
              refine id (op_q (q_load_rd one_3 rfl (.inr ⟨_, (by first | rfl | exact congrArg (SV.rbor _) (drop_map1 _ 0 _ (by first | omega | (simp; omega)))), rfl⟩) (by decide)) ?_)
              refine list_guard_y rfl rfl rfl rfl (by decide) rfl ?_
              refine id (op_call _ (impl_IsCell _) rfl rfl (by decide) (by decide) (by decide) rfl ?_)
              rintro _ rfl
              refine list_guard_y rfl rfl rfl rfl (by decide) rfl ?_
              refine id (op_q (by first | exact q_notd rfl (by decide) | exact q_not rfl (by decide)) ?_)
              refine list_cons rfl (op_q (q_pick rfl rfl (by decide)) ?_)
              refine list_nil ?_
              refine hK14 _ ?_; clear hK14 K14
              refine codeT.imp (σ' := [(0, _), (1, _), (3, _), (4, _), (5, _), (6, _), (7, _), (8, _), (9, _), (10, _), (32, _), (33, _), (34, _), (53, _)]) ?_ (imp_covers ⟨rfl, rfl, rfl, rfl, rfl, rfl, rfl, rfl, rfl, rfl, rfl, rfl, rfl, rfl, trivial⟩)
              refine code_cond_d rfl (fun h6 => ?_) (fun h6 => ?_)
              · skip
                (try simp only [Decidable.not_not] at h6)
                refine code_seq (fun K15 hK15 => ?_)
                refine code_region ?_
                refine list_cons rfl (op_buildSlice sl_27 (parts := []) rfl rfl rfl (by decide) (by decide) (by decide) rfl ?_)
                refine list_cons rfl (op_q (q_assign rfl (by decide)) ?_)
                refine list_cons rfl (op_q (q_assign rfl (by decide)) ?_)
                refine list_nil ?_
                refine hK15 _ ?_; clear hK15 K15
                refine code_ret ?_
                refine then_r ?_; clear hK13 K13
                refine blk_r ?_
                refine then_r ?_; clear hK10 K10
                refine then_r ?_
                refine blk_r ?_
                refine then_r ?_; clear hK6 K6
                refine ends_ret (cs := []) rfl rfl rfl rfl trivial ?_
                first
                  | (have e : ¬ PairsP ds cs := fun k => by have := k.1; have := k.2.1; omega
                     simp only [if_neg e, decide_eq_false e]; rfl)
                  | (have e : ¬ PairsP ds cs := fun k => absurd (k.2.2 t34.toNat (by omega)).2 (by assumption)
                     simp only [if_neg e, decide_eq_false e]; rfl)
                  | (have e : ¬ PairsP ds cs := fun k => absurd (k.2.2 t34.toNat (by omega)).1 (by assumption)
                     simp only [if_neg e, decide_eq_false e]; rfl)
                  | (rw [if_pos hP, decide_eq_true hP, ← gE])
              · skip
                (try simp only [Decidable.not_not] at h6)
                refine code_skip ?_
                refine hK13 _ ?_; clear hK13 K13
                refine code_region ?_
                refine list_cons rfl (op_q (q_loadS one_24 rfl (by decide)) ?_)
                refine list_cons rfl (op_q (q_move rfl (by decide)) ?_)
                refine list_cons rfl (op_q (q_move rfl (by decide)) ?_)
                refine list_cons rfl (op_q (q_indexAddr_own sl_24 rfl rfl (by omega) (by omega) (by decide)) ?_)
                refine list_cons rfl (op_storeG (one_3).2 55 [55, 6] (by intro t ht; simp only [List.mem_cons, List.not_mem_nil, or_false] at ht; rcases ht with rfl | rfl <;> rfl) (.inl rfl) rfl rfl rfl (.inl ⟨rfl, rfl⟩) rfl (by rw [List.length_map, hzl]; omega) (by decide) rfl ?_)
                refine list_nil ?_
                refine blk_n ?_
                refine hK10 _ ?_; clear hK10 K10
                refine codeT.imp (σ' := [(0, _), (1, _), (3, _), (4, _), (5, _), (6, _), (7, _), (8, _), (9, _), (10, _), (32, _), (33, _), (34, _)]) ?_ (imp_covers ⟨rfl, rfl, rfl, rfl, rfl, rfl, rfl, rfl, rfl, rfl, rfl, rfl, rfl, trivial⟩)
                refine code_region ?_
                refine list_cons rfl (op_q (by first | exact q_addI rfl rfl (by decide) (by omega) (by omega) | exact q_ib rfl rfl rfl (by decide)) ?_)
                refine list_cons rfl (op_q (q_move rfl (by decide)) ?_)
                refine list_nil ?_
                refine then_n ⟨(_, _, _, _, _), imp_covers ⟨rfl, rfl, rfl, rfl, rfl, rfl, rfl, rfl, rfl, trivial⟩, ?_, ?_⟩
                · (try dsimp only)
                  have hk := (by assumption : 0 ≤ ds.getD t34.toNat 0 ∧ ds.getD t34.toNat 0 ≤ 9)
                  refine ⟨h0l, h0b, by omega, by omega, rfl, ?_, fun j hj => ?_⟩
                  · rw [show (t34 + 1).toNat = t34.toNat + 1 by omega, if_pos hk]
                    exact dgl_fill ds (by omega)
                  · by_cases e : j = t34.toNat
                    · subst e; exact ⟨hk, by assumption⟩
                    · exact i3 j (by omega)
                · (try dsimp only); omega
            · simp only [Bool.false_eq_true, if_true, if_false, Decidable.not_not] at h5
              refine list_guard_n rfl rfl rfl rfl (by decide) rfl ?_
              refine list_guard_n rfl rfl rfl rfl (by decide) rfl ?_
              refine list_guard_n rfl rfl rfl rfl (by decide) rfl ?_
              refine list_guard_n rfl rfl rfl rfl (by decide) rfl ?_
              refine list_guard_n rfl rfl rfl rfl (by decide) rfl ?_
              refine list_cons rfl (op_q (q_pick rfl rfl (by decide)) ?_)
              refine list_nil ?_
              refine hK14 _ ?_; clear hK14 K14
              refine code_cond_t rfl ?_
              refine code_seq (fun K16 hK16 => ?_)
              refine code_region ?_
              refine list_cons rfl (op_buildSlice sl_27 (parts := []) rfl rfl rfl (by decide) (by decide) (by decide) rfl ?_)
              refine list_cons rfl (op_q (q_assign rfl (by decide)) ?_)
              refine list_cons rfl (op_q (q_assign rfl (by decide)) ?_)
              refine list_nil ?_
              refine hK16 _ ?_; clear hK16 K16
              refine code_ret ?_
              refine then_r ?_; clear hK13 K13
              refine blk_r ?_
              refine then_r ?_; clear hK10 K10
              refine then_r ?_
              refine blk_r ?_
              refine then_r ?_; clear hK6 K6
              refine ends_ret (cs := []) rfl rfl rfl rfl trivial ?_
              first
                | (have e : ¬ PairsP ds cs := fun k => by have := k.1; have := k.2.1; omega
                   simp only [if_neg e, decide_eq_false e]; rfl)
                | (have e : ¬ PairsP ds cs := fun k => absurd (k.2.2 t34.toNat (by omega)).2 (by assumption)
                   simp only [if_neg e, decide_eq_false e]; rfl)
                | (have e : ¬ PairsP ds cs := fun k => absurd (k.2.2 t34.toNat (by omega)).1 (by assumption)
                   simp only [if_neg e, decide_eq_false e]; rfl)
                | (rw [if_pos hP, decide_eq_true hP, ← gE])
          · skip
            (try simp only [Decidable.not_not] at h4)
            refine code_exit ?_
            refine then_x ?_; clear hK9 K9
            refine then_x ?_
            refine blk_hit ?_
            refine hK6 _ ?_; clear hK6 K6
            refine code_seq (fun K17 hK17 => ?_)
            refine code_region ?_
            refine list_cons rfl (op_buildSlice sl_27 (parts := []) rfl rfl rfl (by decide) (by decide) (by decide) rfl ?_)
            refine list_cons rfl (op_allocR (e := 42) (size := 2) (k := 1) zt_27 (by decide) (by decide) rfl ?_)
            refine list_cons rfl (op_storeR (one_27).2 11 (.inr ⟨rfl, rfl⟩) rfl rfl (by decide) (by decide) (by first | exact flat_app3 (fl_flat _) rfl | rfl) Nat.zero_lt_one rfl ?_)
            refine list_nil ?_
            refine hK17 _ ?_; clear hK17 K17
            refine codeT.imp (σ' := [(0, .ext (.sl ds.length (ds.map (.int .i64)))), (1, .ext (.sl cs.length (cs.map (.int .i64)))), (3, .box 3 24 [.sl cs.length (cs.map (.int .i64))]), (4, .val t4_p), (5, .val (.bool t5)), (6, .boxS 6 24 31 3 1 ds.length ((dgl ds).map (.int .i64))), (11, .boxR 11 27 42 2 [some ((gI 0).length, fl (gI 0))]), (32, .ext (.sl ds.length (ds.map (.int .i64)))), (33, .val (.int .i64 ds.length)), (34, .val (.int .i64 t34))]) ?_ (imp_covers ⟨rfl, rfl, rfl, rfl, rfl, (congrArg (fun (z : List Int) => some (SV.boxS 6 24 31 3 1 ds.length (z.map (PV.int .i64)))) (show (dgl (ds.take t34.toNat) ++ List.replicate (ds.length - t34.toNat) (0 : Int)) = dgl ds by rw [show t34.toNat = ds.length by omega]; simp)), (congrArg (fun (z : Nat × List PV) => some (SV.boxR 11 27 42 2 [some z])) (show ((0 : Nat), ([] : List PV)) = ((gI 0).length, fl (gI 0)) by rw [g0]; rfl)), rfl, rfl, rfl, trivial⟩)
            refine code_seq (fun K18 hK18 => ?_)
            refine code_block ?_
            have hP : PairsP ds cs := ⟨h0l, h0b, fun j hj => i3 j (by omega)⟩
            refine code_rangeFunc0 (allFaults_it) ((fun (s0 s1 s3 s4 s5 s32 s33 s34 : SV) (i : Nat) => ([(0, s0), (1, s1), (3, s3), (4, s4), (5, s5), (6, .boxS 6 24 31 3 1 ds.length ((dgl ds).map (.int .i64))), (11, .boxR 11 27 42 2 [some ((gI i).length, fl (gI i))]), (32, s32), (33, s33), (34, s34)] : St)) _ _ _ _ _ _ _ _) (fun i => True) (trivial) rfl (by decide) rfl (fun _ _ => ⟨rfl, rfl⟩) (fun _ => rfl) rfl (imp_covers ⟨rfl, rfl, rfl, rfl, rfl, rfl, rfl, rfl, rfl, rfl, trivial⟩) (fun i hi hIi => ?_) (fun hIi => ?_)
            · intro K19 hK19
              refine codeT.imp (σ' := [(61, .val (.agg [.int .i64 (fxOf ((fltA 16384).getD i 0)), .int .i64 (fyOf ((fltA 16384).getD i 0))])), (0, _), (1, _), (3, _), (4, _), (5, _), (6, _), (11, _), (32, _), (33, _), (34, _)]) ?_ (imp_covers ⟨rfl, rfl, rfl, rfl, rfl, rfl, rfl, rfl, rfl, rfl, rfl, trivial⟩)
              have hf := fE_ok hi
              refine code_region ?_
              refine list_cons rfl (op_alloc zt_42 (by decide) (by decide) rfl ?_)
              refine list_cons rfl (op_store (agg_42).2 12 [12] (by intro t ht; simp only [List.mem_cons, List.not_mem_nil, or_false] at ht; subst ht; rfl) (.inr ⟨rfl, _, rfl⟩) rfl rfl rfl rfl (by first | rfl | exact flat_part (flat_map _ (fun _ => rfl) _) _ _ | exact flat_map _ (fun _ => rfl) _) (by first | rfl | (simp [PV.cells]; done)) (by first | decide | omega | exact Nat.le_refl _ | (simp; done) | (simp; omega)) (by decide) rfl ?_)
              refine list_nil ?_
              refine hK19 _ rfl ?_; clear hK19 K19
              refine codeT.imp (σ' := [(0, _), (1, _), (3, _), (4, _), (5, _), (6, _), (11, _), (12, _), (32, _), (33, _), (34, _), (61, _)]) ?_ (imp_covers ⟨rfl, rfl, rfl, rfl, rfl, rfl, rfl, rfl, rfl, rfl, rfl, rfl, trivial⟩)
              refine code_block ?_
              refine code_seq (fun K20 hK20 => ?_)
              refine code_region ?_
              refine list_cons rfl (op_q (q_load_agg agg_42 12 (.inr ⟨rfl, _, rfl⟩) rfl rfl (by first | decide | omega | exact Nat.le_refl _ | (simp; done) | (simp; omega)) (by first | rfl | exact flat_part (flat_map _ (fun _ => rfl) _) _ _) (by decide)) ?_)
              refine list_cons rfl (op_q (q_loadS one_24 rfl (by decide)) ?_)
              refine list_cons rfl (op_q (q_load_boxD one_24 rfl (by decide)) ?_)
              refine list_cons rfl (op_call _ (explains_c _ _ ds cs (fE_ok hi) hP) rfl rfl (by decide) (by decide) (by decide) rfl ?_)
              rintro _ rfl
              refine list_nil ?_
              refine hK20 _ ?_; clear hK20 K20
              refine codeT.imp (σ' := [(0, _), (1, _), (3, _), (4, _), (5, _), (6, _), (11, _), (12, _), (32, _), (33, _), (34, _), (61, _), (65, _)]) ?_ (imp_covers ⟨rfl, rfl, rfl, rfl, rfl, rfl, rfl, rfl, rfl, rfl, rfl, rfl, rfl, trivial⟩)
              refine code_cond_d rfl (fun h7 => ?_) (fun h7 => ?_)
              · skip
                (try simp only [Decidable.not_not] at h7)
                refine code_region ?_
                refine list_cons rfl (op_loadR one_27 11 (.inr ⟨rfl, rfl⟩) rfl rfl (by decide) (by decide) (by decide) rfl ?_)
                refine list_cons rfl (op_q (q_load_agg agg_42 12 (.inr ⟨rfl, _, rfl⟩) rfl rfl (by first | decide | omega | exact Nat.le_refl _ | (simp; done) | (simp; omega)) (by first | rfl | exact flat_part (flat_map _ (fun _ => rfl) _) _ _) (by decide)) ?_)
                refine list_cons rfl (op_buildSlice sl_27 (parts := [(0, .tmp 67)]) rfl rfl rfl (by decide) (by decide) (by decide) rfl ?_)
                refine list_cons rfl (op_append_gen sl_27 (l := 66) (.inl rfl) rfl rfl (l2 := none) (.inl ⟨rfl, (by first | rfl | exact flat_map _ (fun _ => rfl) _)⟩) (by first | rfl | (simp [PV.cells, putAt, zeros]; done)) (by have hq := gL i; omega) (by decide) (by decide) (by decide) ?_)
                refine list_cons rfl (op_storeR (one_27).2 11 (.inr ⟨rfl, rfl⟩) rfl rfl (by decide) (by decide) (by first | exact flat_app3 (fl_flat _) rfl | rfl) Nat.zero_lt_one rfl ?_)
                refine list_nil ?_
                refine blk_n ?_
                refine rp_n ⟨trivial, imp_covers ⟨rfl, rfl, rfl, rfl, rfl, rfl, (congrArg (fun z => some (SV.boxR 11 27 42 2 [some z])) (by first | exact sameP (gN i hi h7) | exact snocP (gY i hi h7))), rfl, rfl, rfl, trivial⟩⟩
              · skip
                (try simp only [Decidable.not_not] at h7)
                refine code_skip ?_
                refine blk_n ?_
                refine rp_n ⟨trivial, imp_covers ⟨rfl, rfl, rfl, rfl, rfl, rfl, (congrArg (fun z => some (SV.boxR 11 27 42 2 [some z])) (by first | exact sameP (gN i hi h7) | exact snocP (gY i hi h7))), rfl, rfl, rfl, trivial⟩⟩
            · skip
              refine blk_n ?_
              refine hK18 _ ?_; clear hK18 K18
              refine codeT.imp (σ' := [(0, _), (1, _), (3, _), (4, _), (5, _), (6, _), (11, _), (32, _), (33, _), (34, _)]) ?_ (imp_covers ⟨rfl, rfl, rfl, rfl, rfl, rfl, rfl, rfl, rfl, rfl, trivial⟩)
              refine code_seq (fun K21 hK21 => ?_)
              refine code_region ?_
              refine list_cons rfl (op_loadR one_27 11 (.inr ⟨rfl, rfl⟩) rfl rfl (by decide) (by decide) (by decide) rfl ?_)
              refine list_cons rfl (op_q (q_assign rfl (by decide)) ?_)
              refine list_cons rfl (op_q (q_assign rfl (by decide)) ?_)
              refine list_nil ?_
              refine hK21 _ ?_; clear hK21 K21
              refine codeT.imp (σ' := [(0, _), (1, _), (3, _), (4, _), (5, _), (6, _), (11, _), (32, _), (33, _), (34, _)]) ?_ (imp_covers ⟨rfl, rfl, rfl, rfl, rfl, rfl, rfl, rfl, rfl, rfl, trivial⟩)
              refine code_ret ?_
              refine ends_ret (cs := []) rfl rfl rfl rfl trivial ?_
              first
                | (have e : ¬ PairsP ds cs := fun k => by have := k.1; have := k.2.1; omega
                   simp only [if_neg e, decide_eq_false e]; rfl)
                | (have e : ¬ PairsP ds cs := fun k => absurd (k.2.2 t34.toNat (by omega)).2 (by assumption)
                   simp only [if_neg e, decide_eq_false e]; rfl)
                | (have e : ¬ PairsP ds cs := fun k => absurd (k.2.2 t34.toNat (by omega)).1 (by assumption)
                   simp only [if_neg e, decide_eq_false e]; rfl)
                | (rw [if_pos hP, decide_eq_true hP, ← gE])
    · simp only [Bool.false_eq_true, if_true, if_false, Decidable.not_not] at h2
      refine list_guard_n rfl rfl rfl rfl (by decide) rfl ?_
      refine list_guard_n rfl rfl rfl rfl (by decide) rfl ?_
      refine list_cons rfl (op_q (q_pick rfl rfl (by decide)) ?_)
      refine list_nil ?_
      refine hK3 _ ?_; clear hK3 K3
      refine codeT.imp (σ' := [(0, _), (1, _), (3, _), (4, _), (5, _), (27, _)]) ?_ (imp_covers ⟨rfl, rfl, rfl, rfl, rfl, rfl, trivial⟩)
      refine code_cond_t rfl ?_
      refine code_seq (fun K22 hK22 => ?_)
      refine code_region ?_
      refine list_cons rfl (op_buildSlice sl_27 (parts := []) rfl rfl rfl (by decide) (by decide) (by decide) rfl ?_)
      refine list_cons rfl (op_q (q_assign rfl (by decide)) ?_)
      refine list_cons rfl (op_q (q_assign rfl (by decide)) ?_)
      refine list_nil ?_
      refine hK22 _ ?_; clear hK22 K22
      refine code_ret ?_
      refine then_r ?_; clear hK2 K2
      refine ends_ret (cs := []) rfl rfl rfl rfl trivial ?_
      first
        | (have e : ¬ PairsP ds cs := fun k => by have := k.1; have := k.2.1; omega
           simp only [if_neg e, decide_eq_false e]; rfl)
        | (have e : ¬ PairsP ds cs := fun k => absurd (k.2.2 t34.toNat (by omega)).2 (by assumption)
           simp only [if_neg e, decide_eq_false e]; rfl)
        | (have e : ¬ PairsP ds cs := fun k => absurd (k.2.2 t34.toNat (by omega)).1 (by assumption)
           simp only [if_neg e, decide_eq_false e]; rfl)
        | (rw [if_pos hP, decide_eq_true hP, ← gE])
  · simp only [Bool.false_eq_true, if_true, if_false, Decidable.not_not] at h1
    refine list_guard_n rfl rfl rfl rfl (by decide) rfl ?_
    refine list_guard_n rfl rfl rfl rfl (by decide) rfl ?_
    refine list_cons rfl (op_q (q_pick rfl rfl (by decide)) ?_)
    refine list_cons rfl (op_q (q_move rfl (by decide)) ?_)
    refine list_guard_n rfl rfl rfl rfl (by decide) rfl ?_
    refine list_guard_n rfl rfl rfl rfl (by decide) rfl ?_
    refine list_guard_n rfl rfl rfl rfl (by decide) rfl ?_
    refine list_cons rfl (op_q (q_pick rfl rfl (by decide)) ?_)
    refine list_nil ?_
    refine hK3 _ ?_; clear hK3 K3
    refine codeT.imp (σ' := [(0, _), (1, _), (3, _), (4, _), (5, _), (27, _)]) ?_ (imp_covers ⟨rfl, rfl, rfl, rfl, rfl, rfl, trivial⟩)
    refine code_cond_t rfl ?_
    refine code_seq (fun K23 hK23 => ?_)
    refine code_region ?_
    refine list_cons rfl (op_buildSlice sl_27 (parts := []) rfl rfl rfl (by decide) (by decide) (by decide) rfl ?_)
    refine list_cons rfl (op_q (q_assign rfl (by decide)) ?_)
    refine list_cons rfl (op_q (q_assign rfl (by decide)) ?_)
    refine list_nil ?_
    refine hK23 _ ?_; clear hK23 K23
    refine code_ret ?_
    refine then_r ?_; clear hK2 K2
    refine ends_ret (cs := []) rfl rfl rfl rfl trivial ?_
    first
      | (have e : ¬ PairsP ds cs := fun k => by have := k.1; have := k.2.1; omega
         simp only [if_neg e, decide_eq_false e]; rfl)
      | (have e : ¬ PairsP ds cs := fun k => absurd (k.2.2 t34.toNat (by omega)).2 (by assumption)
         simp only [if_neg e, decide_eq_false e]; rfl)
      | (have e : ¬ PairsP ds cs := fun k => absurd (k.2.2 t34.toNat (by omega)).1 (by assumption)
         simp only [if_neg e, decide_eq_false e]; rfl)
      | (rw [if_pos hP, decide_eq_true hP, ← gE])

end Go.Proofs.YtjbbijlbenkgcaaDoor
