/- Contracts of functions, walked over the pure layer; each says for which arguments. -/
import Derived.Test.YtnlojpkmkjdpbaaDoorChTy
import Derived.Test.YtnlojpkmkjdpbaaDoorTf
import Derived.Test.YtnlojpkmkjdpbaaDoorSp
import Derived.Test.YtnlojpkmkjdpbaaDoorS3
import Derived.Test.YtnlojpkmkjdpbaaDoorShelf
import Derived.Test.YtnlojpkmkjdpbaaDoorIm
import Derived.Test.YtnlojpkmkjdpbaaDoorS3b
import Derived.Test.YtnlojpkmkjdpbaaDoorS3d
import Derived.Test.YtnlojpkmkjdpbaaDoorIm3f
import Derived.Test.YtnlojpkmkjdpbaaDoorIm3g
namespace Go.Proofs.YtnlojpkmkjdpbaaDoor
open Go.RowKit ChTy
set_option linter.unusedVariables false
set_option linter.unusedSimpArgs false

def fxOf (j : Nat) : Int := ((j / 128 : Nat) : Int)
def fyOf (j : Nat) : Int := ((j % 128 : Nat) : Int)
theorem fx_at {d l : Int} (d0 : 0 ≤ d) (l0 : 0 ≤ l) (l1 : l < 128) : fxOf (d.toNat * 128 + l.toNat) = d ∧ fyOf (d.toNat * 128 + l.toNat) = l := by
  unfold fxOf fyOf; omega
def fltA (k : Nat) : List Nat := (List.range k).filter fun j => decide (FaultP (fxOf j) (fyOf j))
theorem fltA_yes {k : Nat} (h : FaultP (fxOf k) (fyOf k)) : fltA (k + 1) = fltA k ++ [k] := by
  unfold fltA; rw [List.range_succ, List.filter_append, List.filter_cons, if_pos (decide_eq_true h)]; rfl
theorem fltA_no {k : Nat} (h : ¬ FaultP (fxOf k) (fyOf k)) : fltA (k + 1) = fltA k := by
  unfold fltA; rw [List.range_succ, List.filter_append, List.filter_cons, if_neg (fun e => h (of_decide_eq_true e))]; simp
theorem fltA_get {x : Nat} (hp : FaultP (fxOf x) (fyOf x)) : ∀ m, x < m → (fltA m)[(fltA x).length]? = some x
  | 0, h => absurd h (Nat.not_lt_zero x)
  | m + 1, h => by
    by_cases e : x = m
    · subst e; rw [fltA_yes hp, List.getElem?_append_right (Nat.le_refl _), Nat.sub_self]; rfl
    · have ih := fltA_get hp m (by omega)
      by_cases c : FaultP (fxOf m) (fyOf m)
      · rw [fltA_yes c]
        have hl : (fltA x).length < (fltA m).length := by
          by_cases hc : (fltA x).length < (fltA m).length
          · exact hc
          · rw [List.getElem?_eq_none (by omega)] at ih; cases ih
        rw [List.getElem?_append_left hl]; exact ih
      · rw [fltA_no c]; exact ih
def fE (i : Nat) : List PV := [.agg [.int .i64 (fxOf ((fltA 16384).getD i 0)), .int .i64 (fyOf ((fltA 16384).getD i 0))]]
theorem fE_lt {d l : Int} (d0 : 0 ≤ d) (d1 : d < 128) (l0 : 0 ≤ l) (l1 : l < 128) (h : FaultP d l) : (fltA (d.toNat * 128 + l.toNat)).length < (fltA 16384).length := by
  have e := fx_at d0 l0 l1
  have k := fltA_get (x := d.toNat * 128 + l.toNat) (by rw [e.1, e.2]; exact h) 16384 (by omega)
  by_cases hc : (fltA (d.toNat * 128 + l.toNat)).length < (fltA 16384).length
  · exact hc
  · rw [List.getElem?_eq_none (by omega)] at k; cases k
theorem fE_at {d l : Int} (d0 : 0 ≤ d) (d1 : d < 128) (l0 : 0 ≤ l) (l1 : l < 128) (h : FaultP d l) : fE (fltA (d.toNat * 128 + l.toNat)).length = [.agg [.int .i64 d, .int .i64 l]] := by
  have e := fx_at d0 l0 l1
  have k := fltA_get (x := d.toNat * 128 + l.toNat) (by rw [e.1, e.2]; exact h) 16384 (by omega)
  unfold fE
  rw [List.getD_eq_getElem?_getD, k, Option.getD_some, e.1, e.2]
theorem fE_yes {d l : Int} (d0 : 0 ≤ d) (l0 : 0 ≤ l) (l1 : l < 128) (h : FaultP d l) : (fltA (d.toNat * 128 + l.toNat)).length + 1 = (fltA (d.toNat * 128 + (l + 1).toNat)).length := by
  have e := fx_at d0 l0 l1
  rw [show d.toNat * 128 + (l + 1).toNat = d.toNat * 128 + l.toNat + 1 by omega, fltA_yes (by rw [e.1, e.2]; exact h), List.length_append]; rfl
theorem fE_no {d l : Int} (d0 : 0 ≤ d) (l0 : 0 ≤ l) (l1 : l < 128) (h : ¬ FaultP d l) : (fltA (d.toNat * 128 + l.toNat)).length = (fltA (d.toNat * 128 + (l + 1).toNat)).length := by
  have e := fx_at d0 l0 l1
  rw [show d.toNat * 128 + (l + 1).toNat = d.toNat * 128 + l.toNat + 1 by omega, fltA_no (by rw [e.1, e.2]; exact h)]
theorem fE_ok {i : Nat} (h : i < (fltA 16384).length) : FaultP (fxOf ((fltA 16384).getD i 0)) (fyOf ((fltA 16384).getD i 0)) := by
  rw [List.getD_eq_getElem?_getD, List.getElem?_eq_getElem h, Option.getD_some]
  have := List.getElem_mem h
  unfold fltA at this
  exact of_decide_eq_true (List.mem_filter.1 this).2
theorem fltA_len (k : Nat) : (fltA k).length ≤ k := by
  unfold fltA; exact Nat.le_trans (List.length_filter_le _ _) (by simp)
def hOk (s : Int) (j : Nat) : Bool := decide (((cnt7 (fxOf j).toNat + cnt7 (fyOf j).toNat : Nat) : Int) = s ∧ (grp (fxOf j) (fyOf j)).length = 10)
def cHi (s : Int) (i : Nat) : Nat := ((fltA 16384).take i).countP (hOk s)
theorem cHi_le (s : Int) (i : Nat) : cHi s i ≤ i := by
  unfold cHi
  exact Nat.le_trans List.countP_le_length (by rw [List.length_take]; omega)
theorem cHi_succ (s : Int) {i : Nat} (h : i < (fltA 16384).length) : cHi s (i + 1) = cHi s i + if hOk s ((fltA 16384).getD i 0) = true then 1 else 0 := by
  unfold cHi
  rw [List.take_add_one, List.getElem?_eq_getElem h, List.countP_append, List.getD_eq_getElem?_getD, List.getElem?_eq_getElem h, Option.getD_some, Option.toList_some, List.countP_singleton]
theorem cHi_yes (s : Int) {i : Nat} (h : i < (fltA 16384).length) (k : ((cnt7 (fxOf ((fltA 16384).getD i 0)).toNat + cnt7 (fyOf ((fltA 16384).getD i 0)).toNat : Nat) : Int) = s ∧ (grp (fxOf ((fltA 16384).getD i 0)) (fyOf ((fltA 16384).getD i 0))).length = 10) : ((cHi s i : Nat) : Int) + 1 = ((cHi s (i + 1) : Nat) : Int) := by
  have e : hOk s ((fltA 16384).getD i 0) = true := decide_eq_true k
  rw [cHi_succ s h, if_pos e]; rfl
theorem cHi_no (s : Int) {i : Nat} (h : i < (fltA 16384).length) (k : ¬ (((cnt7 (fxOf ((fltA 16384).getD i 0)).toNat + cnt7 (fyOf ((fltA 16384).getD i 0)).toNat : Nat) : Int) = s ∧ (grp (fxOf ((fltA 16384).getD i 0)) (fyOf ((fltA 16384).getD i 0))).length = 10)) : ((cHi s i : Nat) : Int) = ((cHi s (i + 1) : Nat) : Int) := by
  have e : ¬ hOk s ((fltA 16384).getD i 0) = true := fun e => k (of_decide_eq_true e)
  rw [cHi_succ s h, if_neg e]; rfl
def cHs (s : Int) (k : Nat) : Nat := (fltA k).countP (hOk s)
theorem cHs_end (s : Int) : cHi s (fltA 16384).length = cHs s 16384 := by
  unfold cHi cHs; rw [List.take_length]
theorem cHs_yes (s : Int) {d l : Int} (d0 : 0 ≤ d) (l0 : 0 ≤ l) (l1 : l < 128) (h : FaultP d l) (h1 : ((cnt7 d.toNat + cnt7 l.toNat : Nat) : Int) = s) (h2 : (grp d l).length = 10) : ((cHs s (d.toNat * 128 + l.toNat) : Nat) : Int) + 1 = ((cHs s (d.toNat * 128 + (l + 1).toNat) : Nat) : Int) := by
  have e := fx_at d0 l0 l1
  unfold cHs
  rw [show d.toNat * 128 + (l + 1).toNat = d.toNat * 128 + l.toNat + 1 by omega, fltA_yes (by rw [e.1, e.2]; exact h), List.countP_append, List.countP_singleton, if_pos (by unfold hOk; rw [e.1, e.2]; exact decide_eq_true ⟨h1, h2⟩)]; rfl
theorem cHs_no (s : Int) {d l : Int} (d0 : 0 ≤ d) (l0 : 0 ≤ l) (l1 : l < 128) (h : ¬ (FaultP d l ∧ ((cnt7 d.toNat + cnt7 l.toNat : Nat) : Int) = s ∧ (grp d l).length = 10)) : ((cHs s (d.toNat * 128 + l.toNat) : Nat) : Int) = ((cHs s (d.toNat * 128 + (l + 1).toNat) : Nat) : Int) := by
  have e := fx_at d0 l0 l1
  unfold cHs
  rw [show d.toNat * 128 + (l + 1).toNat = d.toNat * 128 + l.toNat + 1 by omega]
  by_cases c : FaultP d l
  · rw [fltA_yes (by rw [e.1, e.2]; exact c), List.countP_append, List.countP_singleton, if_neg (by unfold hOk; rw [e.1, e.2]; exact fun k => h ⟨c, of_decide_eq_true k⟩)]; rfl
  · rw [fltA_no (by rw [e.1, e.2]; exact c)]
theorem cHs_le (s : Int) (k : Nat) : cHs s k ≤ k := Nat.le_trans List.countP_le_length (fltA_len k)
theorem cnt7_or {x y : Int} (h : FaultP x y) : cnt7 (x.toNat ||| y.toNat) = cnt7 x.toNat + cnt7 y.toNat := by
  have k : below 128 (fun x => below 128 (fun y => !Nat.beq (x &&& y) 0 || Nat.beq (cnt7 (x ||| y)) (cnt7 x + cnt7 y))) = true := by kernel_rfl
  have hb := h.b
  have k2 := below_ok (below_ok k x.toNat (by omega)) y.toNat (by omega)
  rw [h.2.2] at k2
  exact Nat.eq_of_beq_eq_true (by simpa using k2)

set_option maxRecDepth 4000 in
theorem impl_sizeOf (fx fy : Int) (h : FaultP fx fy) : PCalls Tryd.prog 20 [.agg [.int .i64 fx, .int .i64 fy]] (· = [.val (.int .i64 ((cnt7 fx.toNat + cnt7 fy.toNat : Nat) : Int))]) := by
  refine pcalls_of_code (n := 10) az Tryd.func20 (by kernel_rfl) rfl rfl (Nat.le_of_ble_eq_true rfl) (by intro t u h; simp [Tryd.f20] at h) ?_
  have hb := h.b
  have ho : fx.toNat ||| fy.toNat < 2 ^ 7 := Nat.or_lt_two_pow (by omega) (by omega)
  refine code_seq (fun K1 hK1 => ?_)
  refine code_region ?_
  refine list_cons rfl (op_box rfl (.inl ⟨rfl, rfl⟩) (by decide) (by decide) rfl ?_)
  refine list_cons rfl (op_q (q_assign rfl (by decide)) ?_)
  refine list_nil ?_
  refine hK1 _ ?_; clear hK1 K1
  refine code_seq (fun K2 hK2 => ?_)
  refine code_region ?_
  refine list_cons rfl (op_q (q_fieldAddr fi_36_0 rfl rfl (by decide)) ?_)
  refine list_cons rfl (op_q (q_load one_3 1 rfl rfl rfl (by first | rfl | exact get_map1 _ 0 _ (by first | omega | (simp; omega))) (by decide)) ?_)
  refine list_cons rfl (op_q (q_fieldAddr fi_36_1 rfl rfl (by decide)) ?_)
  refine list_cons rfl (op_q (q_load one_3 1 rfl rfl rfl (by first | rfl | exact get_map1 _ 0 _ (by first | omega | (simp; omega))) (by decide)) ?_)
  refine list_cons rfl (op_q (by first | exact q_orI rfl rfl (by decide) (by omega) (by omega) (by omega) (by omega) | exact q_ib rfl rfl rfl (by decide)) ?_)
  refine list_cons rfl (op_q (by first | exact q_convU (by rw [Tryd.underlying3]; rfl) Tryd.underlying50 rfl (by decide) (by omega) (by omega) | exact q_conv (by rw [Tryd.underlying3]; rfl) Tryd.underlying50 rfl (by decide)) ?_)
  refine list_cons rfl (op_call _ (onesCount_c _ (by omega) (by omega)) rfl rfl (by decide) (by decide) (by decide) rfl ?_)
  rintro _ rfl
  refine list_cons rfl (op_q (q_assign rfl (by decide)) ?_)
  refine list_nil ?_
  refine hK2 _ ?_; clear hK2 K2
  refine codeT.imp (σ' := [(0, _), (1, _), (2, _)]) ?_ (imp_covers ⟨rfl, rfl, rfl, trivial⟩)
  refine code_ret ?_
  refine ends_ret (cs := []) rfl rfl rfl rfl trivial ?_
  rw [Int.toNat_natCast, cnt7_or h]

set_option maxRecDepth 4000 in
theorem allFaults_it  : ITer Tryd.prog 19 [] ((fltA 16384).length) (fE) := by
  refine iter_of_code (n := 24) Tryd.func19 (by kernel_rfl) rfl rfl (Nat.le_of_ble_eq_true rfl) rfl (fun Y hYN hYe => ?_)
  refine codeY_imp (σ' := [(0, _)]) rfl (imp_covers ⟨rfl, trivial⟩) ?_
  refine codeY_seq (fun K1 hK1 => ?_)
  refine codeY_of rfl rfl ?_
  refine code_region ?_
  refine list_cons rfl (op_q (q_move rfl (by decide)) ?_)
  refine list_nil ?_
  refine thy_n ?_
  refine hK1 _ _ ?_; clear hK1 K1
  refine codeY_imp (σ' := [(0, _), (5, _)]) rfl (imp_covers ⟨rfl, rfl, trivial⟩) ?_
  refine codeY_block ?_
  refine codeY_loop (X := Int) (fun x => [(0, .yld Y.l), (5, .val (.int .i64 x))]) (fun x => (false, (fltA (x.toNat * 128)).length)) (fun x => 0 ≤ x ∧ x ≤ 128) (fun x => (128 - x).toNat) (_) rfl (imp_covers ⟨rfl, rfl, trivial⟩) rfl ?_ ?_
  · (try dsimp only)
    exact ⟨by omega, by omega⟩
  · intro x hI
    revert hI; revert x; intro t5 hI
    replace hI : 0 ≤ t5 ∧ t5 ≤ 128 := hI
    show codeY _ _ _ [(0, .yld Y.l), (5, .val (.int .i64 t5))] (false, (fltA (t5.toNat * 128)).length) _
    obtain ⟨i1, i2⟩ := hI
    refine codeY_seq (fun K2 hK2 => ?_)
    refine codeY_of rfl rfl ?_
    refine code_region ?_
    refine list_cons rfl (op_q (q_lt rfl rfl (by decide)) ?_)
    refine list_nil ?_
    refine thy_n ?_
    refine hK2 _ _ ?_; clear hK2 K2
    refine codeY_imp (σ' := [(0, _), (5, _), (6, _)]) rfl (imp_covers ⟨rfl, rfl, rfl, trivial⟩) ?_
    refine codeY_seq (fun K3 hK3 => ?_)
    refine codeY_of rfl rfl ?_
    refine code_cond_d rfl (fun h1 => ?_) (fun h1 => ?_)
    · skip
      (try have qh1 := fE_lt (by omega) (by omega) (by omega) (by omega) h1)
      refine code_skip ?_
      refine thy_n ?_
      refine hK3 _ _ ?_; clear hK3 K3
      refine codeY_imp (σ' := [(0, _), (5, _)]) rfl (imp_covers ⟨rfl, rfl, trivial⟩) ?_
      refine codeY_seq (fun K4 hK4 => ?_)
      refine codeY_block ?_
      refine codeY_seq (fun K5 hK5 => ?_)
      refine codeY_of rfl rfl ?_
      refine code_region ?_
      refine list_cons rfl (op_q (q_move rfl (by decide)) ?_)
      refine list_cons rfl (op_q (q_assign rfl (by decide)) ?_)
      refine list_nil ?_
      refine thy_n ?_
      refine hK5 _ _ ?_; clear hK5 K5
      refine codeY_imp (σ' := [(0, _), (2, _), (5, _)]) rfl (imp_covers ⟨rfl, rfl, rfl, trivial⟩) ?_
      refine codeY_seq (fun K6 hK6 => ?_)
      refine codeY_of rfl rfl ?_
      refine code_region ?_
      refine list_cons rfl (op_q (q_move rfl (by decide)) ?_)
      refine list_nil ?_
      refine thy_n ?_
      refine hK6 _ _ ?_; clear hK6 K6
      refine codeY_imp (σ' := [(0, _), (2, _), (5, _), (8, _)]) rfl (imp_covers ⟨rfl, rfl, rfl, rfl, trivial⟩) ?_
      refine codeY_block ?_
      refine codeY_loop (X := Int) (fun x => [(0, .yld Y.l), (2, .val (.int .i64 t5)), (5, .val (.int .i64 t5)), (8, .val (.int .i64 x))]) (fun x => (false, (fltA (t5.toNat * 128 + x.toNat)).length)) (fun x => 0 ≤ x ∧ x ≤ 128) (fun x => (128 - x).toNat) (_) rfl (imp_covers ⟨rfl, rfl, rfl, rfl, trivial⟩) rfl ?_ ?_
      · (try dsimp only)
        exact ⟨by omega, by omega⟩
      · intro x hI
        revert hI; revert x; intro t8 hI
        replace hI : 0 ≤ t8 ∧ t8 ≤ 128 := hI
        show codeY _ _ _ [(0, .yld Y.l), (2, .val (.int .i64 t5)), (5, .val (.int .i64 t5)), (8, .val (.int .i64 t8))] (false, (fltA (t5.toNat * 128 + t8.toNat)).length) _
        obtain ⟨j1, j2⟩ := hI
        refine codeY_seq (fun K7 hK7 => ?_)
        refine codeY_of rfl rfl ?_
        refine code_region ?_
        refine list_cons rfl (op_q (q_lt rfl rfl (by decide)) ?_)
        refine list_nil ?_
        refine thy_n ?_
        refine hK7 _ _ ?_; clear hK7 K7
        refine codeY_imp (σ' := [(0, _), (2, _), (5, _), (8, _), (9, _)]) rfl (imp_covers ⟨rfl, rfl, rfl, rfl, rfl, trivial⟩) ?_
        refine codeY_seq (fun K8 hK8 => ?_)
        refine codeY_of rfl rfl ?_
        refine code_cond_d rfl (fun h2 => ?_) (fun h2 => ?_)
        · skip
          (try have qh2 := fE_lt (by omega) (by omega) (by omega) (by omega) h2)
          refine code_skip ?_
          refine thy_n ?_
          refine hK8 _ _ ?_; clear hK8 K8
          refine codeY_imp (σ' := [(0, _), (2, _), (5, _), (8, _)]) rfl (imp_covers ⟨rfl, rfl, rfl, rfl, trivial⟩) ?_
          refine codeY_seq (fun K9 hK9 => ?_)
          refine codeY_block ?_
          refine codeY_seq (fun K10 hK10 => ?_)
          refine codeY_of rfl rfl ?_
          refine code_region ?_
          refine list_cons rfl (op_q (q_move rfl (by decide)) ?_)
          refine list_cons rfl (op_q (q_assign rfl (by decide)) ?_)
          refine list_nil ?_
          refine thy_n ?_
          refine hK10 _ _ ?_; clear hK10 K10
          refine codeY_imp (σ' := [(0, _), (2, _), (3, _), (5, _), (8, _)]) rfl (imp_covers ⟨rfl, rfl, rfl, rfl, rfl, trivial⟩) ?_
          refine codeY_seq (fun K11 hK11 => ?_)
          refine codeY_of rfl rfl ?_
          refine code_region ?_
          refine list_cons rfl (op_q (q_move rfl (by decide)) ?_)
          refine list_cons rfl (op_q (q_move rfl (by decide)) ?_)
          refine list_cons rfl (op_q (q_build bt_36 (parts := [(0, .tmp 11), (1, .tmp 12)]) rfl rfl (by decide)) ?_)
          refine list_cons rfl (op_alloc zt_36 (by decide) (by decide) rfl ?_)
          refine list_cons rfl (op_store (agg_36).2 4 [4] (by intro t ht; simp only [List.mem_cons, List.not_mem_nil, or_false] at ht; subst ht; rfl) (.inr ⟨rfl, _, rfl⟩) rfl rfl rfl rfl (by first | rfl | exact flat_part (flat_map _ (fun _ => rfl) _) _ _ | exact flat_map _ (fun _ => rfl) _) (by first | rfl | (simp [PV.cells]; done)) (by first | decide | omega | exact Nat.le_refl _ | (simp; done) | (simp; omega)) (by decide) rfl ?_)
          refine list_nil ?_
          refine thy_n ?_
          refine hK11 _ _ ?_; clear hK11 K11
          refine codeY_imp (σ' := [(0, _), (2, _), (3, _), (4, _), (5, _), (8, _)]) rfl (imp_covers ⟨rfl, rfl, rfl, rfl, rfl, rfl, trivial⟩) ?_
          refine codeY_seq (fun K12 hK12 => ?_)
          refine codeY_region ?_
          refine listY_op rfl rfl (op_q (q_load_agg agg_36 4 (.inr ⟨rfl, _, rfl⟩) rfl rfl (by first | decide | omega | exact Nat.le_refl _ | (simp; done) | (simp; omega)) (by first | rfl | exact flat_part (flat_map _ (fun _ => rfl) _) _ _) (by decide)) ?_)
          refine listY_op rfl rfl (op_call _ (impl_IsFault _ _) rfl rfl (by decide) (by decide) (by decide) rfl ?_)
          rintro _ rfl
          refine listY_op rfl rfl (op_q (q_move rfl (by decide)) ?_)
          refine listY_split (dj := 16) rfl (fun h3 => ?_) (fun h3 => ?_)
          · skip
            (try have qh3 := fE_lt (by omega) (by omega) (by omega) (by omega) h3)
            refine listY_guard_y rfl rfl rfl (by decide) rfl (op_q (q_move rfl (by decide)) ?_)
            refine listY_guard_y rfl rfl rfl (by decide) rfl (op_q (q_load_agg agg_36 4 (.inr ⟨rfl, _, rfl⟩) rfl rfl (by first | decide | omega | exact Nat.le_refl _ | (simp; done) | (simp; omega)) (by first | rfl | exact flat_part (flat_map _ (fun _ => rfl) _) _ _) (by decide)) ?_)
            refine listY_yieldG (k := (fltA (t5.toNat * 128 + t8.toNat)).length) rfl rfl (by rw [hYe]; exact congrArg some (fE_at (by omega) (by omega) (by omega) (by omega) (by assumption)).symm) (by rw [hYe]; rfl) (by rw [hYN]; omega) rfl (by decide) (.inr ⟨_, _, _, rfl, rfl, rfl, by decide⟩) ?_ ?_
            · skip
              refine listY_guard_y rfl rfl rfl (by decide) rfl (op_q (by first | exact q_notd rfl (by decide) | exact q_not rfl (by decide)) ?_)
              refine listY_op rfl rfl (op_q (q_pick rfl rfl (by decide)) ?_)
              refine listY_nil ?_
              refine thy_n ?_
              refine hK12 _ _ ?_; clear hK12 K12
              refine codeY_imp (σ' := [(0, _), (2, _), (3, _), (4, _), (5, _), (8, _), (21, _)]) rfl (imp_covers ⟨rfl, rfl, rfl, rfl, rfl, rfl, rfl, trivial⟩) ?_
              refine codeY_of rfl rfl ?_
              refine code_cond_f rfl ?_
              refine code_skip ?_
              refine bly_n ?_
              refine thy_n ?_
              refine hK9 _ _ ?_; clear hK9 K9
              refine codeY_imp (σ' := [(0, _), (2, _), (3, _), (4, _), (5, _), (8, _)]) rfl (imp_covers ⟨rfl, rfl, rfl, rfl, rfl, rfl, trivial⟩) ?_
              refine codeY_of rfl rfl ?_
              refine code_region ?_
              refine list_cons rfl (op_q (by first | exact q_addI rfl rfl (by decide) (by omega) (by omega) | exact q_ib rfl rfl rfl (by decide)) ?_)
              refine list_cons rfl (op_q (q_move rfl (by decide)) ?_)
              refine list_nil ?_
              refine thy_n ⟨(_), rfl, imp_covers ⟨rfl, rfl, rfl, rfl, trivial⟩, ?_, ?_, ?_⟩
              · (try dsimp only); first | rw [fE_yes (by omega) (by omega) (by omega) (by assumption)] | rw [fE_no (by omega) (by omega) (by omega) (by assumption)]
              · (try dsimp only)
                exact ⟨by omega, by omega⟩
              · (try dsimp only); omega
            · skip
              refine listY_guard_y rfl rfl rfl (by decide) rfl (op_q (by first | exact q_notd rfl (by decide) | exact q_not rfl (by decide)) ?_)
              refine listY_op rfl rfl (op_q (q_pick rfl rfl (by decide)) ?_)
              refine listY_nil ?_
              refine thy_n ?_
              refine hK12 _ _ ?_; clear hK12 K12
              refine codeY_imp (σ' := [(0, _), (2, _), (3, _), (4, _), (5, _), (8, _), (21, _)]) rfl (imp_covers ⟨rfl, rfl, rfl, rfl, rfl, rfl, rfl, trivial⟩) ?_
              refine codeY_of rfl rfl ?_
              refine code_cond_t rfl ?_
              refine code_ret ?_
              refine bly_r ?_
              refine thy_r ?_
              refine thy_r ?_
              refine bly_r ?_
              refine bly_r ?_
              refine thy_r ?_
              refine thy_r ?_
              refine bly_r ?_
              exact ⟨.inr rfl, .inl ⟨rfl, by (try dsimp only); omega⟩⟩
          · skip
            (try have qh3 := fE_lt (by omega) (by omega) (by omega) (by omega) h3)
            refine listY_guard_n rfl rfl rfl rfl (by decide) (by decide) ?_
            refine listY_guard_n rfl rfl rfl rfl (by decide) (by decide) ?_
            refine listY_guard_n rfl rfl rfl rfl (by decide) (by decide) ?_
            refine listY_guard_n rfl rfl rfl rfl (by decide) (by decide) ?_
            refine listY_op rfl rfl (op_q (q_pick rfl rfl (by decide)) ?_)
            refine listY_nil ?_
            refine thy_n ?_
            refine hK12 _ _ ?_; clear hK12 K12
            refine codeY_imp (σ' := [(0, _), (2, _), (3, _), (4, _), (5, _), (8, _), (21, _)]) rfl (imp_covers ⟨rfl, rfl, rfl, rfl, rfl, rfl, rfl, trivial⟩) ?_
            refine codeY_of rfl rfl ?_
            refine code_cond_f rfl ?_
            refine code_skip ?_
            refine bly_n ?_
            refine thy_n ?_
            refine hK9 _ _ ?_; clear hK9 K9
            refine codeY_imp (σ' := [(0, _), (2, _), (3, _), (4, _), (5, _), (8, _)]) rfl (imp_covers ⟨rfl, rfl, rfl, rfl, rfl, rfl, trivial⟩) ?_
            refine codeY_of rfl rfl ?_
            refine code_region ?_
            refine list_cons rfl (op_q (by first | exact q_addI rfl rfl (by decide) (by omega) (by omega) | exact q_ib rfl rfl rfl (by decide)) ?_)
            refine list_cons rfl (op_q (q_move rfl (by decide)) ?_)
            refine list_nil ?_
            refine thy_n ⟨(_), rfl, imp_covers ⟨rfl, rfl, rfl, rfl, trivial⟩, ?_, ?_, ?_⟩
            · (try dsimp only); first | rw [fE_yes (by omega) (by omega) (by omega) (by assumption)] | rw [fE_no (by omega) (by omega) (by omega) (by assumption)]
            · (try dsimp only)
              exact ⟨by omega, by omega⟩
            · (try dsimp only); omega
        · skip
          (try have qh2 := fE_lt (by omega) (by omega) (by omega) (by omega) h2)
          refine code_exit ?_
          refine thy_x ?_; clear hK8 K8
          refine thy_x ?_
          refine bly_hit ?_
          refine bly_n ?_
          refine thy_n ?_
          refine hK4 _ _ ?_; clear hK4 K4
          refine codeY_imp (σ' := [(0, _), (2, _), (5, _), (8, _)]) rfl (imp_covers ⟨rfl, rfl, rfl, rfl, trivial⟩) ?_
          refine codeY_of rfl rfl ?_
          refine code_region ?_
          refine list_cons rfl (op_q (by first | exact q_addI rfl rfl (by decide) (by omega) (by omega) | exact q_ib rfl rfl rfl (by decide)) ?_)
          refine list_cons rfl (op_q (q_move rfl (by decide)) ?_)
          refine list_nil ?_
          refine thy_n ⟨(_), rfl, imp_covers ⟨rfl, rfl, trivial⟩, ?_, ?_, ?_⟩
          · (try dsimp only); rw [show (t5 + 1).toNat * 128 = t5.toNat * 128 + t8.toNat by omega]
          · (try dsimp only)
            exact ⟨by omega, by omega⟩
          · (try dsimp only); omega
    · skip
      (try have qh1 := fE_lt (by omega) (by omega) (by omega) (by omega) h1)
      refine code_exit ?_
      refine thy_x ?_; clear hK3 K3
      refine thy_x ?_
      refine bly_hit ?_
      exact ⟨.inl rfl, .inr (by rw [show t5.toNat * 128 = 16384 by omega])⟩

set_option maxRecDepth 4000 in
theorem spec_CountHarmless (s : Int) : PCalls Tryd.prog 5 [.int .i64 s] (· = [.val (.int .i64 (if 0 ≤ s ∧ s ≤ 7 then ((cHs s 16384 : Nat) : Int) else 0)), .val (.bool (decide (0 ≤ s ∧ s ≤ 7)))]) := by
  refine pcalls_of_code (n := 39) az Tryd.func5 (by kernel_rfl) rfl rfl (Nat.le_of_ble_eq_true rfl) (by intro t u h; simp [Tryd.f5] at h) ?_
  refine code_seq (fun K1 hK1 => ?_)
  refine code_region ?_
  refine list_cons rfl (op_q (q_assign rfl (by decide)) ?_)
  refine list_cons rfl (op_q (q_assign rfl (by decide)) ?_)
  refine list_nil ?_
  refine hK1 _ ?_; clear hK1 K1
  refine code_seq (fun K2 hK2 => ?_)
  refine code_seq (fun K3 hK3 => ?_)
  refine code_region ?_
  refine list_cons rfl (op_q (q_move rfl (by decide)) ?_)
  refine list_cons rfl (op_call _ (spec_l1In _ _ _) rfl rfl (by decide) (by decide) (by decide) rfl ?_)
  rintro _ rfl
  refine list_cons rfl (op_q (by first | exact q_notd rfl (by decide) | exact q_not rfl (by decide)) ?_)
  refine list_nil ?_
  refine hK3 _ ?_; clear hK3 K3
  refine codeT.imp (σ' := [(0, _), (2, _), (3, _), (10, _)]) ?_ (imp_covers ⟨rfl, rfl, rfl, rfl, trivial⟩)
  refine code_cond_d rfl (fun h1 => ?_) (fun h1 => ?_)
  · skip
    (try simp only [Decidable.not_not] at h1); (try have qh1 := FaultP.b h1)
    refine code_seq (fun K4 hK4 => ?_)
    refine code_region ?_
    refine list_cons rfl (op_q (q_assign rfl (by decide)) ?_)
    refine list_cons rfl (op_q (q_assign rfl (by decide)) ?_)
    refine list_nil ?_
    refine hK4 _ ?_; clear hK4 K4
    refine code_ret ?_
    refine then_r ?_; clear hK2 K2
    refine ends_ret (cs := []) rfl rfl rfl rfl trivial ?_
    first
      | (rw [if_neg h1, decide_eq_false h1]; done)
      | (rw [if_pos h1, decide_eq_true h1, show dark.toNat * 128 = 16384 by omega])
  · skip
    (try simp only [Decidable.not_not] at h1); (try have qh1 := FaultP.b h1)
    refine code_skip ?_
    refine hK2 _ ?_; clear hK2 K2
    refine code_seq (fun K5 hK5 => ?_)
    refine code_region ?_
    refine list_cons rfl (op_q (q_assign rfl (by decide)) ?_)
    refine list_nil ?_
    refine hK5 _ ?_; clear hK5 K5
    refine code_seq (fun K6 hK6 => ?_)
    refine code_seq (fun K7 hK7 => ?_)
    refine code_region ?_
    refine list_cons rfl (op_q (q_assign rfl (by decide)) ?_)
    refine list_nil ?_
    refine hK7 _ ?_; clear hK7 K7
    refine code_block ?_
    refine code_loop (X := Int × Bool × Int × Int) (fun x => [(0, .val (.int .i64 s)), (2, .val (.int .i64 x.1)), (3, .val (.bool x.2.1)), (4, .val (.int .i64 x.2.2.1)), (5, .val (.int .i64 x.2.2.2))]) (fun x => 0 ≤ x.2.2.2 ∧ x.2.2.2 ≤ 128 ∧ x.2.2.1 = cHs s (x.2.2.2.toNat * 128)) (fun x => (128 - x.2.2.2).toNat) (_, _, _, _) (imp_covers ⟨rfl, rfl, rfl, rfl, rfl, trivial⟩) ?_ ?_
    · (try dsimp only)
      exact ⟨by omega, by omega, rfl⟩
    · intro x hI
      obtain ⟨t2, t3, many, dark⟩ := x
      replace hI : 0 ≤ dark ∧ dark ≤ 128 ∧ many = cHs s (dark.toNat * 128) := hI
      show codeT _ _ _ [(0, .val (.int .i64 s)), (2, .val (.int .i64 t2)), (3, .val (.bool t3)), (4, .val (.int .i64 many)), (5, .val (.int .i64 dark))] _
      obtain ⟨i1, i2, rfl⟩ := hI
      refine code_seq (fun K8 hK8 => ?_)
      refine code_seq (fun K9 hK9 => ?_)
      refine code_region ?_
      refine list_cons rfl (op_q (q_move rfl (by decide)) ?_)
      refine list_cons rfl (op_q (q_lt rfl rfl (by decide)) ?_)
      refine list_nil ?_
      refine hK9 _ ?_; clear hK9 K9
      refine code_cond_d rfl (fun h2 => ?_) (fun h2 => ?_)
      · skip
        (try simp only [Decidable.not_not] at h2); (try have qh2 := FaultP.b h2)
        refine code_skip ?_
        refine hK8 _ ?_; clear hK8 K8
        refine code_seq (fun K10 hK10 => ?_)
        refine code_block ?_
        refine code_seq (fun K11 hK11 => ?_)
        refine code_region ?_
        refine list_cons rfl (op_q (q_assign rfl (by decide)) ?_)
        refine list_nil ?_
        refine hK11 _ ?_; clear hK11 K11
        refine code_block ?_
        refine code_loop (X := Int × Bool × Int × Int) (fun x => [(0, .val (.int .i64 s)), (2, .val (.int .i64 x.1)), (3, .val (.bool x.2.1)), (4, .val (.int .i64 x.2.2.1)), (5, .val (.int .i64 dark)), (6, .val (.int .i64 x.2.2.2))]) (fun x => 0 ≤ x.2.2.2 ∧ x.2.2.2 ≤ 128 ∧ x.2.2.1 = cHs s (dark.toNat * 128 + x.2.2.2.toNat)) (fun x => (128 - x.2.2.2).toNat) (_, _, _, _) (imp_covers ⟨rfl, rfl, rfl, rfl, rfl, rfl, trivial⟩) ?_ ?_
        · (try dsimp only)
          exact ⟨by omega, by omega, rfl⟩
        · intro x hI
          obtain ⟨t2, t3, many, lit⟩ := x
          replace hI : 0 ≤ lit ∧ lit ≤ 128 ∧ many = cHs s (dark.toNat * 128 + lit.toNat) := hI
          show codeT _ _ _ [(0, .val (.int .i64 s)), (2, .val (.int .i64 t2)), (3, .val (.bool t3)), (4, .val (.int .i64 many)), (5, .val (.int .i64 dark)), (6, .val (.int .i64 lit))] _
          obtain ⟨j1, j2, rfl⟩ := hI
          have hle := cHs_le s (dark.toNat * 128 + lit.toNat)
          have gl := grp_len dark lit
          refine code_seq (fun K12 hK12 => ?_)
          refine code_seq (fun K13 hK13 => ?_)
          refine code_region ?_
          refine list_cons rfl (op_q (q_move rfl (by decide)) ?_)
          refine list_cons rfl (op_q (q_lt rfl rfl (by decide)) ?_)
          refine list_nil ?_
          refine hK13 _ ?_; clear hK13 K13
          refine code_cond_d rfl (fun h3 => ?_) (fun h3 => ?_)
          · skip
            (try simp only [Decidable.not_not] at h3); (try have qh3 := FaultP.b h3)
            refine code_skip ?_
            refine hK12 _ ?_; clear hK12 K12
            refine code_seq (fun K14 hK14 => ?_)
            refine code_block ?_
            refine code_seq (fun K15 hK15 => ?_)
            refine code_region ?_
            refine list_cons rfl (op_q (q_move rfl (by decide)) ?_)
            refine list_cons rfl (op_q (q_move rfl (by decide)) ?_)
            refine list_cons rfl (op_q (q_build bt_36 (parts := [(0, .tmp 19), (1, .tmp 20)]) rfl rfl (by decide)) ?_)
            refine list_cons rfl (op_alloc zt_36 (by decide) (by decide) rfl ?_)
            refine list_cons rfl (op_store (agg_36).2 7 [7] (by intro t ht; simp only [List.mem_cons, List.not_mem_nil, or_false] at ht; subst ht; rfl) (.inr ⟨rfl, _, rfl⟩) rfl rfl rfl rfl (by first | rfl | exact flat_part (flat_map _ (fun _ => rfl) _) _ _ | exact flat_map _ (fun _ => rfl) _) (by first | rfl | (simp [PV.cells]; done)) (by first | decide | omega | exact Nat.le_refl _ | (simp; done) | (simp; omega)) (by decide) rfl ?_)
            refine list_nil ?_
            refine hK15 _ ?_; clear hK15 K15
            refine codeT.imp (σ' := [(0, _), (2, _), (3, _), (4, _), (5, _), (6, _), (7, _)]) ?_ (imp_covers ⟨rfl, rfl, rfl, rfl, rfl, rfl, rfl, trivial⟩)
            refine code_seq (fun K16 hK16 => ?_)
            refine code_region ?_
            refine list_cons rfl (op_q (q_load_agg agg_36 7 (.inr ⟨rfl, _, rfl⟩) rfl rfl (by first | decide | omega | exact Nat.le_refl _ | (simp; done) | (simp; omega)) (by first | rfl | exact flat_part (flat_map _ (fun _ => rfl) _) _ _) (by decide)) ?_)
            refine list_cons rfl (op_call _ (spec_l3Fault _ _) rfl rfl (by decide) (by decide) (by decide) rfl ?_)
            rintro _ rfl
            refine list_cons rfl (op_q (q_move rfl (by decide)) ?_)
            refine list_guard_d rfl rfl rfl rfl (by decide) rfl (by decide) (fun h4 => ?_) (fun h4 => ?_)
            · simp only [Bool.false_eq_true, if_true, if_false, Decidable.not_not] at h4
              (try simp only [Decidable.not_not] at h4); (try have qh4 := FaultP.b h4)
              refine id (op_q (q_load_agg agg_36 7 (.inr ⟨rfl, _, rfl⟩) rfl rfl (by first | decide | omega | exact Nat.le_refl _ | (simp; done) | (simp; omega)) (by first | rfl | exact flat_part (flat_map _ (fun _ => rfl) _) _ _) (by decide)) ?_)
              refine list_guard_y rfl rfl rfl rfl (by decide) rfl ?_
              refine id (op_call _ (spec_l3Size _ _ (by omega) (by omega)) rfl rfl (by decide) (by decide) (by decide) rfl ?_)
              rintro _ rfl
              refine list_guard_y rfl rfl rfl rfl (by decide) rfl ?_
              refine id (op_q (q_move rfl (by decide)) ?_)
              refine list_guard_y rfl rfl rfl rfl (by decide) rfl ?_
              refine id (op_q (q_eq rfl rfl (by decide)) ?_)
              refine list_cons rfl (op_q (q_pick rfl rfl (by decide)) ?_)
              refine list_cons rfl (op_q (q_move rfl (by decide)) ?_)
              refine list_guard_d rfl rfl rfl rfl (by decide) rfl (by decide) (fun h5 => ?_) (fun h5 => ?_)
              · simp only [Bool.false_eq_true, if_true, if_false, Decidable.not_not] at h5
                (try simp only [Decidable.not_not] at h5); (try have qh5 := FaultP.b h5)
                refine id (op_q (q_load_agg agg_36 7 (.inr ⟨rfl, _, rfl⟩) rfl rfl (by first | decide | omega | exact Nat.le_refl _ | (simp; done) | (simp; omega)) (by first | rfl | exact flat_part (flat_map _ (fun _ => rfl) _) _ _) (by decide)) ?_)
                refine list_guard_y rfl rfl rfl rfl (by decide) rfl ?_
                refine id (op_call _ (spec_l3Groups _ _ (by omega) (by omega)) rfl rfl (by decide) (by decide) (by decide) rfl ?_)
                rintro _ rfl
                refine list_guard_y rfl rfl rfl rfl (by decide) rfl ?_
                refine id (op_q (q_len_sl Tryd.underlying39 rfl rfl (by decide)) ?_)
                refine list_guard_y rfl rfl rfl rfl (by decide) rfl ?_
                refine id (op_q (q_eq rfl rfl (by decide)) ?_)
                refine list_cons rfl (op_q (q_pick rfl rfl (by decide)) ?_)
                refine list_nil ?_
                refine hK16 _ ?_; clear hK16 K16
                refine codeT.imp (σ' := [(0, _), (2, _), (3, _), (4, _), (5, _), (6, _), (7, _), (35, _)]) ?_ (imp_covers ⟨rfl, rfl, rfl, rfl, rfl, rfl, rfl, rfl, trivial⟩)
                refine code_cond_d rfl (fun h6 => ?_) (fun h6 => ?_)
                · skip
                  (try simp only [Decidable.not_not] at h6); (try have qh6 := FaultP.b h6)
                  refine code_region ?_
                  refine list_cons rfl (op_q (q_move rfl (by decide)) ?_)
                  refine list_cons rfl (op_q (by first | exact q_addI rfl rfl (by decide) (by omega) (by omega) | exact q_ib rfl rfl rfl (by decide)) ?_)
                  refine list_cons rfl (op_q (q_assign rfl (by decide)) ?_)
                  refine list_nil ?_
                  refine blk_n ?_
                  refine hK14 _ ?_; clear hK14 K14
                  refine code_region ?_
                  refine list_cons rfl (op_q (q_move rfl (by decide)) ?_)
                  refine list_cons rfl (op_q (by first | exact q_addI rfl rfl (by decide) (by omega) (by omega) | exact q_ib rfl rfl rfl (by decide)) ?_)
                  refine list_cons rfl (op_q (q_assign rfl (by decide)) ?_)
                  refine list_nil ?_
                  refine then_n ⟨(_, _, _, _), imp_covers ⟨rfl, rfl, rfl, rfl, rfl, rfl, trivial⟩, ?_, ?_⟩
                  · (try dsimp only)
                    refine ⟨by omega, by omega, ?_⟩
                    first
                      | exact cHs_yes s (by omega) (by omega) (by omega) (by assumption) (by omega) (by omega)
                      | exact cHs_no s (by omega) (by omega) (by omega) (fun k => absurd k.1 (by assumption))
                      | exact cHs_no s (by omega) (by omega) (by omega) (fun k => by have := k.2.1; have := k.2.2; omega)
                  · (try dsimp only); omega
                · skip
                  (try simp only [Decidable.not_not] at h6); (try have qh6 := FaultP.b h6)
                  refine code_skip ?_
                  refine blk_n ?_
                  refine hK14 _ ?_; clear hK14 K14
                  refine code_region ?_
                  refine list_cons rfl (op_q (q_move rfl (by decide)) ?_)
                  refine list_cons rfl (op_q (by first | exact q_addI rfl rfl (by decide) (by omega) (by omega) | exact q_ib rfl rfl rfl (by decide)) ?_)
                  refine list_cons rfl (op_q (q_assign rfl (by decide)) ?_)
                  refine list_nil ?_
                  refine then_n ⟨(_, _, _, _), imp_covers ⟨rfl, rfl, rfl, rfl, rfl, rfl, trivial⟩, ?_, ?_⟩
                  · (try dsimp only)
                    refine ⟨by omega, by omega, ?_⟩
                    first
                      | exact cHs_yes s (by omega) (by omega) (by omega) (by assumption) (by omega) (by omega)
                      | exact cHs_no s (by omega) (by omega) (by omega) (fun k => absurd k.1 (by assumption))
                      | exact cHs_no s (by omega) (by omega) (by omega) (fun k => by have := k.2.1; have := k.2.2; omega)
                  · (try dsimp only); omega
              · simp only [Bool.false_eq_true, if_true, if_false, Decidable.not_not] at h5
                (try simp only [Decidable.not_not] at h5); (try have qh5 := FaultP.b h5)
                refine list_guard_n rfl rfl rfl rfl (by decide) rfl ?_
                refine list_guard_n rfl rfl rfl rfl (by decide) rfl ?_
                refine list_guard_n rfl rfl rfl rfl (by decide) rfl ?_
                refine list_cons rfl (op_q (q_pick rfl rfl (by decide)) ?_)
                refine list_nil ?_
                refine hK16 _ ?_; clear hK16 K16
                refine codeT.imp (σ' := [(0, _), (2, _), (3, _), (4, _), (5, _), (6, _), (7, _), (35, _)]) ?_ (imp_covers ⟨rfl, rfl, rfl, rfl, rfl, rfl, rfl, rfl, trivial⟩)
                refine code_cond_f rfl ?_
                refine code_skip ?_
                refine blk_n ?_
                refine hK14 _ ?_; clear hK14 K14
                refine code_region ?_
                refine list_cons rfl (op_q (q_move rfl (by decide)) ?_)
                refine list_cons rfl (op_q (by first | exact q_addI rfl rfl (by decide) (by omega) (by omega) | exact q_ib rfl rfl rfl (by decide)) ?_)
                refine list_cons rfl (op_q (q_assign rfl (by decide)) ?_)
                refine list_nil ?_
                refine then_n ⟨(_, _, _, _), imp_covers ⟨rfl, rfl, rfl, rfl, rfl, rfl, trivial⟩, ?_, ?_⟩
                · (try dsimp only)
                  refine ⟨by omega, by omega, ?_⟩
                  first
                    | exact cHs_yes s (by omega) (by omega) (by omega) (by assumption) (by omega) (by omega)
                    | exact cHs_no s (by omega) (by omega) (by omega) (fun k => absurd k.1 (by assumption))
                    | exact cHs_no s (by omega) (by omega) (by omega) (fun k => by have := k.2.1; have := k.2.2; omega)
                · (try dsimp only); omega
            · simp only [Bool.false_eq_true, if_true, if_false, Decidable.not_not] at h4
              (try simp only [Decidable.not_not] at h4); (try have qh4 := FaultP.b h4)
              refine list_guard_n rfl rfl rfl rfl (by decide) rfl ?_
              refine list_guard_n rfl rfl rfl rfl (by decide) rfl ?_
              refine list_guard_n rfl rfl rfl rfl (by decide) rfl ?_
              refine list_cons rfl (op_q (q_pick rfl rfl (by decide)) ?_)
              refine list_cons rfl (op_q (q_move rfl (by decide)) ?_)
              refine list_guard_n rfl rfl rfl rfl (by decide) rfl ?_
              refine list_guard_n rfl rfl rfl rfl (by decide) rfl ?_
              refine list_guard_n rfl rfl rfl rfl (by decide) rfl ?_
              refine list_guard_n rfl rfl rfl rfl (by decide) rfl ?_
              refine list_cons rfl (op_q (q_pick rfl rfl (by decide)) ?_)
              refine list_nil ?_
              refine hK16 _ ?_; clear hK16 K16
              refine code_cond_f rfl ?_
              refine code_skip ?_
              refine blk_n ?_
              refine hK14 _ ?_; clear hK14 K14
              refine code_region ?_
              refine list_cons rfl (op_q (q_move rfl (by decide)) ?_)
              refine list_cons rfl (op_q (by first | exact q_addI rfl rfl (by decide) (by omega) (by omega) | exact q_ib rfl rfl rfl (by decide)) ?_)
              refine list_cons rfl (op_q (q_assign rfl (by decide)) ?_)
              refine list_nil ?_
              refine then_n ⟨(_, _, _, _), imp_covers ⟨rfl, rfl, rfl, rfl, rfl, rfl, trivial⟩, ?_, ?_⟩
              · (try dsimp only)
                refine ⟨by omega, by omega, ?_⟩
                first
                  | exact cHs_yes s (by omega) (by omega) (by omega) (by assumption) (by omega) (by omega)
                  | exact cHs_no s (by omega) (by omega) (by omega) (fun k => absurd k.1 (by assumption))
                  | exact cHs_no s (by omega) (by omega) (by omega) (fun k => by have := k.2.1; have := k.2.2; omega)
              · (try dsimp only); omega
          · skip
            (try simp only [Decidable.not_not] at h3); (try have qh3 := FaultP.b h3)
            refine code_exit ?_
            refine then_x ?_; clear hK12 K12
            refine then_x ?_
            refine blk_hit ?_
            refine blk_n ?_
            refine hK10 _ ?_; clear hK10 K10
            refine code_region ?_
            refine list_cons rfl (op_q (q_move rfl (by decide)) ?_)
            refine list_cons rfl (op_q (by first | exact q_addI rfl rfl (by decide) (by omega) (by omega) | exact q_ib rfl rfl rfl (by decide)) ?_)
            refine list_cons rfl (op_q (q_assign rfl (by decide)) ?_)
            refine list_nil ?_
            refine then_n ⟨(_, _, _, _), imp_covers ⟨rfl, rfl, rfl, rfl, rfl, trivial⟩, ?_, ?_⟩
            · (try dsimp only)
              exact ⟨by omega, by omega, by rw [show (dark + 1).toNat * 128 = dark.toNat * 128 + lit.toNat by omega]⟩
            · (try dsimp only); omega
      · skip
        (try simp only [Decidable.not_not] at h2); (try have qh2 := FaultP.b h2)
        refine code_exit ?_
        refine then_x ?_; clear hK8 K8
        refine then_x ?_
        refine blk_hit ?_
        refine hK6 _ ?_; clear hK6 K6
        refine code_seq (fun K17 hK17 => ?_)
        refine code_region ?_
        refine list_cons rfl (op_q (q_move rfl (by decide)) ?_)
        refine list_cons rfl (op_q (q_assign rfl (by decide)) ?_)
        refine list_cons rfl (op_q (q_assign rfl (by decide)) ?_)
        refine list_nil ?_
        refine hK17 _ ?_; clear hK17 K17
        refine code_ret ?_
        refine ends_ret (cs := []) rfl rfl rfl rfl trivial ?_
        first
          | (rw [if_neg h1, decide_eq_false h1]; done)
          | (rw [if_pos h1, decide_eq_true h1, show dark.toNat * 128 = 16384 by omega])

set_option maxRecDepth 4000 in
theorem impl_CountHarmless (s : Int) : PCalls Tryd.prog 6 [.int .i64 s] (· = [.val (.int .i64 (if 0 ≤ s ∧ s ≤ 7 then ((cHs s 16384 : Nat) : Int) else 0)), .val (.bool (decide (0 ≤ s ∧ s ≤ 7)))]) := by
  refine pcalls_of_code (n := 31) az Tryd.func6 (by kernel_rfl) rfl rfl (Nat.le_of_ble_eq_true rfl) (by intro t u h; simp [Tryd.f6] at h) ?_
  refine code_seq (fun K1 hK1 => ?_)
  refine code_region ?_
  refine list_cons rfl (op_box rfl (.inl ⟨rfl, rfl⟩) (by decide) (by decide) rfl ?_)
  refine list_cons rfl (op_q (q_assign rfl (by decide)) ?_)
  refine list_cons rfl (op_q (q_assign rfl (by decide)) ?_)
  refine list_nil ?_
  refine hK1 _ ?_; clear hK1 K1
  refine code_seq (fun K2 hK2 => ?_)
  refine code_seq (fun K3 hK3 => ?_)
  refine code_region ?_
  refine list_cons rfl (op_q (q_load_box1 one_3 rfl rfl (by decide)) ?_)
  refine list_cons rfl (op_q (q_lt rfl rfl (by decide)) ?_)
  refine list_cons rfl (op_q (q_move rfl (by decide)) ?_)
  refine list_guard_d rfl rfl rfl rfl (by decide) rfl (by decide) (fun h1 => ?_) (fun h1 => ?_)
  · simp only [Bool.false_eq_true, if_true, if_false, Decidable.not_not] at h1
    refine id (op_q (q_load_box1 one_3 rfl rfl (by decide)) ?_)
    refine list_guard_y rfl rfl rfl rfl (by decide) rfl ?_
    refine id (op_q (q_gt rfl rfl (by decide)) ?_)
    refine list_cons rfl (op_q (q_pick rfl rfl (by decide)) ?_)
    refine list_nil ?_
    refine hK3 _ ?_; clear hK3 K3
    refine code_cond_d rfl (fun h2 => ?_) (fun h2 => ?_)
    · skip
      (try simp only [Decidable.not_not] at h2)
      refine code_seq (fun K4 hK4 => ?_)
      refine code_region ?_
      refine list_cons rfl (op_q (q_assign rfl (by decide)) ?_)
      refine list_cons rfl (op_q (q_assign rfl (by decide)) ?_)
      refine list_nil ?_
      refine hK4 _ ?_; clear hK4 K4
      refine code_ret ?_
      refine then_r ?_; clear hK2 K2
      refine ends_ret (cs := []) rfl rfl rfl rfl trivial ?_
      first
        | (have e : ¬ (0 ≤ s ∧ s ≤ 7) := by omega
           rw [if_neg e, decide_eq_false e]; done)
        | (have e : 0 ≤ s ∧ s ≤ 7 := by omega
           rw [if_pos e, decide_eq_true e, cHs_end])
    · skip
      (try simp only [Decidable.not_not] at h2)
      refine code_skip ?_
      refine hK2 _ ?_; clear hK2 K2
      refine code_seq (fun K5 hK5 => ?_)
      refine code_region ?_
      refine list_cons rfl (op_alloc zt_3 (by decide) (by decide) rfl ?_)
      refine list_cons rfl (op_store (one_3).2 4 [4] (by intro t ht; simp only [List.mem_cons, List.not_mem_nil, or_false] at ht; subst ht; rfl) (.inr ⟨rfl, _, rfl⟩) rfl rfl rfl rfl rfl rfl (by first | decide | omega | exact Nat.le_refl _ | (simp; done) | (simp; omega)) (by decide) rfl ?_)
      refine list_nil ?_
      refine hK5 _ ?_; clear hK5 K5
      refine codeT.imp (σ' := [(0, _), (1, _), (2, _), (3, _), (4, _)]) ?_ (imp_covers ⟨rfl, rfl, rfl, rfl, rfl, trivial⟩)
      refine code_seq (fun K6 hK6 => ?_)
      refine code_block ?_
      refine code_rangeFunc0 (allFaults_it) ((fun (s0 s1 s2 s3 : SV) (i : Nat) => ([(0, s0), (1, s1), (2, s2), (3, s3), (4, .box 4 3 [.int .i64 ((cHi s i : Nat) : Int)])] : St)) _ _ _ _) (fun i => True) (trivial) rfl (by decide) rfl (fun _ _ => ⟨rfl, rfl⟩) (fun _ => rfl) rfl (imp_covers ⟨rfl, rfl, rfl, rfl, rfl, trivial⟩) (fun i hi hIi => ?_) (fun hIi => ?_)
      · intro K7 hK7
        refine codeT.imp (σ' := [(14, .val (.agg [.int .i64 (fxOf ((fltA 16384).getD i 0)), .int .i64 (fyOf ((fltA 16384).getD i 0))])), (0, _), (1, _), (2, _), (3, _), (4, _)]) ?_ (imp_covers ⟨rfl, rfl, rfl, rfl, rfl, rfl, trivial⟩)
        have hle := cHi_le s i
        have hfl := fltA_len 16384
        have hf := fE_ok hi
        refine code_region ?_
        refine list_cons rfl (op_alloc zt_36 (by decide) (by decide) rfl ?_)
        refine list_cons rfl (op_store (agg_36).2 5 [5] (by intro t ht; simp only [List.mem_cons, List.not_mem_nil, or_false] at ht; subst ht; rfl) (.inr ⟨rfl, _, rfl⟩) rfl rfl rfl rfl (by first | rfl | exact flat_part (flat_map _ (fun _ => rfl) _) _ _ | exact flat_map _ (fun _ => rfl) _) (by first | rfl | (simp [PV.cells]; done)) (by first | decide | omega | exact Nat.le_refl _ | (simp; done) | (simp; omega)) (by decide) rfl ?_)
        refine list_nil ?_
        refine hK7 _ rfl ?_; clear hK7 K7
        refine codeT.imp (σ' := [(0, _), (1, _), (2, _), (3, _), (4, _), (5, _), (14, _)]) ?_ (imp_covers ⟨rfl, rfl, rfl, rfl, rfl, rfl, rfl, trivial⟩)
        refine code_block ?_
        refine code_seq (fun K8 hK8 => ?_)
        refine code_seq (fun K9 hK9 => ?_)
        refine code_draw (by kernel_rfl) (by kernel_rfl) ?_
        refine draw_q rfl (q_load_agg agg_36 5 (.inr ⟨rfl, _, rfl⟩) rfl rfl (by first | decide | omega | exact Nat.le_refl _ | (simp; done) | (simp; omega)) (by first | rfl | exact flat_part (flat_map _ (fun _ => rfl) _) _ _) (by decide)) ?_
        refine draw_call _ (impl_sizeOf _ _ (by assumption)) rfl rfl rfl (by decide) ?_
        refine draw_q rfl (q_load_box1 one_3 rfl rfl (by decide)) ?_
        refine draw_q rfl (q_ne rfl rfl (by decide)) ?_
        refine draw_nil ?_
        refine hK9 _ ?_; clear hK9 K9
        refine code_cond_d rfl (fun h3 => ?_) (fun h3 => ?_)
        · skip
          (try simp only [Decidable.not_not] at h3)
          refine code_exit ?_
          refine then_x ?_; clear hK8 K8
          refine blk_hit ?_
          refine rp_n ⟨trivial, imp_covers ⟨rfl, rfl, rfl, rfl, (congrArg (fun z => some (SV.box 4 3 [PV.int .i64 z])) (by first | exact cHi_yes s hi ⟨by assumption, h3.2⟩ | exact cHi_no s hi (fun k => absurd k.1 h3) | exact cHi_no s hi (fun k => h3 ⟨hf, k.2⟩) | exact absurd hf h3)), trivial⟩⟩
        · skip
          (try simp only [Decidable.not_not] at h3)
          refine code_skip ?_
          refine hK8 _ ?_; clear hK8 K8
          refine code_seq (fun K10 hK10 => ?_)
          refine code_region ?_
          refine list_cons rfl (op_q (q_load_agg agg_36 5 (.inr ⟨rfl, _, rfl⟩) rfl rfl (by first | decide | omega | exact Nat.le_refl _ | (simp; done) | (simp; omega)) (by first | rfl | exact flat_part (flat_map _ (fun _ => rfl) _) _ _) (by decide)) ?_)
          refine list_cons rfl (op_call _ (impl_IsHarmless _ _) rfl rfl (by decide) (by decide) (by decide) rfl ?_)
          rintro _ rfl
          refine list_cons rfl (op_q (q_move rfl (by decide)) ?_)
          refine list_cons rfl (op_q (q_extract rfl rfl (by decide)) ?_)
          refine list_cons rfl (op_q (q_extract rfl rfl (by decide)) ?_)
          refine list_cons rfl (op_q (q_assign rfl (by decide)) ?_)
          refine list_cons rfl (op_q (q_assign rfl (by decide)) ?_)
          refine list_nil ?_
          refine hK10 _ ?_; clear hK10 K10
          refine codeT.imp (σ' := [(0, _), (1, _), (2, _), (3, _), (4, _), (5, _), (6, _), (7, _), (14, _)]) ?_ (imp_covers ⟨rfl, rfl, rfl, rfl, rfl, rfl, rfl, rfl, rfl, trivial⟩)
          refine code_seq (fun K11 hK11 => ?_)
          refine code_region ?_
          refine list_cons rfl (op_q (q_move rfl (by decide)) ?_)
          refine list_cons rfl (op_q (q_move rfl (by decide)) ?_)
          refine list_guard_d rfl rfl rfl rfl (by decide) rfl (by decide) (fun h4 => ?_) (fun h4 => ?_)
          · simp only [Bool.false_eq_true, if_true, if_false, Decidable.not_not] at h4
            refine id (op_q (q_move rfl (by decide)) ?_)
            refine list_cons rfl (op_q (q_pick rfl rfl (by decide)) ?_)
            refine list_nil ?_
            refine hK11 _ ?_; clear hK11 K11
            refine code_cond_d rfl (fun h5 => ?_) (fun h5 => ?_)
            · skip
              (try simp only [Decidable.not_not] at h5)
              refine code_region ?_
              refine list_cons rfl (op_q (q_load_box1 one_3 rfl rfl (by decide)) ?_)
              refine list_cons rfl (op_q (by first | exact q_addI rfl rfl (by decide) (by omega) (by omega) | exact q_ib rfl rfl rfl (by decide)) ?_)
              refine list_cons rfl (op_store (one_3).2 4 [4] (by intro t ht; simp only [List.mem_cons, List.not_mem_nil, or_false] at ht; subst ht; rfl) (.inr ⟨rfl, _, rfl⟩) rfl rfl rfl rfl rfl rfl (by first | decide | omega | exact Nat.le_refl _ | (simp; done) | (simp; omega)) (by decide) rfl ?_)
              refine list_nil ?_
              refine blk_n ?_
              refine rp_n ⟨trivial, imp_covers ⟨rfl, rfl, rfl, rfl, (congrArg (fun z => some (SV.box 4 3 [PV.int .i64 z])) (by first | exact cHi_yes s hi ⟨by assumption, h5.2⟩ | exact cHi_no s hi (fun k => absurd k.1 h5) | exact cHi_no s hi (fun k => h5 ⟨hf, k.2⟩) | exact absurd hf h5)), trivial⟩⟩
            · skip
              (try simp only [Decidable.not_not] at h5)
              refine code_skip ?_
              refine blk_n ?_
              refine rp_n ⟨trivial, imp_covers ⟨rfl, rfl, rfl, rfl, (congrArg (fun z => some (SV.box 4 3 [PV.int .i64 z])) (by first | exact cHi_yes s hi ⟨by assumption, h5.2⟩ | exact cHi_no s hi (fun k => absurd k.1 h5) | exact cHi_no s hi (fun k => h5 ⟨hf, k.2⟩) | exact absurd hf h5)), trivial⟩⟩
          · simp only [Bool.false_eq_true, if_true, if_false, Decidable.not_not] at h4
            refine list_cons rfl (op_q (q_pick rfl rfl (by decide)) ?_)
            refine list_nil ?_
            refine hK11 _ ?_; clear hK11 K11
            refine codeT.imp (σ' := [(0, _), (1, _), (2, _), (3, _), (4, _), (5, _), (6, _), (7, _), (14, _), (27, _)]) ?_ (imp_covers ⟨rfl, rfl, rfl, rfl, rfl, rfl, rfl, rfl, rfl, rfl, trivial⟩)
            refine code_cond_f rfl ?_
            refine code_skip ?_
            refine blk_n ?_
            refine rp_n ⟨trivial, imp_covers ⟨rfl, rfl, rfl, rfl, (congrArg (fun z => some (SV.box 4 3 [PV.int .i64 z])) (by first | exact cHi_yes s hi ⟨by assumption, h4.2⟩ | exact cHi_no s hi (fun k => absurd k.1 h4) | exact cHi_no s hi (fun k => h4 ⟨hf, k.2⟩) | exact absurd hf h4)), trivial⟩⟩
      · skip
        refine blk_n ?_
        refine hK6 _ ?_; clear hK6 K6
        refine codeT.imp (σ' := [(0, _), (1, _), (2, _), (3, _), (4, _)]) ?_ (imp_covers ⟨rfl, rfl, rfl, rfl, rfl, trivial⟩)
        refine code_seq (fun K12 hK12 => ?_)
        refine code_region ?_
        refine list_cons rfl (op_q (q_load_box1 one_3 rfl rfl (by decide)) ?_)
        refine list_cons rfl (op_q (q_assign rfl (by decide)) ?_)
        refine list_cons rfl (op_q (q_assign rfl (by decide)) ?_)
        refine list_nil ?_
        refine hK12 _ ?_; clear hK12 K12
        refine code_ret ?_
        refine ends_ret (cs := []) rfl rfl rfl rfl trivial ?_
        first
          | (have e : ¬ (0 ≤ s ∧ s ≤ 7) := by omega
             rw [if_neg e, decide_eq_false e]; done)
          | (have e : 0 ≤ s ∧ s ≤ 7 := by omega
             rw [if_pos e, decide_eq_true e, cHs_end])
  · simp only [Bool.false_eq_true, if_true, if_false, Decidable.not_not] at h1
    refine list_guard_n rfl rfl rfl rfl (by decide) rfl ?_
    refine list_cons rfl (op_q (q_pick rfl rfl (by decide)) ?_)
    refine list_nil ?_
    refine hK3 _ ?_; clear hK3 K3
    refine code_cond_t rfl ?_
    refine code_seq (fun K13 hK13 => ?_)
    refine code_region ?_
    refine list_cons rfl (op_q (q_assign rfl (by decide)) ?_)
    refine list_cons rfl (op_q (q_assign rfl (by decide)) ?_)
    refine list_nil ?_
    refine hK13 _ ?_; clear hK13 K13
    refine code_ret ?_
    refine then_r ?_; clear hK2 K2
    refine ends_ret (cs := []) rfl rfl rfl rfl trivial ?_
    first
      | (have e : ¬ (0 ≤ s ∧ s ≤ 7) := by omega
         rw [if_neg e, decide_eq_false e]; done)
      | (have e : 0 ≤ s ∧ s ≤ 7 := by omega
         rw [if_pos e, decide_eq_true e, cHs_end])

end Go.Proofs.YtnlojpkmkjdpbaaDoor
