/- Contracts of functions, walked over the pure layer; each says for which arguments. -/
import Derived.Test.YtjbbijlbenkgcaaDoorI4wTy
import Derived.Test.YtjbbijlbenkgcaaDoorTf
import Derived.Test.YtjbbijlbenkgcaaDoorSp
import Derived.Test.YtjbbijlbenkgcaaDoorShelf
import Derived.Test.YtjbbijlbenkgcaaDoorS4
import Derived.Test.YtjbbijlbenkgcaaDoorIm
import Derived.Test.YtjbbijlbenkgcaaDoorI4
import Derived.Test.YtjbbijlbenkgcaaDoorW4s
import Derived.Test.YtjbbijlbenkgcaaDoorI4r
namespace Go.Proofs.YtjbbijlbenkgcaaDoor
open Go.RowKit I4wTy
set_option linter.unusedVariables false
set_option linter.unusedSimpArgs false

theorem wbK_get (l : List Int) (c : Nat) : ∀ (m j : Nat), m ≤ l.length → (wbK l c m).getD j 0 = l.getD j 0 + if j < m then bt1 c j else 0
  | 0, j, _ => by rw [if_neg (Nat.not_lt_zero j)]; unfold wbK; omega
  | m + 1, j, h => by
    have ih := wbK_get l c m j (by omega)
    have hm := wbK_at l c m m (Nat.le_refl _)
    have hl := wbK_len l c m
    unfold wbK
    by_cases e : j = m
    · subst e
      rw [if_pos (Nat.lt_succ_self j)]
      unfold bt1
      split
      · rw [List.getD_eq_getElem?_getD, List.getElem?_set, if_pos rfl, if_pos (by omega), Option.getD_some, hm]
      · rw [hm]; omega
    · have e2 : (j < m + 1) = (j < m) := propext (by omega)
      simp only [e2]
      split
      · rw [List.getD_eq_getElem?_getD, List.getElem?_set, if_neg (fun k => e k.symm), ← List.getD_eq_getElem?_getD]; exact ih
      · exact ih
theorem rowC_any (n k : Int) (j : Nat) : 0 ≤ (rowC n k).getD j 0 ∧ (rowC n k).getD j 0 ≤ 127 := by
  by_cases h : j < k.toNat
  · exact rowC_at h
  · rw [List.getD_eq_getElem?_getD, List.getElem?_eq_none (by unfold rowC; rw [rowK_len]; omega)]
    simp only [Option.getD_none]; omega
theorem xr_any {a b : Int} (ha : 0 ≤ a ∧ a ≤ 127) (hb : 0 ≤ b ∧ b ≤ 127) : ((a.toNat ^^^ b.toNat : Nat) : Int) ≤ 127 := by
  have := @Nat.xor_lt_two_pow a.toNat b.toNat 7 (by omega) (by omega)
  omega
/-- A row of seven of the counts. -/
def rw7 (l : List Int) (j : Nat) : List Int := (l.drop (j * 7)).take 7
theorem rw7_len {l : List Int} {j : Nat} (h : j * 7 + 7 ≤ l.length) : (rw7 l j).length = 7 := by simp [rw7]; omega
theorem rw7_get (l : List Int) (j : Nat) {b : Nat} (hb : b < 7) : (rw7 l j).getD b 0 = l.getD (j * 7 + b) 0 := by
  unfold rw7
  rw [List.getD_eq_getElem?_getD, List.getElem?_take, if_pos hb, List.getElem?_drop, ← List.getD_eq_getElem?_getD]
theorem rw7_le {l : List Int} {m : Int} (h : ∀ s, 0 ≤ l.getD s 0 ∧ l.getD s 0 ≤ m) (hm : 0 ≤ m) (j b : Nat) : 0 ≤ (rw7 l j).getD b 0 ∧ (rw7 l j).getD b 0 ≤ m := by
  by_cases hb : b < 7
  · rw [rw7_get l j hb]; exact h _
  · unfold rw7
    rw [List.getD_eq_getElem?_getD, List.getElem?_take, if_neg hb]
    simp only [Option.getD_none]; omega
theorem fW_row (n k : Int) (t : Nat) {j : Nat} (h : j < k.toNat) : putAt ((fW n k t (j * 7)).map (PV.int .i64)) (j * 7) ((wbK (rw7 (fW n k t (j * 7)) j) (xrC n k t j) 7).map (PV.int .i64)) = (fW n k t ((j + 1) * 7)).map (PV.int .i64) := by
  have hl : (wbK (rw7 (fW n k t (j * 7)) j) (xrC n k t j) 7).length = 7 := by rw [wbK_len, rw7_len (by rw [fW_len]; omega)]
  unfold putAt
  rw [← List.map_take, ← List.map_drop, ← List.map_append, ← List.map_append, List.length_map, hl]
  congr 1
  apply List.ext_getElem
  · simp only [List.length_append, List.length_take, List.length_drop, hl, fW_len]; omega
  · intro s h1 h2
    rw [fW_len] at h2
    have hg : ∀ (l : List Int) (h : s < l.length), l[s] = l.getD s 0 := fun l h => by simp [h]
    rw [hg, hg, fW_at n k t _ h2]
    by_cases a : s < j * 7
    · rw [if_pos (by omega), List.append_assoc, List.getD_eq_getElem?_getD, List.getElem?_append_left (by rw [List.length_take, fW_len]; omega), List.getElem?_take, if_pos a, ← List.getD_eq_getElem?_getD, fW_at n k t _ h2, if_pos a]
    · by_cases b : s < j * 7 + 7
      · obtain ⟨r, rfl⟩ : ∃ r, s = j * 7 + r := ⟨s - j * 7, by omega⟩
        have hr : r < 7 := by omega
        rw [if_pos (by omega), List.append_assoc, List.getD_eq_getElem?_getD, List.getElem?_append_right (by rw [List.length_take, fW_len]; omega), List.getElem?_append_left (by rw [List.length_take, fW_len, hl]; omega), List.length_take, fW_len, show j * 7 + r - min (j * 7) (k.toNat * 7) = r by omega, ← List.getD_eq_getElem?_getD, wbK_get _ _ 7 r (by rw [rw7_len (by rw [fW_len]; omega)]; exact Nat.le_refl _), if_pos hr, rw7_get _ j hr, fW_at n k t _ h2, if_neg a]
        rw [vW, wbt_at n k t hr]
      · rw [if_neg (by omega), List.getD_eq_getElem?_getD, List.getElem?_append_right (by rw [List.length_append, List.length_take, fW_len, hl]; omega), List.getElem?_drop, List.length_append, List.length_take, fW_len, hl, show j * 7 + 7 + (s - (min (j * 7) (k.toNat * 7) + 7)) = s by omega, ← List.getD_eq_getElem?_getD, fW_at n k t _ h2, if_neg a]

set_option maxRecDepth 8000 in
set_option maxHeartbeats 4000000 in
theorem impl_WearOf (n s k : Int) : PCalls Tryd.prog 47 [.int .i64 n, .int .i64 s, .int .i64 k] (· = [.own 0 70 7 (if Cn n k ∧ 0 ≤ s ∧ s ≤ 1000 then k.toNat else 0) ((if Cn n k ∧ 0 ≤ s ∧ s ≤ 1000 then fW n k s.toNat 0 else []).map (.int .i64)), .val (.bool (decide (Cn n k ∧ 0 ≤ s ∧ s ≤ 1000)))]) := by
  refine pcalls_of_code (n := 61) az Tryd.func47 (by kernel_rfl) rfl rfl (Nat.le_of_ble_eq_true rfl) (by intro t u h; simp [Tryd.f47] at h; rcases h with ⟨_, rfl⟩ | ⟨_, rfl⟩ <;> first | exact resTy_one (one_60).1 rfl | exact resTy_one (one_4).1 rfl) ?_
  refine code_seq (fun K1 hK1 => ?_)
  refine code_region ?_
  refine list_cons rfl (op_box rfl (.inl ⟨rfl, rfl⟩) (by decide) (by decide) rfl ?_)
  refine list_cons rfl (op_alloc zt_60 (by decide) (by decide) rfl ?_)
  refine list_cons rfl (op_alloc zt_4 (by decide) (by decide) rfl ?_)
  refine list_nil ?_
  refine hK1 _ ?_; clear hK1 K1
  refine code_seq (fun K2 hK2 => ?_)
  refine code_seq (fun K3 hK3 => ?_)
  refine code_region ?_
  refine list_cons rfl (op_q (q_move rfl (by decide)) ?_)
  refine list_cons rfl (op_q (q_move rfl (by decide)) ?_)
  refine list_cons rfl (op_q (q_load_box1 one_3 rfl rfl (by decide)) ?_)
  refine list_cons rfl (op_call _ (impl_isRun _ _ _) rfl rfl (by decide) (by decide) (by decide) rfl ?_)
  rintro _ rfl
  refine list_cons rfl (op_q (by first | exact q_notd rfl (by decide) | exact q_not rfl (by decide)) ?_)
  refine list_nil ?_
  refine hK3 _ ?_; clear hK3 K3
  refine codeT.imp (σ' := [(0, _), (1, _), (2, _), (5, _), (6, _), (7, _), (19, _)]) ?_ (imp_covers ⟨rfl, rfl, rfl, rfl, rfl, rfl, rfl, trivial⟩)
  refine code_cond_d rfl (fun h1 => ?_) (fun h1 => ?_)
  · skip
    (try simp only [Decidable.not_not] at h1)
    refine code_seq (fun K4 hK4 => ?_)
    refine code_region ?_
    refine list_cons rfl (op_buildSlice sl_60 (parts := []) rfl rfl rfl (by decide) (by decide) (by decide) rfl ?_)
    refine list_cons rfl (op_storeS (one_60).2 rfl rfl (by decide) rfl ?_)
    refine list_cons rfl (op_store (one_4).2 7 [7] (by intro t ht; simp only [List.mem_cons, List.not_mem_nil, or_false] at ht; subst ht; rfl) (.inr ⟨rfl, _, rfl⟩) rfl rfl rfl rfl rfl rfl (by first | decide | omega | exact Nat.le_refl _ | (simp; done) | (simp; omega)) (by decide) rfl ?_)
    refine list_nil ?_
    refine hK4 _ ?_; clear hK4 K4
    refine codeT.imp (σ' := [(0, _), (1, _), (2, _), (5, _), (6, _), (7, _)]) ?_ (imp_covers ⟨rfl, rfl, rfl, rfl, rfl, rfl, trivial⟩)
    refine code_ret ?_
    refine then_r ?_; clear hK2 K2
    refine ends_ret (cs := []) rfl rfl rfl rfl trivial ?_
    first
      | (have e : ¬ (Cn n k ∧ 0 ≤ s ∧ s ≤ 1000) := by assumption
         simp only [if_neg e, decide_eq_false e]; rfl)
      | (have e : Cn n k ∧ 0 ≤ s ∧ s ≤ 1000 := h1
         simp only [if_pos e, decide_eq_true e])
  · skip
    (try simp only [Decidable.not_not] at h1)
    refine code_skip ?_
    refine hK2 _ ?_; clear hK2 K2
    refine code_seq (fun K5 hK5 => ?_)
    refine code_region ?_
    refine list_cons rfl (op_q (q_load_box1 one_3 rfl rfl (by decide)) ?_)
    refine list_cons rfl (op_makeI sl_60 rfl rfl (by have := Cn_bd h1.1; omega) (by have := Cn_bd h1.1; omega) (by decide) (by decide) rfl ?_)
    refine list_cons rfl (op_alloc zt_60 (by decide) (by decide) rfl ?_)
    refine list_cons rfl (op_storeS (one_60).2 rfl rfl (by decide) rfl ?_)
    refine list_nil ?_
    refine hK5 _ ?_; clear hK5 K5
    refine codeT.imp (σ' := [(0, _), (1, _), (2, _), (5, _), (6, _), (7, _), (8, .boxS 8 60 22 70 7 k.toNat ((fW n k 0 0).map (.int .i64)))]) ?_ (imp_covers ⟨rfl, rfl, rfl, rfl, rfl, rfl, (congrArg (fun z => some (SV.boxS 8 60 22 70 7 k.toNat z)) ((zeros7 k.toNat).trans (congrArg (List.map (PV.int .i64)) (fW_0 n k).symm))), trivial⟩)
    refine code_seq (fun K6 hK6 => ?_)
    refine code_seq (fun K7 hK7 => ?_)
    refine code_region ?_
    refine list_cons rfl (op_q (q_move rfl (by decide)) ?_)
    refine list_cons rfl (op_q (q_move rfl (by decide)) ?_)
    refine list_cons rfl (op_q (q_load_box1 one_3 rfl rfl (by decide)) ?_)
    refine list_cons rfl (op_call _ (impl_numbersFrom _ _ _) rfl rfl (by decide) (by decide) (by decide) rfl ?_)
    rintro _ rfl
    refine listT.imp ?_ imp_unfrz
    refine list_nil ?_
    refine hK7 _ ?_; clear hK7 K7
    refine codeT.imp (σ' := [(0, .val (.int .i64 n)), (1, .val (.int .i64 s)), (2, .val (.int .i64 k)), (5, .box 5 3 [.int .i64 k]), (6, .box 6 60 [.sl 0 []]), (7, .box 7 4 [.bool false]), (8, .boxS 8 60 22 70 7 k.toNat ((fW n k 0 0).map (.int .i64))), (26, _)]) ?_ (imp_covers ⟨rfl, rfl, rfl, rfl, rfl, rfl, rfl, rfl, trivial⟩)
    refine code_block ?_
    refine code_rangeFunc (numbersFrom_it n s k (by exact h1.1) (by exact h1.2.1) (by exact h1.2.2)) ((fun (s0 s1 s2 s5 s6 s7 : SV) (i : Nat) => ([(0, s0), (1, s1), (2, s2), (5, s5), (6, s6), (7, s7), (8, .boxS 8 60 22 70 7 k.toNat ((fW n k i 0).map (.int .i64)))] : St)) _ _ _ _ _ _) (fun i => True) (trivial) rfl rfl rfl (by decide) rfl (fun _ _ => ⟨rfl, rfl⟩) (fun _ => rfl) rfl rfl (imp_covers ⟨rfl, rfl, rfl, rfl, rfl, rfl, rfl, trivial⟩) (fun i hi hIi => ?_) (fun hIi => ?_)
    · intro K8 hK8
      refine codeT.imp (σ' := [(27, .val (.int .i64 (atC n k i))), (0, _), (1, _), (2, _), (5, _), (6, _), (7, _), (8, _)]) ?_ (imp_covers ⟨rfl, rfl, rfl, rfl, rfl, rfl, rfl, rfl, trivial⟩)
      have hi2 : (i : Int) < 1000 := by omega
      have hk := Cn_bd h1.1
      have ha := atC_ok h1.1 i
      have har : (rowC (atC n k i) k).length = k.toNat := rowK_len _ _
      have hbr : (rowC (nextC (atC n k i) k) k).length = k.toNat := rowK_len _ _
      refine code_region ?_
      refine list_cons rfl (op_q (q_assign rfl (by decide)) ?_)
      refine list_nil ?_
      refine hK8 _ rfl ?_; clear hK8 K8
      refine codeT.imp (σ' := [(0, _), (1, _), (2, _), (5, _), (6, _), (7, _), (8, _), (9, _), (27, _)]) ?_ (imp_covers ⟨rfl, rfl, rfl, rfl, rfl, rfl, rfl, rfl, rfl, trivial⟩)
      refine code_block ?_
      refine code_seq (fun K9 hK9 => ?_)
      refine code_region ?_
      refine list_cons rfl (op_q (q_move rfl (by decide)) ?_)
      refine list_cons rfl (op_q (q_load_box1 one_3 rfl rfl (by decide)) ?_)
      refine list_cons rfl (op_call _ (impl_stepRows (atC n k i) k ha) rfl rfl (by decide) (by decide) (by decide) rfl ?_)
      rintro _ rfl
      refine list_cons rfl (op_q (q_move rfl (by decide)) ?_)
      refine list_cons rfl (op_q (q_extract rfl rfl (by decide)) ?_)
      refine list_cons rfl (op_q (q_extract rfl rfl (by decide)) ?_)
      refine list_cons rfl (op_q (q_extract rfl rfl (by decide)) ?_)
      refine list_cons rfl (op_q (q_assign rfl (by decide)) ?_)
      refine list_cons rfl (op_q (q_assign rfl (by decide)) ?_)
      refine list_cons rfl (op_q (q_assign rfl (by decide)) ?_)
      refine list_nil ?_
      refine hK9 _ ?_; clear hK9 K9
      refine codeT.imp (σ' := [(0, .val (.int .i64 n)), (1, .val (.int .i64 s)), (2, .val (.int .i64 k)), (5, .box 5 3 [.int .i64 k]), (6, .box 6 60 [.sl 0 []]), (7, .box 7 4 [.bool false]), (8, .boxS 8 60 22 70 7 k.toNat ((fW n k i 0).map (.int .i64))), (9, _), (10, _), (11, _), (12, _), (27, _)]) ?_ (imp_covers ⟨rfl, rfl, rfl, rfl, rfl, rfl, rfl, rfl, rfl, rfl, rfl, rfl, trivial⟩)
      refine code_seq (fun K10 hK10 => ?_)
      refine code_seq (fun K11 hK11 => ?_)
      refine code_region ?_
      refine list_cons rfl (op_q (q_move rfl (by decide)) ?_)
      refine list_cons rfl (op_q (by first | exact q_notd rfl (by decide) | exact q_not rfl (by decide)) ?_)
      refine list_nil ?_
      refine hK11 _ ?_; clear hK11 K11
      refine code_cond_f rfl ?_
      refine code_skip ?_
      refine hK10 _ ?_; clear hK10 K10
      refine code_seq (fun K12 hK12 => ?_)
      refine code_region ?_
      refine list_cons rfl (op_q (q_move rfl (by decide)) ?_)
      refine list_cons rfl (op_q (q_len_sl Tryd.underlying24 rfl rfl (by decide)) ?_)
      refine list_cons rfl (op_q (q_move rfl (by decide)) ?_)
      refine list_nil ?_
      refine hK12 _ ?_; clear hK12 K12
      refine code_block ?_
      refine code_loop (X := Nat × List PV × Int × Nat × List PV × Nat × List PV × Bool × Int × Nat × List PV × Int) (fun x => [(0, .val (.int .i64 n)), (1, .val (.int .i64 s)), (2, .val (.int .i64 k)), (5, .box 5 3 [.int .i64 k]), (6, .box 6 60 [.sl 0 []]), (7, .box 7 4 [.bool false]), (8, .boxS 8 60 22 70 7 x.1 x.2.1), (9, .val (.int .i64 x.2.2.1)), (10, .own 31 3 1 x.2.2.2.1 x.2.2.2.2.1), (11, .own 1031 3 1 x.2.2.2.2.2.1 x.2.2.2.2.2.2.1), (12, .val (.bool x.2.2.2.2.2.2.2.1)), (27, .val (.int .i64 x.2.2.2.2.2.2.2.2.1)), (38, .own 31 3 1 x.2.2.2.2.2.2.2.2.2.1 x.2.2.2.2.2.2.2.2.2.2.1), (39, .val (.int .i64 ((rowC (atC n k i) k).length : Nat))), (40, .val (.int .i64 x.2.2.2.2.2.2.2.2.2.2.2))]) (fun x => 0 ≤ x.2.2.2.2.2.2.2.2.2.2.2 ∧ x.2.2.2.2.2.2.2.2.2.2.2 ≤ k ∧ x.2.2.2.2.2.2.2.2.2.1 = k.toNat ∧ x.2.2.2.2.2.2.2.2.2.2.1 = (rowC (atC n k i) k).map (.int .i64) ∧ x.1 = k.toNat ∧ x.2.1 = (fW n k i (x.2.2.2.2.2.2.2.2.2.2.2.toNat * 7)).map (.int .i64) ∧ x.2.2.2.1 = k.toNat ∧ x.2.2.2.2.1 = (rowC (atC n k i) k).map (.int .i64) ∧ x.2.2.2.2.2.1 = k.toNat ∧ x.2.2.2.2.2.2.1 = (rowC (nextC (atC n k i) k) k).map (.int .i64)) (fun x => (k - x.2.2.2.2.2.2.2.2.2.2.2).toNat) (_, _, _, _, _, _, _, _, _, _, _, _) (imp_covers ⟨rfl, rfl, rfl, rfl, rfl, rfl, rfl, rfl, rfl, rfl, rfl, rfl, rfl, rfl, rfl, trivial⟩) ?_ ?_
      · (try dsimp only)
        exact ⟨by omega, by omega, har, rfl, rfl, rfl, har, rfl, hbr, rfl⟩
      · intro x hI
        obtain ⟨wear_n, wear_c, n_, before_n, before_c, after_n, after_c, ok, t27, t38_n, t38_c, t40⟩ := x
        replace hI : 0 ≤ t40 ∧ t40 ≤ k ∧ t38_n = k.toNat ∧ t38_c = (rowC (atC n k i) k).map (.int .i64) ∧ wear_n = k.toNat ∧ wear_c = (fW n k i (t40.toNat * 7)).map (.int .i64) ∧ before_n = k.toNat ∧ before_c = (rowC (atC n k i) k).map (.int .i64) ∧ after_n = k.toNat ∧ after_c = (rowC (nextC (atC n k i) k) k).map (.int .i64) := hI
        show codeT _ _ _ [(0, .val (.int .i64 n)), (1, .val (.int .i64 s)), (2, .val (.int .i64 k)), (5, .box 5 3 [.int .i64 k]), (6, .box 6 60 [.sl 0 []]), (7, .box 7 4 [.bool false]), (8, .boxS 8 60 22 70 7 wear_n wear_c), (9, .val (.int .i64 n_)), (10, .own 31 3 1 before_n before_c), (11, .own 1031 3 1 after_n after_c), (12, .val (.bool ok)), (27, .val (.int .i64 t27)), (38, .own 31 3 1 t38_n t38_c), (39, .val (.int .i64 ((rowC (atC n k i) k).length : Nat))), (40, .val (.int .i64 t40))] _
        obtain ⟨j1, j2, rfl, rfl, rfl, rfl, rfl, rfl, rfl, rfl⟩ := hI
        have hra := rowC_any (atC n k i) k t40.toNat
        have hrb := rowC_any (nextC (atC n k i) k) k t40.toNat
        have hxr := xr_any hra hrb
        refine code_seq (fun K13 hK13 => ?_)
        refine code_region ?_
        refine list_cons rfl (op_q (q_lt rfl rfl (by decide)) ?_)
        refine list_nil ?_
        refine hK13 _ ?_; clear hK13 K13
        refine code_seq (fun K14 hK14 => ?_)
        refine code_cond_d rfl (fun h2 => ?_) (fun h2 => ?_)
        · skip
          (try simp only [Decidable.not_not] at h2)
          refine code_skip ?_
          refine hK14 _ ?_; clear hK14 K14
          refine code_seq (fun K15 hK15 => ?_)
          refine code_block ?_
          refine code_seq (fun K16 hK16 => ?_)
          refine code_region ?_
          refine list_cons rfl (op_q (q_move rfl (by decide)) ?_)
          refine list_cons rfl (op_q (q_indexAddr_own sl_24 rfl rfl (by omega) (by omega) (by decide)) ?_)
          refine list_cons rfl (op_q (q_load one_3 10 rfl rfl rfl (by first | rfl | exact get_map1 _ 0 _ (by first | omega | (simp; omega))) (by decide)) ?_)
          refine list_cons rfl (op_q (q_assign rfl (by decide)) ?_)
          refine list_cons rfl (op_q (q_assign rfl (by decide)) ?_)
          refine list_nil ?_
          refine hK16 _ ?_; clear hK16 K16
          refine any_start fun ob1_0 => ?_
          refine any_op (rd := [8]) ob1_0 rfl rfl rfl (anyT_quiet [(8, _)] ⟨rfl, trivial⟩ rfl (q_loadS one_60 rfl (by decide))) (fun ob1_1 => ?_)
          simp only [List.cons_append, List.nil_append] at ob1_1
          refine any_op (rd := [13]) ob1_1 rfl rfl rfl (anyT_quiet [(13, _)] ⟨rfl, trivial⟩ rfl (q_move rfl (by decide))) (fun ob1_2 => ?_)
          simp only [List.cons_append, List.nil_append] at ob1_2
          refine any_op (rd := [8]) ob1_2 rfl rfl rfl (anyT_quiet [(8, _)] ⟨rfl, trivial⟩ rfl (q_loadS one_60 rfl (by decide))) (fun ob1_3 => ?_)
          simp only [List.cons_append, List.nil_append] at ob1_3
          refine any_op (rd := [13]) ob1_3 rfl rfl rfl (anyT_quiet [(13, _)] ⟨rfl, trivial⟩ rfl (q_move rfl (by decide))) (fun ob1_4 => ?_)
          simp only [List.cons_append, List.nil_append] at ob1_4
          refine any_op (rd := [47, 48]) ob1_4 rfl rfl rfl (anyT_quiet [(47, _), (48, _)] ⟨rfl, rfl, trivial⟩ rfl (q_indexAddr_own sl_60 rfl rfl (by omega) (by omega) (by decide))) (fun ob1_5 => ?_)
          simp only [List.cons_append, List.nil_append] at ob1_5
          refine any_op (rd := [49, 47]) ob1_5 rfl rfl rfl (anyT_quiet [(49, _), (47, _)] ⟨rfl, rfl, trivial⟩ rfl (q_load_agg agg_70 47 (.inl rfl) rfl rfl (by first | omega | (simp only [List.length_map, fW_len]; omega) | exact get_map1 _ 0 _ (by first | omega | (simp; omega))) (by first | rfl | exact flat_part (flat_map _ (fun _ => rfl) _) _ _) (by decide))) (fun ob1_6 => ?_)
          simp only [List.cons_append, List.nil_append] at ob1_6
          refine any_op (rd := [14]) ob1_6 rfl rfl rfl (anyT_quiet [(14, _)] ⟨rfl, trivial⟩ rfl (q_move rfl (by decide))) (fun ob1_7 => ?_)
          simp only [List.cons_append, List.nil_append] at ob1_7
          refine any_op (rd := [11]) ob1_7 rfl rfl rfl (anyT_quiet [(11, _)] ⟨rfl, trivial⟩ rfl (q_move rfl (by decide))) (fun ob1_8 => ?_)
          simp only [List.cons_append, List.nil_append] at ob1_8
          refine any_op (rd := [13]) ob1_8 rfl rfl rfl (anyT_quiet [(13, _)] ⟨rfl, trivial⟩ rfl (q_move rfl (by decide))) (fun ob1_9 => ?_)
          simp only [List.cons_append, List.nil_append] at ob1_9
          refine any_op (rd := [52, 53]) ob1_9 rfl rfl rfl (anyT_quiet [(52, _), (53, _)] ⟨rfl, rfl, trivial⟩ rfl (q_indexAddr_own sl_24 rfl rfl (by omega) (by omega) (by decide))) (fun ob1_10 => ?_)
          simp only [List.cons_append, List.nil_append] at ob1_10
          refine any_op (rd := [54, 11]) ob1_10 rfl rfl rfl (anyT_quiet [(54, _), (11, _)] ⟨rfl, rfl, trivial⟩ rfl (q_load one_3 11 rfl rfl rfl (by first | omega | (simp only [List.length_map, fW_len]; omega) | exact get_map1 _ 0 _ (by first | omega | (simp; omega))) (by decide))) (fun ob1_11 => ?_)
          simp only [List.cons_append, List.nil_append] at ob1_11
          refine any_op (rd := [51, 55]) ob1_11 rfl rfl rfl (anyT_quiet [(51, _), (55, _)] ⟨rfl, rfl, trivial⟩ rfl (by first | exact q_xorI rfl rfl (by decide) (by omega) (by omega) (by omega) (by omega) | exact q_ib rfl rfl rfl (by decide))) (fun ob1_12 => ?_)
          simp only [List.cons_append, List.nil_append] at ob1_12
          refine any_op (rd := [50, 56]) ob1_12 rfl rfl rfl (fun σ hag hfr => by have e50 : σ.at 50 = some _ := (hag 50 (by decide)).trans rfl; have e56 : σ.at 56 = some _ := (hag 56 (by decide)).trans rfl; exact op_call _ ((by rw [← List.map_drop, ← List.map_take]; exact impl_withBars (rw7 (fW n k i (t40.toNat * 7)) t40.toNat) _ (i + 1) (rw7_len (by rw [fW_len]; omega)) (rw7_le (fW_le n k i _) (by omega) _) (by omega) (by omega))) (evs_cons e50 (evs_cons e56 evs_nil)) rfl (by decide) (by decide) (by decide) hfr (fun rs hR => by subst hR; rfl)) (fun ob1_13 => ?_)
          simp only [List.cons_append, List.nil_append] at ob1_13
          refine any_end [[], [], [], [], [2, 3], [2, 3, 4], [], [], [], [7, 8], [7, 8, 9], [6, 7, 8, 9, 10], [2, 3, 4, 5, 6, 7, 8, 9, 10, 11], [0, 1, 2, 3, 4, 5, 6, 7, 8, 9, 10, 11, 12], [0, 1, 2, 3, 4, 5, 6, 7, 8, 9, 10, 11, 12, 13]] ob1_13 (by kernel_rfl) (Nat.le_of_ble_eq_true rfl) (by decide) (by decide) (by kernel_rfl) (by kernel_rfl) (by kernel_rfl) (by kernel_rfl) (by kernel_rfl) ?_
          clear ob1_0 ob1_1 ob1_2 ob1_3 ob1_4 ob1_5 ob1_6 ob1_7 ob1_8 ob1_9 ob1_10 ob1_11 ob1_12 ob1_13
          refine listT.imp (σ' := ((0, _) :: (1, _) :: (2, _) :: (5, _) :: (6, _) :: (7, _) :: (8, _) :: (9, _) :: (10, _) :: (11, _) :: (12, _) :: (13, _) :: (14, _) :: (27, _) :: (38, _) :: (39, _) :: (40, _) :: (41, _) :: (42, _) :: (43, _) :: (44, _) :: (45, _) :: (46, _) :: (47, _) :: (48, _) :: (49, _) :: (50, _) :: (51, _) :: (52, _) :: (53, _) :: (54, _) :: (55, _) :: (56, _) :: (57, _) :: [])) ?_ (imp_covers ⟨rfl, rfl, rfl, rfl, rfl, rfl, rfl, rfl, rfl, rfl, rfl, rfl, rfl, rfl, rfl, rfl, rfl, rfl, rfl, rfl, rfl, rfl, rfl, rfl, rfl, rfl, rfl, rfl, rfl, rfl, rfl, rfl, rfl, rfl, trivial⟩)
          refine list_cons rfl (op_q (q_indexAddr_own sl_60 rfl rfl (by omega) (by omega) (by decide)) ?_)
          refine list_cons rfl (op_storeG (agg_70).2 45 [45, 47, 8] (by intro t ht; simp only [List.mem_cons, List.not_mem_nil, or_false] at ht; rcases ht with rfl | rfl | rfl <;> rfl) (.inl rfl) rfl rfl rfl (.inl ⟨rfl, (by first | rfl | exact flat_part (flat_map _ (fun _ => rfl) _) _ _ | exact flat_map _ (fun _ => rfl) _)⟩) (by first | rfl | (show ((wbK _ _ 7).map (PV.int .i64)).length = 7; rw [List.length_map, wbK_len, rw7_len (by rw [fW_len]; omega)])) (by simp only [List.length_map, fW_len]; omega) (by decide) rfl ?_)
          refine list_nil ?_
          refine blk_n ?_
          refine hK15 _ ?_; clear hK15 K15
          refine codeT.imp (σ' := [(0, _), (1, _), (2, _), (5, _), (6, _), (7, _), (8, _), (9, _), (10, _), (11, _), (12, _), (13, _), (14, _), (27, _), (38, _), (39, _), (40, _)]) ?_ (imp_covers ⟨rfl, rfl, rfl, rfl, rfl, rfl, rfl, rfl, rfl, rfl, rfl, rfl, rfl, rfl, rfl, rfl, rfl, trivial⟩)
          refine code_region ?_
          refine list_cons rfl (op_q (by first | exact q_addI rfl rfl (by decide) (by omega) (by omega) | exact q_ib rfl rfl rfl (by decide)) ?_)
          refine list_cons rfl (op_q (q_move rfl (by decide)) ?_)
          refine list_nil ?_
          refine then_n ⟨(_, _, _, _, _, _, _, _, _, _, _, _), imp_covers ⟨rfl, rfl, rfl, rfl, rfl, rfl, rfl, rfl, rfl, rfl, rfl, rfl, rfl, rfl, rfl, trivial⟩, ?_, ?_⟩
          · (try dsimp only)
            refine ⟨by omega, by omega, rfl, rfl, rfl, ?_, rfl, rfl, rfl, rfl⟩
            rw [show (t40 + 1).toNat = t40.toNat + 1 by omega]
            exact fW_row n k i (by omega)
          · (try dsimp only); omega
        · skip
          (try simp only [Decidable.not_not] at h2)
          refine code_exit ?_
          refine then_x ?_; clear hK14 K14
          refine then_x ?_
          refine blk_hit ?_
          refine blk_n ?_
          refine rp_n ⟨trivial, imp_covers ⟨rfl, rfl, rfl, rfl, rfl, rfl, (congrArg (fun z => some (SV.boxS 8 60 22 70 7 k.toNat (List.map (PV.int .i64) z))) (by rw [← fW_next, show t40.toNat * 7 = k.toNat * 7 by omega])), trivial⟩⟩
    · skip
      refine blk_n ?_
      refine hK6 _ ?_; clear hK6 K6
      refine codeT.imp (σ' := [(0, _), (1, _), (2, _), (5, _), (6, _), (7, _), (8, _)]) ?_ (imp_covers ⟨rfl, rfl, rfl, rfl, rfl, rfl, rfl, trivial⟩)
      refine code_seq (fun K17 hK17 => ?_)
      refine code_region ?_
      refine list_cons rfl (op_q (q_loadS one_60 rfl (by decide)) ?_)
      refine list_cons rfl (op_storeS (one_60).2 rfl rfl (by decide) rfl ?_)
      refine list_cons rfl (op_store (one_4).2 7 [7] (by intro t ht; simp only [List.mem_cons, List.not_mem_nil, or_false] at ht; subst ht; rfl) (.inr ⟨rfl, _, rfl⟩) rfl rfl rfl rfl rfl rfl (by first | decide | omega | exact Nat.le_refl _ | (simp; done) | (simp; omega)) (by decide) rfl ?_)
      refine list_nil ?_
      refine hK17 _ ?_; clear hK17 K17
      refine codeT.imp (σ' := [(0, _), (1, _), (2, _), (5, _), (6, _), (7, _), (8, _)]) ?_ (imp_covers ⟨rfl, rfl, rfl, rfl, rfl, rfl, rfl, trivial⟩)
      refine code_ret ?_
      refine ends_ret (cs := []) rfl rfl rfl rfl trivial ?_
      first
        | (have e : ¬ (Cn n k ∧ 0 ≤ s ∧ s ≤ 1000) := by assumption
           simp only [if_neg e, decide_eq_false e]; rfl)
        | (have e : Cn n k ∧ 0 ≤ s ∧ s ≤ 1000 := h1
           simp only [if_pos e, decide_eq_true e])

end Go.Proofs.YtjbbijlbenkgcaaDoor
