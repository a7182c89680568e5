/- Contracts of functions, walked over the pure layer; each says for which arguments. -/
import Derived.Test.YtjbbijlbenkgcaaDoorW4sTy
import Derived.Test.YtjbbijlbenkgcaaDoorTf
import Derived.Test.YtjbbijlbenkgcaaDoorSp
import Derived.Test.YtjbbijlbenkgcaaDoorShelf
import Derived.Test.YtjbbijlbenkgcaaDoorS4
import Derived.Test.YtjbbijlbenkgcaaDoorIm
namespace Go.Proofs.YtjbbijlbenkgcaaDoor
open Go.RowKit W4sTy
set_option linter.unusedVariables false
set_option linter.unusedSimpArgs false

def bt1 (c b : Nat) : Int := if bitN c b = true then 1 else 0
theorem bt1_le (c b : Nat) : 0 ≤ bt1 c b ∧ bt1 c b ≤ 1 := by unfold bt1; split <;> omega
theorem bt1_eq (c b : Nat) : ((((shN c b : Nat) : Int).toNat &&& Int.toNat 1 : Nat) : Int) = bt1 c b := by
  have h := bit_iff c b
  have h1 : shN c b &&& 1 ≤ 1 := Nat.and_le_right
  rw [Int.toNat_natCast, show Int.toNat 1 = 1 from rfl]
  unfold bt1
  by_cases e : bitN c b = true
  · rw [if_pos e]; exact h.2 e
  · rw [if_neg e]
    have : ¬ ((shN c b &&& 1 : Nat) : Int) = 1 := fun k => e (h.1 k)
    omega
def xrC (n k : Int) (t j : Nat) : Nat := ((rowC (atC n k t) k).getD j 0).toNat ^^^ ((rowC (nextC (atC n k t) k) k).getD j 0).toNat
theorem rowC_at {n k : Int} {j : Nat} (h : j < k.toNat) : 0 ≤ (rowC n k).getD j 0 ∧ (rowC n k).getD j 0 ≤ 127 := by
  unfold rowC; exact rowK_at h
theorem xrC_lt (n k : Int) (t : Nat) {j : Nat} (h : j < k.toNat) : xrC n k t j < 128 := by
  have h1 := rowC_at (n := atC n k t) h
  have h2 := rowC_at (n := nextC (atC n k t) k) h
  unfold xrC
  exact @Nat.xor_lt_two_pow _ _ 7 (by omega) (by omega)
def wbt (n k : Int) (t s : Nat) : Int := bt1 (xrC n k t (s / 7)) (s % 7)
def vW (n k : Int) : Nat → Nat → Int
  | 0, _ => 0
  | t + 1, s => vW n k t s + wbt n k t s
theorem vW_le (n k : Int) : ∀ t s : Nat, 0 ≤ vW n k t s ∧ vW n k t s ≤ t
  | 0, s => by unfold vW; omega
  | t + 1, s => by
    have h1 := vW_le n k t s
    have h2 := bt1_le (xrC n k t (s / 7)) (s % 7)
    unfold vW wbt; omega
/-- The counts after t steps and the first c counts of the next one. -/
def fW (n k : Int) (t c : Nat) : List Int := (List.range (k.toNat * 7)).map fun s => if s < c then vW n k (t + 1) s else vW n k t s
theorem fW_len (n k : Int) (t c : Nat) : (fW n k t c).length = k.toNat * 7 := by simp [fW]
theorem fW_at (n k : Int) (t c : Nat) {s : Nat} (h : s < k.toNat * 7) : (fW n k t c).getD s 0 = if s < c then vW n k (t + 1) s else vW n k t s := by simp [fW, h]
theorem fW_le (n k : Int) (t c s : Nat) : 0 ≤ (fW n k t c).getD s 0 ∧ (fW n k t c).getD s 0 ≤ t + 1 := by
  by_cases h : s < k.toNat * 7
  · rw [fW_at n k t c h]
    have h1 := vW_le n k (t + 1) s
    have h2 := vW_le n k t s
    split <;> omega
  · rw [List.getD_eq_getElem?_getD, List.getElem?_eq_none (by rw [fW_len]; omega)]
    simp only [Option.getD_none]; omega
theorem fW_next (n k : Int) (t : Nat) : fW n k t (k.toNat * 7) = fW n k (t + 1) 0 := by
  unfold fW
  apply List.map_congr_left
  intro s hs
  rw [if_pos (List.mem_range.1 hs), if_neg (Nat.not_lt_zero s)]
theorem fW_0 (n k : Int) : fW n k 0 0 = List.replicate (k.toNat * 7) 0 := by
  unfold fW
  have : ∀ s, (if s < 0 then vW n k 1 s else vW n k 0 s) = 0 := fun s => by rw [if_neg (Nat.not_lt_zero s)]; rfl
  simp only [Nat.zero_add, this, List.map_const', List.length_range]
theorem fW_get (n k : Int) (t c : Nat) {s : Nat} (h : s < (fW n k t c).length) : (fW n k t c)[s] = if s < c then vW n k (t + 1) s else vW n k t s := by simp [fW]
theorem fW_set (n k : Int) (t c : Nat) {v : Int} (hv : v = (if c < c then vW n k (t + 1) c else vW n k t c) + wbt n k t c) : (fW n k t c).set c v = fW n k t (c + 1) := by
  apply List.ext_getElem (by simp [fW_len])
  intro s h1 h2
  rw [List.getElem_set, fW_get n k t (c + 1) h2]
  split
  · rename_i e
    subst e
    rw [if_pos (Nat.lt_succ_self c), hv, if_neg (Nat.lt_irrefl c)]; rfl
  · rw [fW_get]
    by_cases h : s < c
    · rw [if_pos h, if_pos (by omega)]
    · rw [if_neg h, if_neg (by omega)]
theorem fW_put {n k : Int} {t c o : Nat} {v : Int} (ho : o = c * 1) (hc : c < k.toNat * 7) (hv : v = (fW n k t c).getD c 0 + wbt n k t c) : putAt ((fW n k t c).map (PV.int .i64)) o [PV.int .i64 v] = (fW n k t (c + 1)).map (PV.int .i64) := by
  subst ho
  rw [put_map1 (PV.int .i64) _ (by rw [fW_len]; exact hc), fW_set n k t c (by rw [hv, fW_at n k t c hc])]
theorem fW_ld {n k : Int} {t c j b : Nat} (h : j * 7 + b < k.toNat * 7) : ((fW n k t c).map (PV.int .i64))[j * 7 + b * 1]? = some (.int .i64 ((fW n k t c).getD (j * 7 + b) 0)) := by
  have := get_map1 (PV.int .i64) 0 (fW n k t c) (k := j * 7 + b) (by rw [fW_len]; exact h)
  rw [Nat.mul_one] at this
  rw [Nat.mul_one]; exact this
theorem seven0 : ∀ m, m < 7 → ([PV.int .i64 0, PV.int .i64 0, PV.int .i64 0, PV.int .i64 0, PV.int .i64 0, PV.int .i64 0, PV.int .i64 0] : List PV).getD m (.bool false) = PV.int .i64 0
  | 0, _ => rfl | 1, _ => rfl | 2, _ => rfl | 3, _ => rfl | 4, _ => rfl | 5, _ => rfl | 6, _ => rfl
theorem zeros7 (n : Nat) : zeros [PV.int .i64 0, PV.int .i64 0, PV.int .i64 0, PV.int .i64 0, PV.int .i64 0, PV.int .i64 0, PV.int .i64 0] n = (List.replicate (n * 7) (0 : Int)).map (PV.int .i64) := by
  have e : zeros [PV.int .i64 0, PV.int .i64 0, PV.int .i64 0, PV.int .i64 0, PV.int .i64 0, PV.int .i64 0, PV.int .i64 0] n = (List.range (n * 7)).map fun _ => PV.int .i64 0 := by
    unfold zeros
    apply List.map_congr_left
    intro j _
    exact seven0 _ (Nat.mod_lt _ (by decide))
  rw [e, List.map_const', List.length_range, List.map_replicate]
theorem w_div {j b : Nat} (h : b < 7) : (j * 7 + b) / 7 = j ∧ (j * 7 + b) % 7 = b := by omega
theorem wbt_at (n k : Int) (t : Nat) {j b : Nat} (h : b < 7) : wbt n k t (j * 7 + b) = bt1 (xrC n k t j) b := by
  unfold wbt; rw [(w_div h).1, (w_div h).2]

set_option maxRecDepth 8000 in
set_option maxHeartbeats 4000000 in
theorem spec_WearOf (n s k : Int) : PCalls Tryd.prog 48 [.int .i64 n, .int .i64 s, .int .i64 k] (· = [.own 0 70 7 (if Cn n k ∧ 0 ≤ s ∧ s ≤ 1000 then k.toNat else 0) ((if Cn n k ∧ 0 ≤ s ∧ s ≤ 1000 then fW n k s.toNat 0 else []).map (.int .i64)), .val (.bool (decide (Cn n k ∧ 0 ≤ s ∧ s ≤ 1000)))]) := by
  refine pcalls_of_code (n := 78) az Tryd.func48 (by kernel_rfl) rfl rfl (Nat.le_of_ble_eq_true rfl) (by intro t u h; simp [Tryd.f48] at h) ?_
  refine code_seq (fun K1 hK1 => ?_)
  refine code_region ?_
  refine list_cons rfl (op_q (q_assign rfl (by decide)) ?_)
  refine list_cons rfl (op_q (q_assign rfl (by decide)) ?_)
  refine list_nil ?_
  refine hK1 _ ?_; clear hK1 K1
  refine code_seq (fun K2 hK2 => ?_)
  refine code_seq (fun K3 hK3 => ?_)
  refine code_region ?_
  refine list_cons rfl (op_q (q_move rfl (by decide)) ?_)
  refine list_cons rfl (op_q (q_move rfl (by decide)) ?_)
  refine list_cons rfl (op_q (q_move rfl (by decide)) ?_)
  refine list_cons rfl (op_call _ (spec_l4Good _ _ _) rfl rfl (by decide) (by decide) (by decide) rfl ?_)
  rintro _ rfl
  refine list_cons rfl (op_q (by first | exact q_notd rfl (by decide) | exact q_not rfl (by decide)) ?_)
  refine list_nil ?_
  refine hK3 _ ?_; clear hK3 K3
  refine codeT.imp (σ' := [(0, _), (1, _), (2, _), (6, _), (7, _), (19, _)]) ?_ (imp_covers ⟨rfl, rfl, rfl, rfl, rfl, rfl, trivial⟩)
  refine code_cond_d rfl (fun h1 => ?_) (fun h1 => ?_)
  · skip
    (try simp only [Decidable.not_not] at h1)
    refine code_seq (fun K4 hK4 => ?_)
    refine code_region ?_
    refine list_cons rfl (op_buildSlice sl_60 (parts := []) rfl rfl rfl (by decide) (by decide) (by decide) rfl ?_)
    refine list_cons rfl (op_q (q_assign rfl (by decide)) ?_)
    refine list_cons rfl (op_q (q_assign rfl (by decide)) ?_)
    refine list_nil ?_
    refine hK4 _ ?_; clear hK4 K4
    refine code_ret ?_
    refine then_r ?_; clear hK2 K2
    refine ends_ret (cs := []) rfl rfl rfl rfl trivial ?_
    first
      | (have e : ¬ (Cn n k ∧ 0 ≤ s ∧ s ≤ 1000) := by unfold Cn; omega
         simp only [if_neg e, decide_eq_false e]; rfl)
      | (have e : Cn n k ∧ 0 ≤ s ∧ s ≤ 1000 := ⟨hc, by omega, by omega⟩
         simp only [if_pos e, decide_eq_true e]
         rw [show i.toNat = s.toNat by omega])
  · skip
    (try simp only [Decidable.not_not] at h1)
    refine code_skip ?_
    refine hK2 _ ?_; clear hK2 K2
    refine code_seq (fun K5 hK5 => ?_)
    refine code_region ?_
    refine list_cons rfl (op_q (q_move rfl (by decide)) ?_)
    refine list_cons rfl (op_makeI sl_60 rfl rfl (by omega) (by omega) (by decide) (by decide) rfl ?_)
    refine list_cons rfl (op_q (q_assign rfl (by decide)) ?_)
    refine list_nil ?_
    refine hK5 _ ?_; clear hK5 K5
    refine code_seq (fun K6 hK6 => ?_)
    refine code_seq (fun K7 hK7 => ?_)
    refine code_region ?_
    refine list_cons rfl (op_q (q_assign rfl (by decide)) ?_)
    refine list_nil ?_
    refine hK7 _ ?_; clear hK7 K7
    refine code_block ?_
    refine code_loop (X := PV × Bool × Nat × List PV × Int) (fun x => [(0, .val (.int .i64 n)), (1, .val (.int .i64 s)), (2, .val (.int .i64 k)), (6, .val x.1), (7, .val (.bool x.2.1)), (8, .own 22 70 7 x.2.2.1 x.2.2.2.1), (9, .val (.int .i64 x.2.2.2.2))]) (fun x => 0 ≤ x.2.2.2.2 ∧ x.2.2.2.2 ≤ s ∧ Cn n k ∧ s ≤ 1000 ∧ x.2.2.1 = k.toNat ∧ x.2.2.2.1 = (fW n k x.2.2.2.2.toNat 0).map (.int .i64)) (fun x => (s - x.2.2.2.2).toNat) (_, _, _, _, _) (imp_covers ⟨rfl, rfl, rfl, rfl, rfl, rfl, rfl, trivial⟩) ?_ ?_
    · (try dsimp only)
      exact ⟨by omega, by omega, by unfold Cn; omega, by omega, rfl, (zeros7 k.toNat).trans (congrArg (List.map (PV.int .i64)) (fW_0 n k).symm)⟩
    · intro x hI
      obtain ⟨t6_p, t7, out_n, out_c, i⟩ := x
      replace hI : 0 ≤ i ∧ i ≤ s ∧ Cn n k ∧ s ≤ 1000 ∧ out_n = k.toNat ∧ out_c = (fW n k i.toNat 0).map (.int .i64) := hI
      show codeT _ _ _ [(0, .val (.int .i64 n)), (1, .val (.int .i64 s)), (2, .val (.int .i64 k)), (6, .val t6_p), (7, .val (.bool t7)), (8, .own 22 70 7 out_n out_c), (9, .val (.int .i64 i))] _
      obtain ⟨i1, i2, hc, i3, rfl, rfl⟩ := hI
      have hk := Cn_bd hc
      have ht := top4_le (k := k) (by omega) (by omega)
      have ha := atC_ok hc i.toNat
      have hb := nextC_ok ha
      have hi : atC n k i.toNat = (n + i) % top4 k := by unfold atC; rw [Int.toNat_of_nonneg i1]
      have har : (rowC (atC n k i.toNat) k).length = k.toNat := rowK_len _ _
      have hbr : (rowC (nextC (atC n k i.toNat) k) k).length = k.toNat := rowK_len _ _
      have ham := ha.2.2
      have ha0 := Cn_bd ha
      refine code_seq (fun K8 hK8 => ?_)
      refine code_seq (fun K9 hK9 => ?_)
      refine code_region ?_
      refine list_cons rfl (op_q (q_move rfl (by decide)) ?_)
      refine list_cons rfl (op_q (q_move rfl (by decide)) ?_)
      refine list_cons rfl (op_q (q_lt rfl rfl (by decide)) ?_)
      refine list_nil ?_
      refine hK9 _ ?_; clear hK9 K9
      refine code_cond_d rfl (fun h2 => ?_) (fun h2 => ?_)
      · skip
        (try simp only [Decidable.not_not] at h2)
        refine code_skip ?_
        refine hK8 _ ?_; clear hK8 K8
        refine code_seq (fun K10 hK10 => ?_)
        refine code_block ?_
        refine code_seq (fun K11 hK11 => ?_)
        refine code_region ?_
        refine list_cons rfl (op_q (q_move rfl (by decide)) ?_)
        refine list_cons rfl (op_q (q_move rfl (by decide)) ?_)
        refine list_cons rfl (op_q (by first | exact q_addI rfl rfl (by decide) (by omega) (by omega) | exact q_ib rfl rfl rfl (by decide)) ?_)
        refine list_cons rfl (op_q (q_move rfl (by decide)) ?_)
        refine list_cons rfl (op_call _ (spec_l4Top _ (by omega) (by omega)) rfl rfl (by decide) (by decide) (by decide) rfl ?_)
        rintro _ rfl
        refine list_cons rfl (op_q (by first | exact q_remI rfl rfl (by decide) (by omega) (by omega) | exact q_rem rfl rfl (by omega) (by decide)) ?_)
        refine list_cons rfl (op_q (q_assign rfl (by decide)) ?_)
        refine list_nil ?_
        refine hK11 _ ?_; clear hK11 K11
        refine codeT.imp (σ' := [(0, _), (1, _), (2, _), (6, _), (7, _), (8, _), (9, _), (10, _)]) ?_ (imp_covers ⟨rfl, rfl, rfl, rfl, rfl, rfl, rfl, rfl, trivial⟩)
        refine code_seq (fun K12 hK12 => ?_)
        refine code_region ?_
        refine list_cons rfl (op_q (q_move rfl (by decide)) ?_)
        refine list_cons rfl (op_q (q_move rfl (by decide)) ?_)
        refine list_cons rfl (op_call _ ((by rw [← hi]; exact spec_l4Row _ _ ha)) rfl rfl (by decide) (by decide) (by decide) rfl ?_)
        rintro _ rfl
        refine list_cons rfl (op_q (q_move rfl (by decide)) ?_)
        refine list_cons rfl (op_q (by first | exact q_addI rfl rfl (by decide) (by omega) (by omega) | exact q_ib rfl rfl rfl (by decide)) ?_)
        refine list_cons rfl (op_q (q_move rfl (by decide)) ?_)
        refine list_cons rfl (op_call _ (spec_l4Top _ (by omega) (by omega)) rfl rfl (by decide) (by decide) (by decide) rfl ?_)
        rintro _ rfl
        refine list_cons rfl (op_q (by first | exact q_remI rfl rfl (by decide) (by omega) (by omega) | exact q_rem rfl rfl (by omega) (by decide)) ?_)
        refine list_cons rfl (op_q (q_move rfl (by decide)) ?_)
        refine list_cons rfl (op_call _ ((by rw [← hi]; exact spec_l4Row (nextC (atC n k i.toNat) k) _ hb)) rfl rfl (by decide) (by decide) (by decide) rfl ?_)
        rintro _ rfl
        refine list_cons rfl (op_q (q_assign rfl (by decide)) ?_)
        refine list_cons rfl (op_q (q_assign rfl (by decide)) ?_)
        refine list_nil ?_
        refine hK12 _ ?_; clear hK12 K12
        refine codeT.imp (σ' := [(0, _), (1, _), (2, _), (6, _), (7, _), (8, _), (9, _), (10, _), (11, _), (12, _)]) ?_ (imp_covers ⟨rfl, rfl, rfl, rfl, rfl, rfl, rfl, rfl, rfl, rfl, trivial⟩)
        refine code_seq (fun K13 hK13 => ?_)
        refine code_region ?_
        refine list_cons rfl (op_q (q_assign rfl (by decide)) ?_)
        refine list_nil ?_
        refine hK13 _ ?_; clear hK13 K13
        refine code_block ?_
        refine code_loop (X := PV × Bool × Nat × List PV × Int × Nat × List PV × Nat × List PV × Int) (fun x => [(0, .val (.int .i64 n)), (1, .val (.int .i64 s)), (2, .val (.int .i64 k)), (6, .val x.1), (7, .val (.bool x.2.1)), (8, .own 22 70 7 x.2.2.1 x.2.2.2.1), (9, .val (.int .i64 i)), (10, .val (.int .i64 x.2.2.2.2.1)), (11, .own 36 3 1 x.2.2.2.2.2.1 x.2.2.2.2.2.2.1), (12, .own 43 3 1 x.2.2.2.2.2.2.2.1 x.2.2.2.2.2.2.2.2.1), (13, .val (.int .i64 x.2.2.2.2.2.2.2.2.2))]) (fun x => 0 ≤ x.2.2.2.2.2.2.2.2.2 ∧ x.2.2.2.2.2.2.2.2.2 ≤ k ∧ x.2.2.1 = k.toNat ∧ x.2.2.2.1 = (fW n k i.toNat (x.2.2.2.2.2.2.2.2.2.toNat * 7)).map (.int .i64) ∧ x.2.2.2.2.2.1 = k.toNat ∧ x.2.2.2.2.2.2.1 = (rowC (atC n k i.toNat) k).map (.int .i64) ∧ x.2.2.2.2.2.2.2.1 = k.toNat ∧ x.2.2.2.2.2.2.2.2.1 = (rowC (nextC (atC n k i.toNat) k) k).map (.int .i64)) (fun x => (k - x.2.2.2.2.2.2.2.2.2).toNat) (_, _, _, _, _, _, _, _, _, _) (imp_covers ⟨rfl, rfl, rfl, rfl, rfl, rfl, rfl, rfl, rfl, rfl, rfl, trivial⟩) ?_ ?_
        · (try dsimp only)
          exact ⟨by omega, by omega, rfl, rfl, har, rfl, hbr, rfl⟩
        · intro x hI
          obtain ⟨t6_p, t7, out_n, out_c, n_, a_n, a_c, b_n, b_c, x_⟩ := x
          replace hI : 0 ≤ x_ ∧ x_ ≤ k ∧ out_n = k.toNat ∧ out_c = (fW n k i.toNat (x_.toNat * 7)).map (.int .i64) ∧ a_n = k.toNat ∧ a_c = (rowC (atC n k i.toNat) k).map (.int .i64) ∧ b_n = k.toNat ∧ b_c = (rowC (nextC (atC n k i.toNat) k) k).map (.int .i64) := hI
          show codeT _ _ _ [(0, .val (.int .i64 n)), (1, .val (.int .i64 s)), (2, .val (.int .i64 k)), (6, .val t6_p), (7, .val (.bool t7)), (8, .own 22 70 7 out_n out_c), (9, .val (.int .i64 i)), (10, .val (.int .i64 n_)), (11, .own 36 3 1 a_n a_c), (12, .own 43 3 1 b_n b_c), (13, .val (.int .i64 x_))] _
          obtain ⟨j1, j2, rfl, rfl, rfl, rfl, rfl, rfl⟩ := hI
          refine code_seq (fun K14 hK14 => ?_)
          refine code_seq (fun K15 hK15 => ?_)
          refine code_region ?_
          refine list_cons rfl (op_q (q_move rfl (by decide)) ?_)
          refine list_cons rfl (op_q (q_move rfl (by decide)) ?_)
          refine list_cons rfl (op_q (q_lt rfl rfl (by decide)) ?_)
          refine list_nil ?_
          refine hK15 _ ?_; clear hK15 K15
          refine code_cond_d rfl (fun h3 => ?_) (fun h3 => ?_)
          · skip
            (try simp only [Decidable.not_not] at h3)
            refine code_skip ?_
            refine hK14 _ ?_; clear hK14 K14
            refine code_seq (fun K16 hK16 => ?_)
            refine code_block ?_
            refine code_seq (fun K17 hK17 => ?_)
            refine code_region ?_
            refine list_cons rfl (op_q (q_assign rfl (by decide)) ?_)
            refine list_nil ?_
            refine hK17 _ ?_; clear hK17 K17
            refine code_block ?_
            refine code_loop (X := PV × Bool × Nat × List PV × Int × Nat × List PV × Nat × List PV × Int) (fun x => [(0, .val (.int .i64 n)), (1, .val (.int .i64 s)), (2, .val (.int .i64 k)), (6, .val x.1), (7, .val (.bool x.2.1)), (8, .own 22 70 7 x.2.2.1 x.2.2.2.1), (9, .val (.int .i64 i)), (10, .val (.int .i64 x.2.2.2.2.1)), (11, .own 36 3 1 x.2.2.2.2.2.1 x.2.2.2.2.2.2.1), (12, .own 43 3 1 x.2.2.2.2.2.2.2.1 x.2.2.2.2.2.2.2.2.1), (13, .val (.int .i64 x_)), (14, .val (.int .i64 x.2.2.2.2.2.2.2.2.2))]) (fun x => 0 ≤ x.2.2.2.2.2.2.2.2.2 ∧ x.2.2.2.2.2.2.2.2.2 ≤ 7 ∧ x.2.2.1 = k.toNat ∧ x.2.2.2.1 = (fW n k i.toNat (x_.toNat * 7 + x.2.2.2.2.2.2.2.2.2.toNat)).map (.int .i64) ∧ x.2.2.2.2.2.1 = k.toNat ∧ x.2.2.2.2.2.2.1 = (rowC (atC n k i.toNat) k).map (.int .i64) ∧ x.2.2.2.2.2.2.2.1 = k.toNat ∧ x.2.2.2.2.2.2.2.2.1 = (rowC (nextC (atC n k i.toNat) k) k).map (.int .i64)) (fun x => (7 - x.2.2.2.2.2.2.2.2.2).toNat) (_, _, _, _, _, _, _, _, _, _) (imp_covers ⟨rfl, rfl, rfl, rfl, rfl, rfl, rfl, rfl, rfl, rfl, rfl, rfl, trivial⟩) ?_ ?_
            · (try dsimp only)
              exact ⟨by omega, by omega, rfl, rfl, rfl, rfl, rfl, rfl⟩
            · intro x hI
              obtain ⟨t6_p, t7, out_n, out_c, n_, a_n, a_c, b_n, b_c, bar⟩ := x
              replace hI : 0 ≤ bar ∧ bar ≤ 7 ∧ out_n = k.toNat ∧ out_c = (fW n k i.toNat (x_.toNat * 7 + bar.toNat)).map (.int .i64) ∧ a_n = k.toNat ∧ a_c = (rowC (atC n k i.toNat) k).map (.int .i64) ∧ b_n = k.toNat ∧ b_c = (rowC (nextC (atC n k i.toNat) k) k).map (.int .i64) := hI
              show codeT _ _ _ [(0, .val (.int .i64 n)), (1, .val (.int .i64 s)), (2, .val (.int .i64 k)), (6, .val t6_p), (7, .val (.bool t7)), (8, .own 22 70 7 out_n out_c), (9, .val (.int .i64 i)), (10, .val (.int .i64 n_)), (11, .own 36 3 1 a_n a_c), (12, .own 43 3 1 b_n b_c), (13, .val (.int .i64 x_)), (14, .val (.int .i64 bar))] _
              obtain ⟨l1, l2, rfl, rfl, rfl, rfl, rfl, rfl⟩ := hI
              have hx := xrC_lt n k i.toNat (j := x_.toNat) (by omega)
              have hra := rowC_at (n := atC n k i.toNat) (k := k) (j := x_.toNat) (by omega)
              have hrb := rowC_at (n := nextC (atC n k i.toNat) k) (k := k) (j := x_.toNat) (by omega)
              have hbt := bt1_le (((((rowC (atC n k i.toNat) k).getD x_.toNat 0).toNat ^^^ ((rowC (nextC (atC n k i.toNat) k) k).getD x_.toNat 0).toNat : Nat) : Int).toNat) bar.toNat
              have hsh : shN (((((rowC (atC n k i.toNat) k).getD x_.toNat 0).toNat ^^^ ((rowC (nextC (atC n k i.toNat) k) k).getD x_.toNat 0).toNat : Nat) : Int).toNat) bar.toNat ≤ 127 := Nat.le_trans (Nat.div_le_self _ _) (by show xrC n k i.toNat x_.toNat ≤ 127; omega)
              rw [← bt1_eq] at hbt
              have hfl := fW_le n k i.toNat (x_.toNat * 7 + bar.toNat) (x_.toNat * 7 + bar.toNat)
              refine code_seq (fun K18 hK18 => ?_)
              refine code_seq (fun K19 hK19 => ?_)
              refine code_region ?_
              refine list_cons rfl (op_q (q_move rfl (by decide)) ?_)
              refine list_cons rfl (op_q (q_lt rfl rfl (by decide)) ?_)
              refine list_nil ?_
              refine hK19 _ ?_; clear hK19 K19
              refine code_cond_d rfl (fun h4 => ?_) (fun h4 => ?_)
              · skip
                (try simp only [Decidable.not_not] at h4)
                refine code_skip ?_
                refine hK18 _ ?_; clear hK18 K18
                refine code_seq (fun K20 hK20 => ?_)
                refine code_block ?_
                refine any_start fun ob1_0 => ?_
                refine any_op (rd := [8]) ob1_0 rfl rfl rfl (anyT_quiet [(8, _)] ⟨rfl, trivial⟩ rfl (q_move rfl (by decide))) (fun ob1_1 => ?_)
                simp only [List.cons_append, List.nil_append] at ob1_1
                refine any_op (rd := [13]) ob1_1 rfl rfl rfl (anyT_quiet [(13, _)] ⟨rfl, trivial⟩ rfl (q_move rfl (by decide))) (fun ob1_2 => ?_)
                simp only [List.cons_append, List.nil_append] at ob1_2
                refine any_op (rd := [14]) ob1_2 rfl rfl rfl (anyT_quiet [(14, _)] ⟨rfl, trivial⟩ rfl (q_move rfl (by decide))) (fun ob1_3 => ?_)
                simp only [List.cons_append, List.nil_append] at ob1_3
                refine any_op (rd := [8]) ob1_3 rfl rfl rfl (anyT_quiet [(8, _)] ⟨rfl, trivial⟩ rfl (q_move rfl (by decide))) (fun ob1_4 => ?_)
                simp only [List.cons_append, List.nil_append] at ob1_4
                refine any_op (rd := [13]) ob1_4 rfl rfl rfl (anyT_quiet [(13, _)] ⟨rfl, trivial⟩ rfl (q_move rfl (by decide))) (fun ob1_5 => ?_)
                simp only [List.cons_append, List.nil_append] at ob1_5
                refine any_op (rd := [14]) ob1_5 rfl rfl rfl (anyT_quiet [(14, _)] ⟨rfl, trivial⟩ rfl (q_move rfl (by decide))) (fun ob1_6 => ?_)
                simp only [List.cons_append, List.nil_append] at ob1_6
                refine any_op (rd := [56, 57]) ob1_6 rfl rfl rfl (anyT_quiet [(56, _), (57, _)] ⟨rfl, rfl, trivial⟩ rfl (q_indexAddr_own sl_60 rfl rfl (by omega) (by omega) (by decide))) (fun ob1_7 => ?_)
                simp only [List.cons_append, List.nil_append] at ob1_7
                refine any_op (rd := [58, 59]) ob1_7 rfl rfl rfl (anyT_quiet [(58, _), (59, _)] ⟨rfl, rfl, trivial⟩ rfl (q_indexAddr_arr arr_70 rfl rfl rfl (by omega) (by omega) (by decide))) (fun ob1_8 => ?_)
                simp only [List.cons_append, List.nil_append] at ob1_8
                refine any_op (rd := [60, 8]) ob1_8 rfl rfl rfl (anyT_quiet [(60, _), (8, _)] ⟨rfl, rfl, trivial⟩ rfl (q_load one_3 8 rfl rfl rfl (by first | exact fW_ld (by omega) | exact get_map1 _ 0 _ (by first | omega | (simp; omega))) (by decide))) (fun ob1_9 => ?_)
                simp only [List.cons_append, List.nil_append] at ob1_9
                refine any_op (rd := [11]) ob1_9 rfl rfl rfl (anyT_quiet [(11, _)] ⟨rfl, trivial⟩ rfl (q_move rfl (by decide))) (fun ob1_10 => ?_)
                simp only [List.cons_append, List.nil_append] at ob1_10
                refine any_op (rd := [13]) ob1_10 rfl rfl rfl (anyT_quiet [(13, _)] ⟨rfl, trivial⟩ rfl (q_move rfl (by decide))) (fun ob1_11 => ?_)
                simp only [List.cons_append, List.nil_append] at ob1_11
                refine any_op (rd := [62, 63]) ob1_11 rfl rfl rfl (anyT_quiet [(62, _), (63, _)] ⟨rfl, rfl, trivial⟩ rfl (q_indexAddr_own sl_24 rfl rfl (by omega) (by omega) (by decide))) (fun ob1_12 => ?_)
                simp only [List.cons_append, List.nil_append] at ob1_12
                refine any_op (rd := [64, 11]) ob1_12 rfl rfl rfl (anyT_quiet [(64, _), (11, _)] ⟨rfl, rfl, trivial⟩ rfl (q_load one_3 11 rfl rfl rfl (by first | exact fW_ld (by omega) | exact get_map1 _ 0 _ (by first | omega | (simp; omega))) (by decide))) (fun ob1_13 => ?_)
                simp only [List.cons_append, List.nil_append] at ob1_13
                refine any_op (rd := [12]) ob1_13 rfl rfl rfl (anyT_quiet [(12, _)] ⟨rfl, trivial⟩ rfl (q_move rfl (by decide))) (fun ob1_14 => ?_)
                simp only [List.cons_append, List.nil_append] at ob1_14
                refine any_op (rd := [13]) ob1_14 rfl rfl rfl (anyT_quiet [(13, _)] ⟨rfl, trivial⟩ rfl (q_move rfl (by decide))) (fun ob1_15 => ?_)
                simp only [List.cons_append, List.nil_append] at ob1_15
                refine any_op (rd := [66, 67]) ob1_15 rfl rfl rfl (anyT_quiet [(66, _), (67, _)] ⟨rfl, rfl, trivial⟩ rfl (q_indexAddr_own sl_24 rfl rfl (by omega) (by omega) (by decide))) (fun ob1_16 => ?_)
                simp only [List.cons_append, List.nil_append] at ob1_16
                refine any_op (rd := [68, 12]) ob1_16 rfl rfl rfl (anyT_quiet [(68, _), (12, _)] ⟨rfl, rfl, trivial⟩ rfl (q_load one_3 12 rfl rfl rfl (by first | exact fW_ld (by omega) | exact get_map1 _ 0 _ (by first | omega | (simp; omega))) (by decide))) (fun ob1_17 => ?_)
                simp only [List.cons_append, List.nil_append] at ob1_17
                refine any_op (rd := [65, 69]) ob1_17 rfl rfl rfl (anyT_quiet [(65, _), (69, _)] ⟨rfl, rfl, trivial⟩ rfl (by first | exact q_xorI rfl rfl (by decide) (by omega) (by omega) (by omega) (by omega) | exact q_ib rfl rfl rfl (by decide))) (fun ob1_18 => ?_)
                simp only [List.cons_append, List.nil_append] at ob1_18
                refine any_op (rd := [14]) ob1_18 rfl rfl rfl (anyT_quiet [(14, _)] ⟨rfl, trivial⟩ rfl (q_move rfl (by decide))) (fun ob1_19 => ?_)
                simp only [List.cons_append, List.nil_append] at ob1_19
                refine any_op (rd := [70, 71]) ob1_19 rfl rfl rfl (anyT_quiet [(70, _), (71, _)] ⟨rfl, rfl, trivial⟩ rfl (by first | exact q_shrN rfl rfl (by decide) (by omega) (by omega) (by omega) | exact q_shrI rfl rfl (by decide) (by omega) (by omega) (by omega) | exact q_shr rfl rfl (by omega) (by decide))) (fun ob1_20 => ?_)
                simp only [List.cons_append, List.nil_append] at ob1_20
                refine any_op (rd := [72]) ob1_20 rfl rfl rfl (anyT_quiet [(72, _)] ⟨rfl, trivial⟩ rfl (by first | exact q_andI rfl rfl (by decide) (by omega) (by omega) (by omega) (by omega) | exact q_ib rfl rfl rfl (by decide))) (fun ob1_21 => ?_)
                simp only [List.cons_append, List.nil_append] at ob1_21
                refine any_op (rd := [61, 73]) ob1_21 rfl rfl rfl (anyT_quiet [(61, _), (73, _)] ⟨rfl, rfl, trivial⟩ rfl (by first | exact q_addI rfl rfl (by decide) (by omega) (by omega) | exact q_ib rfl rfl rfl (by decide))) (fun ob1_22 => ?_)
                simp only [List.cons_append, List.nil_append] at ob1_22
                refine any_op (rd := [53, 54]) ob1_22 rfl rfl rfl (anyT_quiet [(53, _), (54, _)] ⟨rfl, rfl, trivial⟩ rfl (q_indexAddr_own sl_60 rfl rfl (by omega) (by omega) (by decide))) (fun ob1_23 => ?_)
                simp only [List.cons_append, List.nil_append] at ob1_23
                refine any_end [[], [], [], [], [], [], [3, 4], [3, 4, 5, 6], [3, 4, 5, 6, 7], [], [], [9, 10], [9, 10, 11], [], [], [13, 14], [13, 14, 15], [9, 10, 11, 12, 13, 14, 15, 16], [], [9, 10, 11, 12, 13, 14, 15, 16, 17, 18], [9, 10, 11, 12, 13, 14, 15, 16, 17, 18, 19], [3, 4, 5, 6, 7, 8, 9, 10, 11, 12, 13, 14, 15, 16, 17, 18, 19, 20], [0, 1], [0, 1, 2, 3, 4, 5, 6, 7, 8, 9, 10, 11, 12, 13, 14, 15, 16, 17, 18, 19, 20, 21, 22], [0, 1, 2, 3, 4, 5, 6, 7, 8, 9, 10, 11, 12, 13, 14, 15, 16, 17, 18, 19, 20, 21, 22, 23]] ob1_23 (by kernel_rfl) (Nat.le_of_ble_eq_true rfl) (by decide) (by decide) (by kernel_rfl) (by kernel_rfl) (by kernel_rfl) (by kernel_rfl) (by kernel_rfl) ?_
                clear ob1_0 ob1_1 ob1_2 ob1_3 ob1_4 ob1_5 ob1_6 ob1_7 ob1_8 ob1_9 ob1_10 ob1_11 ob1_12 ob1_13 ob1_14 ob1_15 ob1_16 ob1_17 ob1_18 ob1_19 ob1_20 ob1_21 ob1_22 ob1_23
                refine listT.imp (σ' := ((0, _) :: (1, _) :: (2, _) :: (6, _) :: (7, _) :: (8, _) :: (9, _) :: (10, _) :: (11, _) :: (12, _) :: (13, _) :: (14, _) :: (49, _) :: (50, _) :: (53, _) :: (54, _) :: (55, _) :: (56, _) :: (57, _) :: (58, _) :: (59, _) :: (60, _) :: (61, _) :: (62, _) :: (63, _) :: (64, _) :: (65, _) :: (66, _) :: (67, _) :: (68, _) :: (69, _) :: (70, _) :: (71, _) :: (72, _) :: (73, _) :: (74, _) :: (75, _) :: [])) ?_ (imp_covers ⟨rfl, rfl, rfl, rfl, rfl, rfl, rfl, rfl, rfl, rfl, rfl, rfl, rfl, rfl, rfl, rfl, rfl, rfl, rfl, rfl, rfl, rfl, rfl, rfl, rfl, rfl, rfl, rfl, rfl, rfl, rfl, rfl, rfl, rfl, rfl, rfl, rfl, trivial⟩)
                refine list_cons rfl (op_q (q_indexAddr_arr arr_70 rfl rfl rfl (by omega) (by omega) (by decide)) ?_)
                refine list_cons rfl (op_store (one_3).2 8 [8, 53, 56] (by intro t ht; simp only [List.mem_cons, List.not_mem_nil, or_false] at ht; rcases ht with rfl | rfl | rfl <;> rfl) (.inl rfl) rfl rfl rfl rfl rfl rfl (by first | omega | (simp only [fW_len, List.length_map]; omega)) (by decide) rfl ?_)
                refine list_nil ?_
                refine blk_n ?_
                refine hK20 _ ?_; clear hK20 K20
                refine codeT.imp (σ' := [(0, _), (1, _), (2, _), (6, _), (7, _), (8, _), (9, _), (10, _), (11, _), (12, _), (13, _), (14, _)]) ?_ (imp_covers ⟨rfl, rfl, rfl, rfl, rfl, rfl, rfl, rfl, rfl, rfl, rfl, rfl, trivial⟩)
                refine code_region ?_
                refine list_cons rfl (op_q (q_move rfl (by decide)) ?_)
                refine list_cons rfl (op_q (by first | exact q_addI rfl rfl (by decide) (by omega) (by omega) | exact q_ib rfl rfl rfl (by decide)) ?_)
                refine list_cons rfl (op_q (q_assign rfl (by decide)) ?_)
                refine list_nil ?_
                refine then_n ⟨(_, _, _, _, _, _, _, _, _, _), imp_covers ⟨rfl, rfl, rfl, rfl, rfl, rfl, rfl, rfl, rfl, rfl, rfl, rfl, trivial⟩, ?_, ?_⟩
                · (try dsimp only)
                  refine ⟨by omega, by omega, rfl, ?_, rfl, rfl, rfl, rfl⟩
                  rw [show x_.toNat * 7 + (bar + 1).toNat = x_.toNat * 7 + bar.toNat + 1 by omega]
                  exact fW_put (by omega) (by omega) (by rw [wbt_at n k _ (by omega), ← bt1_eq]; rfl)
                · (try dsimp only); omega
              · skip
                (try simp only [Decidable.not_not] at h4)
                refine code_exit ?_
                refine then_x ?_; clear hK18 K18
                refine then_x ?_
                refine blk_hit ?_
                refine blk_n ?_
                refine hK16 _ ?_; clear hK16 K16
                refine code_region ?_
                refine list_cons rfl (op_q (q_move rfl (by decide)) ?_)
                refine list_cons rfl (op_q (by first | exact q_addI rfl rfl (by decide) (by omega) (by omega) | exact q_ib rfl rfl rfl (by decide)) ?_)
                refine list_cons rfl (op_q (q_assign rfl (by decide)) ?_)
                refine list_nil ?_
                refine then_n ⟨(_, _, _, _, _, _, _, _, _, _), imp_covers ⟨rfl, rfl, rfl, rfl, rfl, rfl, rfl, rfl, rfl, rfl, rfl, trivial⟩, ?_, ?_⟩
                · (try dsimp only)
                  exact ⟨by omega, by omega, rfl, by rw [show (x_ + 1).toNat * 7 = x_.toNat * 7 + bar.toNat by omega], rfl, rfl, rfl, rfl⟩
                · (try dsimp only); omega
          · skip
            (try simp only [Decidable.not_not] at h3)
            refine code_exit ?_
            refine then_x ?_; clear hK14 K14
            refine then_x ?_
            refine blk_hit ?_
            refine blk_n ?_
            refine hK10 _ ?_; clear hK10 K10
            refine code_region ?_
            refine list_cons rfl (op_q (q_move rfl (by decide)) ?_)
            refine list_cons rfl (op_q (by first | exact q_addI rfl rfl (by decide) (by omega) (by omega) | exact q_ib rfl rfl rfl (by decide)) ?_)
            refine list_cons rfl (op_q (q_assign rfl (by decide)) ?_)
            refine list_nil ?_
            refine then_n ⟨(_, _, _, _, _), imp_covers ⟨rfl, rfl, rfl, rfl, rfl, rfl, rfl, trivial⟩, ?_, ?_⟩
            · (try dsimp only)
              exact ⟨by omega, by omega, hc, i3, rfl, by rw [show (i + 1).toNat = i.toNat + 1 by omega, ← fW_next, show k.toNat * 7 = x_.toNat * 7 by omega]⟩
            · (try dsimp only); omega
      · skip
        (try simp only [Decidable.not_not] at h2)
        refine code_exit ?_
        refine then_x ?_; clear hK8 K8
        refine then_x ?_
        refine blk_hit ?_
        refine hK6 _ ?_; clear hK6 K6
        refine code_seq (fun K21 hK21 => ?_)
        refine code_region ?_
        refine list_cons rfl (op_q (q_move rfl (by decide)) ?_)
        refine list_cons rfl (op_q (q_assign rfl (by decide)) ?_)
        refine list_cons rfl (op_q (q_assign rfl (by decide)) ?_)
        refine list_nil ?_
        refine hK21 _ ?_; clear hK21 K21
        refine code_ret ?_
        refine ends_ret (cs := []) rfl rfl rfl rfl trivial ?_
        first
          | (have e : ¬ (Cn n k ∧ 0 ≤ s ∧ s ≤ 1000) := by unfold Cn; omega
             simp only [if_neg e, decide_eq_false e]; rfl)
          | (have e : Cn n k ∧ 0 ≤ s ∧ s ≤ 1000 := ⟨hc, by omega, by omega⟩
             simp only [if_pos e, decide_eq_true e]
             rw [show i.toNat = s.toNat by omega])

end Go.Proofs.YtjbbijlbenkgcaaDoor
