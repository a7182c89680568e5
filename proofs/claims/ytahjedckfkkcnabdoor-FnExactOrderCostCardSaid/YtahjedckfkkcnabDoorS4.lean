/- Contracts of functions, walked over the pure layer; each says for which arguments. -/
import Derived.Test.YtahjedckfkkcnabDoorS4Ty
import Derived.Test.YtahjedckfkkcnabDoorTf
import Derived.Test.YtahjedckfkkcnabDoorSp
namespace Go.Proofs.YtahjedckfkkcnabDoor
open Go.RowKit S4Ty
set_option linter.unusedVariables false
set_option linter.unusedSimpArgs false

/-- The changes from the cell of a digit to that of another one. -/
def dgt (a b : Nat) : Int := ((cnt7 ((digT.getD a 0).toNat ^^^ (digT.getD b 0).toNat) : Nat) : Int)
theorem dgt_le (a b : Nat) : 0 ≤ dgt a b ∧ dgt a b ≤ 7 := by
  have := cnt7_le ((digT.getD a 0).toNat ^^^ (digT.getD b 0).toNat)
  unfold dgt; omega
/-- A list of so many zeros, its first k places filled by f. -/
def filN (m : Nat) (f : Nat → Int) : Nat → List Int
  | 0 => List.replicate m 0
  | k + 1 => (filN m f k).set k (f k)
theorem filN_len (m : Nat) (f : Nat → Int) : ∀ k, (filN m f k).length = m
  | 0 => by simp [filN]
  | k + 1 => by simp [filN, filN_len m f k]
theorem filN_at (m : Nat) (f : Nat → Int) : ∀ (k s : Nat), s < m → (filN m f k).getD s 0 = if s < k then f s else 0
  | 0, s, h => by simp [filN, h]
  | k + 1, s, h => by
    have ih := filN_at m f k s h
    have hl := filN_len m f k
    rw [List.getD_eq_getElem?_getD] at ih ⊢
    rw [filN, List.getElem?_set]
    by_cases e : k = s
    · subst e; simp [hl, h]
    · rw [if_neg e, ih]
      by_cases h2 : s < k
      · rw [if_pos h2, if_pos (by omega)]
      · rw [if_neg h2, if_neg (by omega)]
theorem filN_put (m : Nat) (f : Nat → Int) {k o : Nat} {v : Int} (ho : o = k) (hk : k < m) (hv : v = f k) : putAt ((filN m f k).map (PV.int .i64)) o [PV.int .i64 v] = (filN m f (k + 1)).map (PV.int .i64) := by
  subst ho; subst hv
  have := put_map1 (PV.int .i64) (filN m f o) (k := o) (by rw [filN_len]; exact hk) (f o)
  rw [Nat.mul_one] at this
  exact this
theorem put_all {a b : List PV} {n : Nat} (ha : a.length = n) (hb : b.length = n) : putAt a 0 (PV.agg ((b.drop 0).take n)).cells = b := by
  unfold putAt PV.cells
  simp only [List.drop_zero, List.take_zero, List.nil_append, Nat.zero_add]
  rw [List.take_of_length_le (by omega), hb, List.drop_of_length_le (by omega), List.append_nil]
theorem res_agg1 {az : TypeId → Nat} {σ : St} {t u l e : Nat} {cs : List PV} (h : σ.at t = some (.box l e cs)) (haz : (az u == 0) = false) (hf : PV.flatL cs = true) (hl : cs.length = az u) : St.res az σ [.cell t u] = some [.val (.agg cs)] := by
  simp only [St.res, h, haz, hf, hl, BEq.rfl, Bool.and_self, if_true, Bool.false_eq_true, if_false]
/-- The nearest digits: one digit more is looked at. -/
def near1 (d : Nat) (s : List Int × Int) (z : Nat) : List Int × Int :=
  if z = d ∨ s.2 < dgt d z then s else if dgt d z < s.2 then ([(z : Int)], dgt d z) else (s.1 ++ [(z : Int)], s.2)
def nearK (d : Nat) (m : Int) : Nat → List Int × Int
  | 0 => ([], m)
  | k + 1 => near1 d (nearK d m k) k
theorem nearK_le (d : Nat) {m : Int} (hm : 0 ≤ m) : ∀ k, 0 ≤ (nearK d m k).2 ∧ (nearK d m k).2 ≤ m ∧ (nearK d m k).1.length ≤ k
  | 0 => by simp [nearK, hm]
  | k + 1 => by
    have ih := nearK_le d hm k
    have hd := dgt_le d k
    unfold nearK near1
    split
    · exact ⟨ih.1, ih.2.1, by omega⟩
    · split
      · exact ⟨hd.1, by simp only; omega, by simp⟩
      · exact ⟨ih.1, ih.2.1, by simp; omega⟩
set_option maxRecDepth 100000 in
theorem near_87 : ∀ d, d < 10 → nearK d 7 10 = nearK d 8 10 := by decide
/-- Whether a bar of a digit's cell lights. -/
def btD (d b : Nat) : Int := ((((shN (digT.getD d 0).toNat b : Nat) : Int).toNat &&& Int.toNat 1 : Nat) : Int)
theorem btD_le (d b : Nat) : 0 ≤ btD d b ∧ btD d b ≤ 1 := by
  unfold btD
  have : ((shN (digT.getD d 0).toNat b : Nat) : Int).toNat &&& Int.toNat 1 ≤ 1 := Nat.and_le_right
  omega
def shS : Nat → List Int
  | 0 => List.replicate 7 0
  | s + 1 => (shS s).set (s % 7) ((shS s).getD (s % 7) 0 + btD (s / 7) (s % 7))
theorem shS_len : ∀ s, (shS s).length = 7
  | 0 => rfl
  | s + 1 => by simp [shS, shS_len s]
theorem shS_le : ∀ (s j : Nat), 0 ≤ (shS s).getD j 0 ∧ (shS s).getD j 0 ≤ s
  | 0, j => by
    have : (shS 0).getD j 0 = 0 := by
      unfold shS
      rw [List.getD_eq_getElem?_getD, List.getElem?_replicate]
      split <;> rfl
    rw [this]; omega
  | s + 1, j => by
    have h1 := shS_le s j
    have h2 := shS_le s (s % 7)
    have h3 := btD_le (s / 7) (s % 7)
    have hl := shS_len s
    have : (shS (s + 1)).getD j 0 = if s % 7 = j then (shS s).getD (s % 7) 0 + btD (s / 7) (s % 7) else (shS s).getD j 0 := by
      rw [shS, List.getD_eq_getElem?_getD, List.getElem?_set]
      by_cases e : s % 7 = j
      · rw [if_pos e, if_pos e, if_pos (by omega)]; rfl
      · rw [if_neg e, if_neg e, ← List.getD_eq_getElem?_getD]
    rw [this]
    split <;> omega
theorem shS_put {s o : Nat} {v : Int} (ho : o = s % 7) (hv : v = (shS s).getD (s % 7) 0 + btD (s / 7) (s % 7)) : putAt ((shS s).map (PV.int .i64)) o [PV.int .i64 v] = (shS (s + 1)).map (PV.int .i64) := by
  subst ho; subst hv
  have := put_map1 (PV.int .i64) (shS s) (k := s % 7) (by rw [shS_len]; omega) ((shS s).getD (s % 7) 0 + btD (s / 7) (s % 7))
  rw [Nat.mul_one] at this
  exact this
def tabF (s : Nat) : Int := dgt (s / 10) (s % 10)
def tabS (k : Nat) : List Int := filN 100 tabF k
theorem tab_at {a b : Nat} (ha : a < 10) (hb : b < 10) : (tabS 100).getD (a * 10 + b) 0 = dgt a b := by
  unfold tabS
  rw [filN_at 100 tabF 100 _ (by omega), if_pos (by omega)]
  unfold tabF
  rw [show (a * 10 + b) / 10 = a by omega, show (a * 10 + b) % 10 = b by omega]

set_option maxRecDepth 4000 in
theorem spec_l4Digits (a b : Int) (ha : 0 ≤ a ∧ a ≤ 9) (hb : 0 ≤ b ∧ b ≤ 9) : PCalls Tryd.prog 35 [.int .i64 a, .int .i64 b] (· = [.val (.int .i64 (dgt a.toNat b.toNat))]) := by
  refine pcalls_of_code (n := 10) az Tryd.func35 (by kernel_rfl) rfl rfl (Nat.le_of_ble_eq_true rfl) (by intro t u h; simp [Tryd.f35] at h) ?_
  refine code_seq (fun K1 hK1 => ?_)
  refine code_region ?_
  refine list_cons rfl (op_q (q_assign rfl (by decide)) ?_)
  refine list_nil ?_
  refine hK1 _ ?_; clear hK1 K1
  refine code_seq (fun K2 hK2 => ?_)
  refine code_region ?_
  refine list_cons rfl (op_q (q_move rfl (by decide)) ?_)
  refine list_cons rfl (op_call _ (spec_l2Digit _ (by omega) (by omega)) rfl rfl (by decide) (by decide) (by decide) rfl ?_)
  rintro _ rfl
  refine list_cons rfl (op_q (q_move rfl (by decide)) ?_)
  refine list_cons rfl (op_call _ (spec_l2Digit _ (by omega) (by omega)) rfl rfl (by decide) (by decide) (by decide) rfl ?_)
  rintro _ rfl
  refine list_cons rfl (op_call _ (spec_l2Far _ _ (digT_cell a.toNat) (digT_cell b.toNat)) rfl rfl (by decide) (by decide) (by decide) rfl ?_)
  rintro _ rfl
  refine list_cons rfl (op_q (q_assign rfl (by decide)) ?_)
  refine list_nil ?_
  refine hK2 _ ?_; clear hK2 K2
  refine codeT.imp (σ' := [(0, _), (1, _), (4, _)]) ?_ (imp_covers ⟨rfl, rfl, rfl, trivial⟩)
  refine code_ret ?_
  refine ends_ret (cs := []) rfl rfl rfl rfl trivial ?_
  rfl

set_option maxRecDepth 4000 in
set_option maxHeartbeats 1000000 in
theorem spec_NearestDigits (digit : Int) : PCalls Tryd.prog 16 [.int .i64 digit] (· = [.own 0 3 1 (if 0 ≤ digit ∧ digit ≤ 9 then (nearK digit.toNat 8 10).1 else []).length ((if 0 ≤ digit ∧ digit ≤ 9 then (nearK digit.toNat 8 10).1 else []).map (.int .i64)), .val (.int .i64 (if 0 ≤ digit ∧ digit ≤ 9 then (nearK digit.toNat 8 10).2 else 0)), .val (.bool (decide (0 ≤ digit ∧ digit ≤ 9)))]) := by
  refine pcalls_of_code (n := 42) az Tryd.func16 (by kernel_rfl) rfl rfl (Nat.le_of_ble_eq_true rfl) (by intro t u h; simp [Tryd.f16] at h) ?_
  refine code_seq (fun K1 hK1 => ?_)
  refine code_region ?_
  refine list_cons rfl (op_q (q_assign rfl (by decide)) ?_)
  refine list_cons rfl (op_q (q_assign rfl (by decide)) ?_)
  refine list_cons rfl (op_q (q_assign rfl (by decide)) ?_)
  refine list_nil ?_
  refine hK1 _ ?_; clear hK1 K1
  refine code_seq (fun K2 hK2 => ?_)
  refine code_region ?_
  refine list_cons rfl (op_buildSlice sl_30 (parts := []) rfl rfl rfl (by decide) (by decide) (by decide) rfl ?_)
  refine list_cons rfl (op_q (q_assign rfl (by decide)) ?_)
  refine list_cons rfl (op_q (q_assign rfl (by decide)) ?_)
  refine list_nil ?_
  refine hK2 _ ?_; clear hK2 K2
  refine code_seq (fun K3 hK3 => ?_)
  refine code_seq (fun K4 hK4 => ?_)
  refine code_region ?_
  refine list_cons rfl (op_q (q_move rfl (by decide)) ?_)
  refine list_cons rfl (op_call _ (spec_l1In _ _ _) rfl rfl (by decide) (by decide) (by decide) rfl ?_)
  rintro _ rfl
  refine list_cons rfl (op_q (by first | exact q_notd rfl (by decide) | exact q_not rfl (by decide)) ?_)
  refine list_nil ?_
  refine hK4 _ ?_; clear hK4 K4
  refine codeT.imp (σ' := [(0, _), (2, _), (3, _), (4, _), (5, _), (6, _), (11, _)]) ?_ (imp_covers ⟨rfl, rfl, rfl, rfl, rfl, rfl, rfl, trivial⟩)
  refine code_cond_d rfl (fun h1 => ?_) (fun h1 => ?_)
  · skip
    (try simp only [Decidable.not_not] at h1)
    refine code_seq (fun K5 hK5 => ?_)
    refine code_region ?_
    refine list_cons rfl (op_q (q_move rfl (by decide)) ?_)
    refine list_cons rfl (op_q (q_assign rfl (by decide)) ?_)
    refine list_cons rfl (op_q (q_assign rfl (by decide)) ?_)
    refine list_cons rfl (op_q (q_assign rfl (by decide)) ?_)
    refine list_nil ?_
    refine hK5 _ ?_; clear hK5 K5
    refine code_ret ?_
    refine then_r ?_; clear hK3 K3
    refine ends_ret (cs := []) rfl rfl rfl rfl trivial ?_
    first
      | (have e : ¬ (0 ≤ digit ∧ digit ≤ 9) := by omega
         simp only [if_neg e, decide_eq_false e]; rfl)
      | (have e : 0 ≤ digit ∧ digit ≤ 9 := ⟨g1, g2⟩
         have e2 : nearK digit.toNat 8 10 = (l, least) := by rw [hk, show d.toNat = 10 by omega]
         simp only [if_pos e, decide_eq_true e, e2])
  · skip
    (try simp only [Decidable.not_not] at h1)
    refine code_skip ?_
    refine hK3 _ ?_; clear hK3 K3
    refine code_seq (fun K6 hK6 => ?_)
    refine code_seq (fun K7 hK7 => ?_)
    refine code_region ?_
    refine list_cons rfl (op_q (q_assign rfl (by decide)) ?_)
    refine list_nil ?_
    refine hK7 _ ?_; clear hK7 K7
    refine code_block ?_
    refine code_loop (X := PV × Int × Bool × Nat × List PV × Int × Int) (fun x => [(0, .val (.int .i64 digit)), (2, .val x.1), (3, .val (.int .i64 x.2.1)), (4, .val (.bool x.2.2.1)), (5, .own 8 3 1 x.2.2.2.1 x.2.2.2.2.1), (6, .val (.int .i64 x.2.2.2.2.2.1)), (7, .val (.int .i64 x.2.2.2.2.2.2))]) (fun x => 0 ≤ x.2.2.2.2.2.2 ∧ x.2.2.2.2.2.2 ≤ 10 ∧ 0 ≤ digit ∧ digit ≤ 9 ∧ ∃ l : List Int, x.2.2.2.1 = l.length ∧ x.2.2.2.2.1 = l.map (.int .i64) ∧ (l, x.2.2.2.2.2.1) = nearK digit.toNat 8 x.2.2.2.2.2.2.toNat) (fun x => (10 - x.2.2.2.2.2.2).toNat) (_, _, _, _, _, _, _) (imp_covers ⟨rfl, rfl, rfl, rfl, rfl, rfl, rfl, trivial⟩) ?_ ?_
    · (try dsimp only)
      exact ⟨by omega, by omega, by omega, by omega, [], rfl, rfl, rfl⟩
    · intro x hI
      obtain ⟨t2_p, t3, t4, out_n, out_c, least, d⟩ := x
      replace hI : 0 ≤ d ∧ d ≤ 10 ∧ 0 ≤ digit ∧ digit ≤ 9 ∧ ∃ l : List Int, out_n = l.length ∧ out_c = l.map (.int .i64) ∧ (l, least) = nearK digit.toNat 8 d.toNat := hI
      show codeT _ _ _ [(0, .val (.int .i64 digit)), (2, .val t2_p), (3, .val (.int .i64 t3)), (4, .val (.bool t4)), (5, .own 8 3 1 out_n out_c), (6, .val (.int .i64 least)), (7, .val (.int .i64 d))] _
      obtain ⟨i1, i2, g1, g2, l, rfl, rfl, hk⟩ := hI
      have hd : ((d.toNat : Nat) : Int) = d := Int.toNat_of_nonneg i1
      have hn := nearK_le digit.toNat (m := 8) (by omega) d.toNat
      rw [← hk] at hn
      simp only [] at hn
      have hdl := dgt_le digit.toNat d.toNat
      refine code_seq (fun K8 hK8 => ?_)
      refine code_seq (fun K9 hK9 => ?_)
      refine code_region ?_
      refine list_cons rfl (op_q (q_move rfl (by decide)) ?_)
      refine list_cons rfl (op_q (q_lt rfl rfl (by decide)) ?_)
      refine list_nil ?_
      refine hK9 _ ?_; clear hK9 K9
      refine code_cond_d rfl (fun h2 => ?_) (fun h2 => ?_)
      · skip
        (try simp only [Decidable.not_not] at h2)
        refine code_skip ?_
        refine hK8 _ ?_; clear hK8 K8
        refine code_seq (fun K10 hK10 => ?_)
        refine code_block ?_
        refine code_seq (fun K11 hK11 => ?_)
        refine code_seq (fun K12 hK12 => ?_)
        refine code_region ?_
        refine list_cons rfl (op_q (q_move rfl (by decide)) ?_)
        refine list_cons rfl (op_q (q_move rfl (by decide)) ?_)
        refine list_cons rfl (op_q (q_eq rfl rfl (by decide)) ?_)
        refine list_cons rfl (op_q (q_move rfl (by decide)) ?_)
        refine list_guard_d rfl rfl rfl rfl (by decide) rfl (by decide) (fun h3 => ?_) (fun h3 => ?_)
        · simp only [Bool.false_eq_true, if_true, if_false, Decidable.not_not] at h3
          refine id (op_q (q_move rfl (by decide)) ?_)
          refine list_guard_y rfl rfl rfl rfl (by decide) rfl ?_
          refine id (op_q (q_move rfl (by decide)) ?_)
          refine list_guard_y rfl rfl rfl rfl (by decide) rfl ?_
          refine id (op_call _ (spec_l4Digits _ _ (by omega) (by omega)) rfl rfl (by decide) (by decide) (by decide) rfl ?_)
          rintro _ rfl
          refine list_guard_y rfl rfl rfl rfl (by decide) rfl ?_
          refine id (op_q (q_move rfl (by decide)) ?_)
          refine list_guard_y rfl rfl rfl rfl (by decide) rfl ?_
          refine id (op_q (q_gt rfl rfl (by decide)) ?_)
          refine list_cons rfl (op_q (q_pick rfl rfl (by decide)) ?_)
          refine list_nil ?_
          refine hK12 _ ?_; clear hK12 K12
          refine codeT.imp (σ' := [(0, _), (2, _), (3, _), (4, _), (5, _), (6, _), (7, _), (26, _)]) ?_ (imp_covers ⟨rfl, rfl, rfl, rfl, rfl, rfl, rfl, rfl, trivial⟩)
          refine code_cond_d rfl (fun h4 => ?_) (fun h4 => ?_)
          · skip
            (try simp only [Decidable.not_not] at h4)
            refine code_exit ?_
            refine then_x ?_; clear hK11 K11
            refine blk_hit ?_
            refine hK10 _ ?_; clear hK10 K10
            refine code_region ?_
            refine list_cons rfl (op_q (q_move rfl (by decide)) ?_)
            refine list_cons rfl (op_q (by first | exact q_addI rfl rfl (by decide) (by omega) (by omega) | exact q_ib rfl rfl rfl (by decide)) ?_)
            refine list_cons rfl (op_q (q_assign rfl (by decide)) ?_)
            refine list_nil ?_
            refine then_n ⟨(_, _, _, _, _, _, _), imp_covers ⟨rfl, rfl, rfl, rfl, rfl, rfl, rfl, trivial⟩, ?_, ?_⟩
            · (try dsimp only)
              refine ⟨by omega, by omega, g1, g2, l, rfl, rfl, ?_⟩
              rw [show (d + 1).toNat = d.toNat + 1 by omega, nearK, ← hk]
              unfold near1
              simp only [hd]
              first
                | (rw [if_pos (by omega)]; done)
                | (rw [if_neg (by omega), if_pos (by omega)]; done)
                | (rw [if_neg (by omega), if_pos (by omega)]; rfl)
                | (rw [if_neg (by omega), if_neg (by omega)]; done)
            · (try dsimp only); omega
          · skip
            (try simp only [Decidable.not_not] at h4)
            refine code_skip ?_
            refine hK11 _ ?_; clear hK11 K11
            refine code_seq (fun K13 hK13 => ?_)
            refine code_seq (fun K14 hK14 => ?_)
            refine code_region ?_
            refine list_cons rfl (op_q (q_move rfl (by decide)) ?_)
            refine list_cons rfl (op_q (q_move rfl (by decide)) ?_)
            refine list_cons rfl (op_call _ (spec_l4Digits _ _ (by omega) (by omega)) rfl rfl (by decide) (by decide) (by decide) rfl ?_)
            rintro _ rfl
            refine list_cons rfl (op_q (q_move rfl (by decide)) ?_)
            refine list_cons rfl (op_q (q_lt rfl rfl (by decide)) ?_)
            refine list_nil ?_
            refine hK14 _ ?_; clear hK14 K14
            refine codeT.imp (σ' := [(0, _), (2, _), (3, _), (4, _), (5, _), (6, _), (7, _), (31, _)]) ?_ (imp_covers ⟨rfl, rfl, rfl, rfl, rfl, rfl, rfl, rfl, trivial⟩)
            refine code_cond_d rfl (fun h5 => ?_) (fun h5 => ?_)
            · skip
              (try simp only [Decidable.not_not] at h5)
              refine code_seq (fun K15 hK15 => ?_)
              refine code_region ?_
              refine list_cons rfl (op_buildSlice sl_30 (parts := []) rfl rfl rfl (by decide) (by decide) (by decide) rfl ?_)
              refine list_cons rfl (op_q (q_assign rfl (by decide)) ?_)
              refine list_nil ?_
              refine hK15 _ ?_; clear hK15 K15
              refine code_region ?_
              refine list_cons rfl (op_q (q_move rfl (by decide)) ?_)
              refine list_cons rfl (op_q (q_move rfl (by decide)) ?_)
              refine list_cons rfl (op_call _ (spec_l4Digits _ _ (by omega) (by omega)) rfl rfl (by decide) (by decide) (by decide) rfl ?_)
              rintro _ rfl
              refine list_cons rfl (op_q (q_assign rfl (by decide)) ?_)
              refine list_nil ?_
              refine hK13 _ ?_; clear hK13 K13
              refine codeT.imp (σ' := [(0, _), (2, _), (3, _), (4, _), (5, _), (6, _), (7, _)]) ?_ (imp_covers ⟨rfl, rfl, rfl, rfl, rfl, rfl, rfl, trivial⟩)
              refine code_region ?_
              refine list_cons rfl (op_q (q_move rfl (by decide)) ?_)
              refine list_cons rfl (op_q (q_move rfl (by decide)) ?_)
              refine list_cons rfl (op_buildSlice sl_30 (parts := [(0, .tmp 37)]) rfl rfl rfl (by decide) (by decide) (by decide) rfl ?_)
              refine list_cons rfl (op_append_gen sl_30 (l := 32) (.inl rfl) rfl rfl (l2 := none) (.inl ⟨rfl, (by first | rfl | exact flat_map _ (fun _ => rfl) _)⟩) (by first | rfl | simp | omega) (by omega) (by decide) (by decide) (by decide) ?_)
              refine list_cons rfl (op_q (q_assign rfl (by decide)) ?_)
              refine list_nil ?_
              refine blk_n ?_
              refine hK10 _ ?_; clear hK10 K10
              refine codeT.imp (σ' := [(0, _), (2, _), (3, _), (4, _), (5, _), (6, _), (7, _)]) ?_ (imp_covers ⟨rfl, rfl, rfl, rfl, rfl, rfl, rfl, trivial⟩)
              refine code_region ?_
              refine list_cons rfl (op_q (q_move rfl (by decide)) ?_)
              refine list_cons rfl (op_q (by first | exact q_addI rfl rfl (by decide) (by omega) (by omega) | exact q_ib rfl rfl rfl (by decide)) ?_)
              refine list_cons rfl (op_q (q_assign rfl (by decide)) ?_)
              refine list_nil ?_
              refine then_n ⟨(_, _, _, _, _, _, _), (imp_covers (σ' := [(0, _), (2, _), (3, _), (4, _), (5, _), (6, _), (7, _)]) ⟨rfl, rfl, rfl, rfl, rfl, rfl, rfl, trivial⟩).trans ((imp_ren 32 8 (by decide) (by decide) rfl).trans (imp_covers ⟨rfl, rfl, rfl, rfl, rfl, rfl, rfl, trivial⟩)), ?_, ?_⟩
              · (try dsimp only)
                refine ⟨by omega, by omega, g1, g2, [d], rfl, rfl, ?_⟩
                rw [show (d + 1).toNat = d.toNat + 1 by omega, nearK, ← hk]
                unfold near1
                simp only [hd]
                first
                  | (rw [if_pos (by omega)]; done)
                  | (rw [if_neg (by omega), if_pos (by omega)]; done)
                  | (rw [if_neg (by omega), if_pos (by omega)]; rfl)
                  | (rw [if_neg (by omega), if_neg (by omega)]; done)
              · (try dsimp only); omega
            · skip
              (try simp only [Decidable.not_not] at h5)
              refine code_skip ?_
              refine hK13 _ ?_; clear hK13 K13
              refine code_region ?_
              refine list_cons rfl (op_q (q_move rfl (by decide)) ?_)
              refine list_cons rfl (op_q (q_move rfl (by decide)) ?_)
              refine list_cons rfl (op_buildSlice sl_30 (parts := [(0, .tmp 37)]) rfl rfl rfl (by decide) (by decide) (by decide) rfl ?_)
              refine list_cons rfl (op_append_gen sl_30 (l := 8) (.inl rfl) rfl rfl (l2 := none) (.inl ⟨rfl, (by first | rfl | exact flat_map _ (fun _ => rfl) _)⟩) (by first | rfl | simp | omega) (by omega) (by decide) (by decide) (by decide) ?_)
              refine list_cons rfl (op_q (q_assign rfl (by decide)) ?_)
              refine list_nil ?_
              refine blk_n ?_
              refine hK10 _ ?_; clear hK10 K10
              refine codeT.imp (σ' := [(0, _), (2, _), (3, _), (4, _), (5, _), (6, _), (7, _)]) ?_ (imp_covers ⟨rfl, rfl, rfl, rfl, rfl, rfl, rfl, trivial⟩)
              refine code_region ?_
              refine list_cons rfl (op_q (q_move rfl (by decide)) ?_)
              refine list_cons rfl (op_q (by first | exact q_addI rfl rfl (by decide) (by omega) (by omega) | exact q_ib rfl rfl rfl (by decide)) ?_)
              refine list_cons rfl (op_q (q_assign rfl (by decide)) ?_)
              refine list_nil ?_
              refine then_n ⟨(_, _, _, _, _, _, _), imp_covers ⟨rfl, rfl, rfl, rfl, rfl, rfl, rfl, trivial⟩, ?_, ?_⟩
              · (try dsimp only)
                refine ⟨by omega, by omega, g1, g2, l ++ [d], by simp, by simp; rfl, ?_⟩
                rw [show (d + 1).toNat = d.toNat + 1 by omega, nearK, ← hk]
                unfold near1
                simp only [hd]
                first
                  | (rw [if_pos (by omega)]; done)
                  | (rw [if_neg (by omega), if_pos (by omega)]; done)
                  | (rw [if_neg (by omega), if_pos (by omega)]; rfl)
                  | (rw [if_neg (by omega), if_neg (by omega)]; done)
              · (try dsimp only); omega
        · simp only [Bool.false_eq_true, if_true, if_false, Decidable.not_not] at h3
          refine list_guard_n rfl rfl rfl rfl (by decide) rfl ?_
          refine list_guard_n rfl rfl rfl rfl (by decide) rfl ?_
          refine list_guard_n rfl rfl rfl rfl (by decide) rfl ?_
          refine list_guard_n rfl rfl rfl rfl (by decide) rfl ?_
          refine list_cons rfl (op_q (q_pick rfl rfl (by decide)) ?_)
          refine list_nil ?_
          refine hK12 _ ?_; clear hK12 K12
          refine code_cond_t rfl ?_
          refine code_exit ?_
          refine then_x ?_; clear hK11 K11
          refine blk_hit ?_
          refine hK10 _ ?_; clear hK10 K10
          refine codeT.imp (σ' := [(0, _), (2, _), (3, _), (4, _), (5, _), (6, _), (7, _)]) ?_ (imp_covers ⟨rfl, rfl, rfl, rfl, rfl, rfl, rfl, trivial⟩)
          refine code_region ?_
          refine list_cons rfl (op_q (q_move rfl (by decide)) ?_)
          refine list_cons rfl (op_q (by first | exact q_addI rfl rfl (by decide) (by omega) (by omega) | exact q_ib rfl rfl rfl (by decide)) ?_)
          refine list_cons rfl (op_q (q_assign rfl (by decide)) ?_)
          refine list_nil ?_
          refine then_n ⟨(_, _, _, _, _, _, _), imp_covers ⟨rfl, rfl, rfl, rfl, rfl, rfl, rfl, trivial⟩, ?_, ?_⟩
          · (try dsimp only)
            refine ⟨by omega, by omega, g1, g2, l, rfl, rfl, ?_⟩
            rw [show (d + 1).toNat = d.toNat + 1 by omega, nearK, ← hk]
            unfold near1
            simp only [hd]
            first
              | (rw [if_pos (by omega)]; done)
              | (rw [if_neg (by omega), if_pos (by omega)]; done)
              | (rw [if_neg (by omega), if_pos (by omega)]; rfl)
              | (rw [if_neg (by omega), if_neg (by omega)]; done)
          · (try dsimp only); omega
      · skip
        (try simp only [Decidable.not_not] at h2)
        refine code_exit ?_
        refine then_x ?_; clear hK8 K8
        refine then_x ?_
        refine blk_hit ?_
        refine hK6 _ ?_; clear hK6 K6
        refine code_seq (fun K16 hK16 => ?_)
        refine code_region ?_
        refine list_cons rfl (op_q (q_move rfl (by decide)) ?_)
        refine list_cons rfl (op_q (q_move rfl (by decide)) ?_)
        refine list_cons rfl (op_q (q_assign rfl (by decide)) ?_)
        refine list_cons rfl (op_q (q_assign rfl (by decide)) ?_)
        refine list_cons rfl (op_q (q_assign rfl (by decide)) ?_)
        refine list_nil ?_
        refine hK16 _ ?_; clear hK16 K16
        refine code_ret ?_
        refine ends_ret (cs := []) rfl rfl rfl rfl trivial ?_
        first
          | (have e : ¬ (0 ≤ digit ∧ digit ≤ 9) := by omega
             simp only [if_neg e, decide_eq_false e]; rfl)
          | (have e : 0 ≤ digit ∧ digit ≤ 9 := ⟨g1, g2⟩
             have e2 : nearK digit.toNat 8 10 = (l, least) := by rw [hk, show d.toNat = 10 by omega]
             simp only [if_pos e, decide_eq_true e, e2])

set_option maxRecDepth 20000 in
set_option maxHeartbeats 2000000 in
theorem spec_ChangeTable  : PCalls Tryd.prog 10 [] (· = [.val (.agg ((tabS 100).map (.int .i64)))]) := by
  refine pcalls_of_code (n := 21) az Tryd.func10 (by kernel_rfl) rfl rfl (Nat.le_of_ble_eq_true rfl) (by intro t u h; simp [Tryd.f10] at h; obtain ⟨_, rfl⟩ := h <;> first | exact resTy_agg agg_23 (by decide)) ?_
  refine code_seq (fun K1 hK1 => ?_)
  refine code_region ?_
  refine list_cons rfl (op_alloc zt_23 (by decide) (by decide) rfl ?_)
  refine list_nil ?_
  refine hK1 _ ?_; clear hK1 K1
  refine code_seq (fun K2 hK2 => ?_)
  refine code_region ?_
  refine list_cons rfl (op_q (q_build bt_23 (parts := []) rfl rfl (by decide)) ?_)
  refine list_cons rfl (op_alloc zt_23 (by decide) (by decide) rfl ?_)
  refine list_cons rfl (op_store (agg_23).2 1 [1] (by intro t ht; simp only [List.mem_cons, List.not_mem_nil, or_false] at ht; subst ht; rfl) (.inr ⟨rfl, _, rfl⟩) rfl rfl rfl rfl (by first | rfl | exact flat_part (flat_map _ (fun _ => rfl) _) _ _ | exact flat_map _ (fun _ => rfl) _) (by first | rfl | (simp [PV.cells, tabS, filN_len]; done)) (by first | decide | omega | exact Nat.le_refl _ | (simp only [tabS, filN_len, List.length_map]; omega) | (simp; done) | (simp; omega)) (by decide) rfl ?_)
  refine list_nil ?_
  refine hK2 _ ?_; clear hK2 K2
  refine codeT.imp (σ' := [(0, _), (1, _)]) ?_ (imp_covers ⟨rfl, rfl, trivial⟩)
  refine code_seq (fun K3 hK3 => ?_)
  refine code_seq (fun K4 hK4 => ?_)
  refine code_region ?_
  refine list_cons rfl (op_q (q_assign rfl (by decide)) ?_)
  refine list_nil ?_
  refine hK4 _ ?_; clear hK4 K4
  refine code_block ?_
  refine code_loop (X := List PV × Int) (fun x => [(0, .box 0 23 (List.replicate 100 (.int .i64 0))), (1, .box 1 23 x.1), (2, .val (.int .i64 x.2))]) (fun x => 0 ≤ x.2 ∧ x.2 ≤ 10 ∧ x.1 = (tabS (x.2.toNat * 10)).map (.int .i64)) (fun x => (10 - x.2).toNat) (_, _) (imp_covers ⟨rfl, rfl, rfl, trivial⟩) ?_ ?_
  · (try dsimp only)
    exact ⟨by omega, by omega, rfl⟩
  · intro x hI
    obtain ⟨out_c, a⟩ := x
    replace hI : 0 ≤ a ∧ a ≤ 10 ∧ out_c = (tabS (a.toNat * 10)).map (.int .i64) := hI
    show codeT _ _ _ [(0, .box 0 23 (List.replicate 100 (.int .i64 0))), (1, .box 1 23 out_c), (2, .val (.int .i64 a))] _
    obtain ⟨i1, i2, rfl⟩ := hI
    refine code_seq (fun K5 hK5 => ?_)
    refine code_seq (fun K6 hK6 => ?_)
    refine code_region ?_
    refine list_cons rfl (op_q (q_move rfl (by decide)) ?_)
    refine list_cons rfl (op_q (q_lt rfl rfl (by decide)) ?_)
    refine list_nil ?_
    refine hK6 _ ?_; clear hK6 K6
    refine code_cond_d rfl (fun h1 => ?_) (fun h1 => ?_)
    · skip
      (try simp only [Decidable.not_not] at h1)
      refine code_skip ?_
      refine hK5 _ ?_; clear hK5 K5
      refine code_seq (fun K7 hK7 => ?_)
      refine code_block ?_
      refine code_seq (fun K8 hK8 => ?_)
      refine code_region ?_
      refine list_cons rfl (op_q (q_assign rfl (by decide)) ?_)
      refine list_nil ?_
      refine hK8 _ ?_; clear hK8 K8
      refine code_block ?_
      refine code_loop (X := List PV × Int) (fun x => [(0, .box 0 23 (List.replicate 100 (.int .i64 0))), (1, .box 1 23 x.1), (2, .val (.int .i64 a)), (3, .val (.int .i64 x.2))]) (fun x => 0 ≤ x.2 ∧ x.2 ≤ 10 ∧ x.1 = (tabS (a.toNat * 10 + x.2.toNat)).map (.int .i64)) (fun x => (10 - x.2).toNat) (_, _) (imp_covers ⟨rfl, rfl, rfl, rfl, trivial⟩) ?_ ?_
      · (try dsimp only)
        exact ⟨by omega, by omega, rfl⟩
      · intro x hI
        obtain ⟨out_c, b⟩ := x
        replace hI : 0 ≤ b ∧ b ≤ 10 ∧ out_c = (tabS (a.toNat * 10 + b.toNat)).map (.int .i64) := hI
        show codeT _ _ _ [(0, .box 0 23 (List.replicate 100 (.int .i64 0))), (1, .box 1 23 out_c), (2, .val (.int .i64 a)), (3, .val (.int .i64 b))] _
        obtain ⟨j1, j2, rfl⟩ := hI
        refine code_seq (fun K9 hK9 => ?_)
        refine code_seq (fun K10 hK10 => ?_)
        refine code_region ?_
        refine list_cons rfl (op_q (q_move rfl (by decide)) ?_)
        refine list_cons rfl (op_q (q_lt rfl rfl (by decide)) ?_)
        refine list_nil ?_
        refine hK10 _ ?_; clear hK10 K10
        refine code_cond_d rfl (fun h2 => ?_) (fun h2 => ?_)
        · skip
          (try simp only [Decidable.not_not] at h2)
          refine code_skip ?_
          refine hK9 _ ?_; clear hK9 K9
          refine code_seq (fun K11 hK11 => ?_)
          refine code_block ?_
          refine any_start fun ob1_0 => ?_
          refine any_op (rd := [2]) ob1_0 rfl rfl rfl (anyT_quiet [(2, _)] ⟨rfl, trivial⟩ rfl (q_move rfl (by decide))) (fun ob1_1 => ?_)
          refine any_op (rd := [3]) ob1_1 rfl rfl rfl (anyT_quiet [(3, _)] ⟨rfl, trivial⟩ rfl (q_move rfl (by decide))) (fun ob1_2 => ?_)
          refine any_op (rd := [2]) ob1_2 rfl rfl rfl (anyT_quiet [(2, _)] ⟨rfl, trivial⟩ rfl (q_move rfl (by decide))) (fun ob1_3 => ?_)
          refine any_op (rd := [3]) ob1_3 rfl rfl rfl (anyT_quiet [(3, _)] ⟨rfl, trivial⟩ rfl (q_move rfl (by decide))) (fun ob1_4 => ?_)
          refine any_op (rd := [15, 16]) ob1_4 rfl rfl rfl (fun σ hag hfr => by have e15 : σ.at 15 = some _ := (hag 15 (by decide)).trans rfl; have e16 : σ.at 16 = some _ := (hag 16 (by decide)).trans rfl; exact op_call _ (spec_l4Digits _ _ (by omega) (by omega)) (evs_cons e15 (evs_cons e16 evs_nil)) rfl (by decide) (by decide) (by decide) hfr (fun rs hR => by subst hR; rfl)) (fun ob1_5 => ?_)
          refine any_op (rd := [1, 13]) ob1_5 rfl rfl rfl (anyT_quiet [(1, _), (13, _)] ⟨rfl, rfl, trivial⟩ rfl (q_indexAddr_arr arr_23 rfl rfl rfl (by omega) (by omega) (by decide))) (fun ob1_6 => ?_)
          refine any_end [[], [], [], [], [2, 3], [0], [0, 1, 2, 3, 4, 5], [0, 1, 2, 3, 4, 5, 6]] ob1_6 (by kernel_rfl) (Nat.le_of_ble_eq_true rfl) (by decide) (by decide) (by kernel_rfl) (by kernel_rfl) (by kernel_rfl) (by kernel_rfl) (by kernel_rfl) ?_
          clear ob1_0 ob1_1 ob1_2 ob1_3 ob1_4 ob1_5 ob1_6
          refine listT.imp (σ' := [(0, _), (1, _), (2, _), (3, _), (9, _), (10, _), (13, _), (14, _), (15, _), (16, _), (17, _), (18, _)]) ?_ (imp_covers ⟨rfl, rfl, rfl, rfl, rfl, rfl, rfl, rfl, rfl, rfl, rfl, rfl, trivial⟩)
          refine list_cons rfl (op_q (q_indexAddr_arr arr_22 rfl rfl rfl (by omega) (by omega) (by decide)) ?_)
          refine list_cons rfl (op_store (one_3).2 1 [1] (by intro t ht; simp only [List.mem_cons, List.not_mem_nil, or_false] at ht; subst ht; rfl) (.inl rfl) rfl rfl rfl rfl rfl rfl (by first | decide | omega | exact Nat.le_refl _ | (simp only [tabS, filN_len, List.length_map]; omega) | (simp; done) | (simp; omega)) (by decide) rfl ?_)
          refine list_nil ?_
          refine blk_n ?_
          refine hK11 _ ?_; clear hK11 K11
          refine codeT.imp (σ' := [(0, _), (1, _), (2, _), (3, _)]) ?_ (imp_covers ⟨rfl, rfl, rfl, rfl, trivial⟩)
          refine code_region ?_
          refine list_cons rfl (op_q (q_move rfl (by decide)) ?_)
          refine list_cons rfl (op_q (by first | exact q_addI rfl rfl (by decide) (by omega) (by omega) | exact q_ib rfl rfl rfl (by decide)) ?_)
          refine list_cons rfl (op_q (q_assign rfl (by decide)) ?_)
          refine list_nil ?_
          refine then_n ⟨(_, _), imp_covers ⟨rfl, rfl, rfl, rfl, trivial⟩, ?_, ?_⟩
          · (try dsimp only)
            refine ⟨by omega, by omega, ?_⟩
            rw [show (b + 1).toNat = b.toNat + 1 by omega]
            exact filN_put 100 tabF (by omega) (by omega) (by unfold tabF; rw [show (a.toNat * 10 + b.toNat) / 10 = a.toNat by omega, show (a.toNat * 10 + b.toNat) % 10 = b.toNat by omega])
          · (try dsimp only); omega
        · skip
          (try simp only [Decidable.not_not] at h2)
          refine code_exit ?_
          refine then_x ?_; clear hK9 K9
          refine then_x ?_
          refine blk_hit ?_
          refine blk_n ?_
          refine hK7 _ ?_; clear hK7 K7
          refine code_region ?_
          refine list_cons rfl (op_q (q_move rfl (by decide)) ?_)
          refine list_cons rfl (op_q (by first | exact q_addI rfl rfl (by decide) (by omega) (by omega) | exact q_ib rfl rfl rfl (by decide)) ?_)
          refine list_cons rfl (op_q (q_assign rfl (by decide)) ?_)
          refine list_nil ?_
          refine then_n ⟨(_, _), imp_covers ⟨rfl, rfl, rfl, trivial⟩, ?_, ?_⟩
          · (try dsimp only)
            exact ⟨by omega, by omega, by rw [show (a + 1).toNat * 10 = a.toNat * 10 + b.toNat by omega]⟩
          · (try dsimp only); omega
    · skip
      (try simp only [Decidable.not_not] at h1)
      refine code_exit ?_
      refine then_x ?_; clear hK5 K5
      refine then_x ?_
      refine blk_hit ?_
      refine hK3 _ ?_; clear hK3 K3
      refine code_seq (fun K12 hK12 => ?_)
      refine code_region ?_
      refine list_cons rfl (op_q (q_load_agg agg_23 1 (.inr ⟨rfl, _, rfl⟩) rfl rfl (by first | decide | (simp only [tabS, filN_len, List.length_map]; omega)) (by first | rfl | exact flat_part (flat_map _ (fun _ => rfl) _) _ _) (by decide)) ?_)
      refine list_cons rfl (op_store (agg_23).2 0 [0] (by intro t ht; simp only [List.mem_cons, List.not_mem_nil, or_false] at ht; subst ht; rfl) (.inr ⟨rfl, _, rfl⟩) rfl rfl rfl rfl (by first | rfl | exact flat_part (flat_map _ (fun _ => rfl) _) _ _ | exact flat_map _ (fun _ => rfl) _) (by first | rfl | (simp [PV.cells, tabS, filN_len]; done)) (by first | decide | omega | exact Nat.le_refl _ | (simp only [tabS, filN_len, List.length_map]; omega) | (simp; done) | (simp; omega)) (by decide) rfl ?_)
      refine list_nil ?_
      refine hK12 _ ?_; clear hK12 K12
      refine codeT.imp (σ' := [(0, _), (1, _), (2, _)]) ?_ (imp_covers ⟨rfl, rfl, rfl, trivial⟩)
      refine code_ret ?_
      refine ends_ret (cs := []) (res_agg1 (cs := (tabS 100).map (.int .i64)) (congrArg (fun z => some (SV.box 0 23 z)) (by rw [show a.toNat * 10 = 100 by omega]; exact put_all (n := 100) (by simp) (by simp [tabS, filN_len]))) rfl (flat_map _ (fun _ => rfl) _) (by simp [tabS, filN_len]; rfl)) rfl rfl rfl trivial ?_
      rfl

set_option maxRecDepth 4000 in
set_option maxHeartbeats 1000000 in
theorem spec_BarShares  : PCalls Tryd.prog 13 [] (· = [.val (.agg ((shS 70).map (.int .i64)))]) := by
  refine pcalls_of_code (n := 25) az Tryd.func13 (by kernel_rfl) rfl rfl (Nat.le_of_ble_eq_true rfl) (by intro t u h; simp [Tryd.f13] at h; obtain ⟨_, rfl⟩ := h <;> first | exact resTy_agg agg_27 (by decide)) ?_
  refine code_seq (fun K1 hK1 => ?_)
  refine code_region ?_
  refine list_cons rfl (op_alloc zt_27 (by decide) (by decide) rfl ?_)
  refine list_nil ?_
  refine hK1 _ ?_; clear hK1 K1
  refine code_seq (fun K2 hK2 => ?_)
  refine code_region ?_
  refine list_cons rfl (op_q (q_build bt_27 (parts := []) rfl rfl (by decide)) ?_)
  refine list_cons rfl (op_alloc zt_27 (by decide) (by decide) rfl ?_)
  refine list_cons rfl (op_store (agg_27).2 1 [1] (by intro t ht; simp only [List.mem_cons, List.not_mem_nil, or_false] at ht; subst ht; rfl) (.inr ⟨rfl, _, rfl⟩) rfl rfl rfl rfl (by first | rfl | exact flat_part (flat_map _ (fun _ => rfl) _) _ _ | exact flat_map _ (fun _ => rfl) _) (by first | rfl | (simp [PV.cells, shS_len]; done)) (by first | decide | omega | exact Nat.le_refl _ | (simp only [shS_len, List.length_map]; omega) | (simp; done) | (simp; omega)) (by decide) rfl ?_)
  refine list_nil ?_
  refine hK2 _ ?_; clear hK2 K2
  refine codeT.imp (σ' := [(0, _), (1, _)]) ?_ (imp_covers ⟨rfl, rfl, trivial⟩)
  refine code_seq (fun K3 hK3 => ?_)
  refine code_seq (fun K4 hK4 => ?_)
  refine code_region ?_
  refine list_cons rfl (op_q (q_assign rfl (by decide)) ?_)
  refine list_nil ?_
  refine hK4 _ ?_; clear hK4 K4
  refine code_block ?_
  refine code_loop (X := List PV × Int) (fun x => [(0, .box 0 27 (List.replicate 7 (.int .i64 0))), (1, .box 1 27 x.1), (2, .val (.int .i64 x.2))]) (fun x => 0 ≤ x.2 ∧ x.2 ≤ 10 ∧ x.1 = (shS (x.2.toNat * 7)).map (.int .i64)) (fun x => (10 - x.2).toNat) (_, _) (imp_covers ⟨rfl, rfl, rfl, trivial⟩) ?_ ?_
  · (try dsimp only)
    exact ⟨by omega, by omega, rfl⟩
  · intro x hI
    obtain ⟨out_c, d⟩ := x
    replace hI : 0 ≤ d ∧ d ≤ 10 ∧ out_c = (shS (d.toNat * 7)).map (.int .i64) := hI
    show codeT _ _ _ [(0, .box 0 27 (List.replicate 7 (.int .i64 0))), (1, .box 1 27 out_c), (2, .val (.int .i64 d))] _
    obtain ⟨i1, i2, rfl⟩ := hI
    refine code_seq (fun K5 hK5 => ?_)
    refine code_seq (fun K6 hK6 => ?_)
    refine code_region ?_
    refine list_cons rfl (op_q (q_move rfl (by decide)) ?_)
    refine list_cons rfl (op_q (q_lt rfl rfl (by decide)) ?_)
    refine list_nil ?_
    refine hK6 _ ?_; clear hK6 K6
    refine code_cond_d rfl (fun h1 => ?_) (fun h1 => ?_)
    · skip
      (try simp only [Decidable.not_not] at h1)
      refine code_skip ?_
      refine hK5 _ ?_; clear hK5 K5
      refine code_seq (fun K7 hK7 => ?_)
      refine code_block ?_
      refine code_seq (fun K8 hK8 => ?_)
      refine code_region ?_
      refine list_cons rfl (op_q (q_assign rfl (by decide)) ?_)
      refine list_nil ?_
      refine hK8 _ ?_; clear hK8 K8
      refine code_block ?_
      refine code_loop (X := List PV × Int) (fun x => [(0, .box 0 27 (List.replicate 7 (.int .i64 0))), (1, .box 1 27 x.1), (2, .val (.int .i64 d)), (3, .val (.int .i64 x.2))]) (fun x => 0 ≤ x.2 ∧ x.2 ≤ 7 ∧ x.1 = (shS (d.toNat * 7 + x.2.toNat)).map (.int .i64)) (fun x => (7 - x.2).toNat) (_, _) (imp_covers ⟨rfl, rfl, rfl, rfl, trivial⟩) ?_ ?_
      · (try dsimp only)
        exact ⟨by omega, by omega, rfl⟩
      · intro x hI
        obtain ⟨out_c, bar⟩ := x
        replace hI : 0 ≤ bar ∧ bar ≤ 7 ∧ out_c = (shS (d.toNat * 7 + bar.toNat)).map (.int .i64) := hI
        show codeT _ _ _ [(0, .box 0 27 (List.replicate 7 (.int .i64 0))), (1, .box 1 27 out_c), (2, .val (.int .i64 d)), (3, .val (.int .i64 bar))] _
        obtain ⟨j1, j2, rfl⟩ := hI
        have hle := shS_le (d.toNat * 7 + bar.toNat) bar.toNat
        have hb := btD_le d.toNat bar.toNat
        unfold btD at hb
        have hdc := digT_cell d.toNat
        have hsh : shN (digT.getD d.toNat 0).toNat bar.toNat ≤ 127 := Nat.le_trans (Nat.div_le_self _ _) (by omega)
        refine code_seq (fun K9 hK9 => ?_)
        refine code_seq (fun K10 hK10 => ?_)
        refine code_region ?_
        refine list_cons rfl (op_q (q_move rfl (by decide)) ?_)
        refine list_cons rfl (op_q (q_lt rfl rfl (by decide)) ?_)
        refine list_nil ?_
        refine hK10 _ ?_; clear hK10 K10
        refine code_cond_d rfl (fun h2 => ?_) (fun h2 => ?_)
        · skip
          (try simp only [Decidable.not_not] at h2)
          refine code_skip ?_
          refine hK9 _ ?_; clear hK9 K9
          refine code_seq (fun K11 hK11 => ?_)
          refine code_block ?_
          refine any_start fun ob2_0 => ?_
          refine any_op (rd := [3]) ob2_0 rfl rfl rfl (anyT_quiet [(3, _)] ⟨rfl, trivial⟩ rfl (q_move rfl (by decide))) (fun ob2_1 => ?_)
          refine any_op (rd := [3]) ob2_1 rfl rfl rfl (anyT_quiet [(3, _)] ⟨rfl, trivial⟩ rfl (q_move rfl (by decide))) (fun ob2_2 => ?_)
          refine any_op (rd := [1, 14]) ob2_2 rfl rfl rfl (anyT_quiet [(1, _), (14, _)] ⟨rfl, rfl, trivial⟩ rfl (q_indexAddr_arr arr_27 rfl rfl rfl (by omega) (by omega) (by decide))) (fun ob2_3 => ?_)
          refine any_op (rd := [15, 1]) ob2_3 rfl rfl rfl (anyT_quiet [(15, _), (1, _)] ⟨rfl, rfl, trivial⟩ rfl (q_load one_3 1 rfl rfl rfl (by first | decide | exact get_map1 (PV.int .i64) 0 (shS (d.toNat * 7 + bar.toNat)) (by rw [shS_len]; omega) | (simp only [shS_len, List.length_map]; omega)) (by decide))) (fun ob2_4 => ?_)
          refine any_op (rd := [2]) ob2_4 rfl rfl rfl (anyT_quiet [(2, _)] ⟨rfl, trivial⟩ rfl (q_move rfl (by decide))) (fun ob2_5 => ?_)
          refine any_op (rd := [17]) ob2_5 rfl rfl rfl (fun σ hag hfr => by have e17 : σ.at 17 = some _ := (hag 17 (by decide)).trans rfl; exact op_call _ (spec_l2Digit _ (by omega) (by omega)) (evs_cons e17 evs_nil) rfl (by decide) (by decide) (by decide) hfr (fun rs hR => by subst hR; rfl)) (fun ob2_6 => ?_)
          refine any_op (rd := [3]) ob2_6 rfl rfl rfl (anyT_quiet [(3, _)] ⟨rfl, trivial⟩ rfl (q_move rfl (by decide))) (fun ob2_7 => ?_)
          refine any_op (rd := [18, 19]) ob2_7 rfl rfl rfl (anyT_quiet [(18, _), (19, _)] ⟨rfl, rfl, trivial⟩ rfl (by first | exact q_shrN rfl rfl (by decide) (by omega) (by omega) (by omega) | exact q_shrI rfl rfl (by decide) (by omega) (by omega) (by omega) | exact q_shr rfl rfl (by omega) (by decide))) (fun ob2_8 => ?_)
          refine any_op (rd := [20]) ob2_8 rfl rfl rfl (anyT_quiet [(20, _)] ⟨rfl, trivial⟩ rfl (by first | exact q_andI rfl rfl (by decide) (by omega) (by omega) (by omega) (by omega) | exact q_ib rfl rfl rfl (by decide))) (fun ob2_9 => ?_)
          refine any_op (rd := [16, 21]) ob2_9 rfl rfl rfl (anyT_quiet [(16, _), (21, _)] ⟨rfl, rfl, trivial⟩ rfl (by first | exact q_addI rfl rfl (by decide) (by omega) (by omega) | exact q_ib rfl rfl rfl (by decide))) (fun ob2_10 => ?_)
          refine any_end [[], [], [1], [1, 2], [], [4], [], [4, 5, 6], [4, 5, 6, 7], [1, 2, 3, 4, 5, 6, 7, 8], [0, 1, 2, 3, 4, 5, 6, 7, 8, 9], [0, 1, 2, 3, 4, 5, 6, 7, 8, 9, 10]] ob2_10 (by kernel_rfl) (Nat.le_of_ble_eq_true rfl) (by decide) (by decide) (by kernel_rfl) (by kernel_rfl) (by kernel_rfl) (by kernel_rfl) (by kernel_rfl) ?_
          clear ob2_0 ob2_1 ob2_2 ob2_3 ob2_4 ob2_5 ob2_6 ob2_7 ob2_8 ob2_9 ob2_10
          refine listT.imp (σ' := [(0, _), (1, _), (2, _), (3, _), (9, _), (10, _), (13, _), (14, _), (15, _), (16, _), (17, _), (18, _), (19, _), (20, _), (21, _), (22, _)]) ?_ (imp_covers ⟨rfl, rfl, rfl, rfl, rfl, rfl, rfl, rfl, rfl, rfl, rfl, rfl, rfl, rfl, rfl, rfl, trivial⟩)
          refine list_cons rfl (op_q (q_indexAddr_arr arr_27 rfl rfl rfl (by omega) (by omega) (by decide)) ?_)
          refine list_cons rfl (op_store (one_3).2 1 [1] (by intro t ht; simp only [List.mem_cons, List.not_mem_nil, or_false] at ht; subst ht; rfl) (.inl rfl) rfl rfl rfl rfl rfl rfl (by first | decide | omega | exact Nat.le_refl _ | (simp only [shS_len, List.length_map]; omega) | (simp; done) | (simp; omega)) (by decide) rfl ?_)
          refine list_nil ?_
          refine blk_n ?_
          refine hK11 _ ?_; clear hK11 K11
          refine codeT.imp (σ' := [(0, _), (1, _), (2, _), (3, _)]) ?_ (imp_covers ⟨rfl, rfl, rfl, rfl, trivial⟩)
          refine code_region ?_
          refine list_cons rfl (op_q (q_move rfl (by decide)) ?_)
          refine list_cons rfl (op_q (by first | exact q_addI rfl rfl (by decide) (by omega) (by omega) | exact q_ib rfl rfl rfl (by decide)) ?_)
          refine list_cons rfl (op_q (q_assign rfl (by decide)) ?_)
          refine list_nil ?_
          refine then_n ⟨(_, _), imp_covers ⟨rfl, rfl, rfl, rfl, trivial⟩, ?_, ?_⟩
          · (try dsimp only)
            refine ⟨by omega, by omega, ?_⟩
            rw [show d.toNat * 7 + (bar + 1).toNat = d.toNat * 7 + bar.toNat + 1 by omega]
            have hm : (d.toNat * 7 + bar.toNat) % 7 = bar.toNat := by omega
            exact shS_put (by omega) (by unfold btD; rw [hm, show (d.toNat * 7 + bar.toNat) / 7 = d.toNat by omega])
          · (try dsimp only); omega
        · skip
          (try simp only [Decidable.not_not] at h2)
          refine code_exit ?_
          refine then_x ?_; clear hK9 K9
          refine then_x ?_
          refine blk_hit ?_
          refine blk_n ?_
          refine hK7 _ ?_; clear hK7 K7
          refine code_region ?_
          refine list_cons rfl (op_q (q_move rfl (by decide)) ?_)
          refine list_cons rfl (op_q (by first | exact q_addI rfl rfl (by decide) (by omega) (by omega) | exact q_ib rfl rfl rfl (by decide)) ?_)
          refine list_cons rfl (op_q (q_assign rfl (by decide)) ?_)
          refine list_nil ?_
          refine then_n ⟨(_, _), imp_covers ⟨rfl, rfl, rfl, trivial⟩, ?_, ?_⟩
          · (try dsimp only)
            exact ⟨by omega, by omega, by rw [show (d + 1).toNat * 7 = d.toNat * 7 + bar.toNat by omega]⟩
          · (try dsimp only); omega
    · skip
      (try simp only [Decidable.not_not] at h1)
      refine code_exit ?_
      refine then_x ?_; clear hK5 K5
      refine then_x ?_
      refine blk_hit ?_
      refine hK3 _ ?_; clear hK3 K3
      refine code_seq (fun K12 hK12 => ?_)
      refine code_region ?_
      refine list_cons rfl (op_q (q_load_agg agg_27 1 (.inr ⟨rfl, _, rfl⟩) rfl rfl (by first | decide | exact get_map1 (PV.int .i64) 0 (shS (d.toNat * 7 + bar.toNat)) (by rw [shS_len]; omega) | (simp only [shS_len, List.length_map]; omega)) (by first | rfl | exact flat_part (flat_map _ (fun _ => rfl) _) _ _) (by decide)) ?_)
      refine list_cons rfl (op_store (agg_27).2 0 [0] (by intro t ht; simp only [List.mem_cons, List.not_mem_nil, or_false] at ht; subst ht; rfl) (.inr ⟨rfl, _, rfl⟩) rfl rfl rfl rfl (by first | rfl | exact flat_part (flat_map _ (fun _ => rfl) _) _ _ | exact flat_map _ (fun _ => rfl) _) (by first | rfl | (simp [PV.cells, shS_len]; done)) (by first | decide | omega | exact Nat.le_refl _ | (simp only [shS_len, List.length_map]; omega) | (simp; done) | (simp; omega)) (by decide) rfl ?_)
      refine list_nil ?_
      refine hK12 _ ?_; clear hK12 K12
      refine codeT.imp (σ' := [(0, _), (1, _), (2, _)]) ?_ (imp_covers ⟨rfl, rfl, rfl, trivial⟩)
      refine code_ret ?_
      refine ends_ret (cs := []) (res_agg1 (cs := (shS 70).map (.int .i64)) (congrArg (fun z => some (SV.box 0 27 z)) (by rw [show d.toNat * 7 = 70 by omega]; exact put_all (n := 7) (by simp) (by simp [shS_len]))) rfl (flat_map _ (fun _ => rfl) _) (by simp [shS_len]; rfl)) rfl rfl rfl trivial ?_
      rfl

end Go.Proofs.YtahjedckfkkcnabDoor
