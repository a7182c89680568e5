/- Contracts of functions, walked over the pure layer; each says for which arguments. -/
import Derived.Test.YtppocfcopnaebaaDoorp1Ty
import Derived.Test.YtppocfcopnaebaaDoorTf
namespace Go.Proofs.YtppocfcopnaebaaDoor
open Go.RowKit p1Ty
set_option linter.unusedVariables false
set_option linter.unusedSimpArgs false
theorem list_eq_ofI {α : Type} (d : α) (a b : List α) (h : a.length = b.length) (k : ∀ j, j < a.length → a.getD j d = b.getD j d) : a = b := by
  apply List.ext_getElem h
  intro j h1 h2
  have := k j h1
  simpa [h1, h2] using this
theorem take_snocI {α : Type} (d : α) (l : List α) (k : Nat) (h : k < l.length) : l.take (k + 1) = l.take k ++ [l.getD k d] := by
  rw [List.take_succ_eq_append_getElem h]; simp [h]
theorem list_ne_ofI {α : Type} (d : α) {a b : List α} (j : Nat) (k : a.getD j d ≠ b.getD j d) : a ≠ b := fun h => k (by rw [h])
def digT : List Int := [63, 6, 91, 79, 102, 109, 125, 7, 127, 111]
def digOf (c : Int) : Int := if c = 63 then 0 else if c = 6 then 1 else if c = 91 then 2 else if c = 79 then 3 else if c = 102 then 4 else if c = 109 then 5 else if c = 125 then 6 else if c = 7 then 7 else if c = 127 then 8 else if c = 111 then 9 else -1
def RowP (l : List Int) : Prop := l.length ≤ 6 ∧ ∀ x ∈ l, 0 ≤ x ∧ x ≤ 127
instance (l : List Int) : Decidable (RowP l) := by unfold RowP; infer_instance
theorem RowP.at {l : List Int} (h : RowP l) {j : Nat} (hj : j < l.length) : 0 ≤ l.getD j 0 ∧ l.getD j 0 ≤ 127 := by
  have : l.getD j 0 = l[j] := by simp [hj]
  rw [this]; exact h.2 _ (List.getElem_mem hj)
theorem RowP.of {l : List Int} (h0 : l.length ≤ 6) (h : ∀ j, j < l.length → 0 ≤ l.getD j 0 ∧ l.getD j 0 ≤ 127) : RowP l := ⟨h0, fun x hx => by
  obtain ⟨j, hj, rfl⟩ := List.getElem_of_mem hx
  have := h j hj
  simpa [hj] using this⟩
def cnt7 (n : Nat) : Nat := n % 2 + n / 2 % 2 + n / 4 % 2 + n / 8 % 2 + n / 16 % 2 + n / 32 % 2 + n / 64 % 2
set_option maxRecDepth 4000 in
theorem spec_l1In (x a b : Int) : PCalls Tryd.prog 39 [.int .i64 x, .int .i64 a, .int .i64 b] (· = [.val (.bool (decide (a ≤ x ∧ x ≤ b)))]) := by
  refine pcalls_of_code (n := 15) az Tryd.func39 (by kernel_rfl) rfl rfl (Nat.le_of_ble_eq_true rfl) (by intro t u h; simp [Tryd.f39] at h) ?_
  refine code_seq (fun K1 hK1 => ?_)
  refine code_region ?_
  refine list_cons rfl (op_q (q_assign rfl (by decide)) ?_)
  refine list_nil ?_
  refine hK1 _ ?_; clear hK1 K1
  refine code_seq (fun K2 hK2 => ?_)
  refine code_region ?_
  refine list_cons rfl (op_q (q_move rfl (by decide)) ?_)
  refine list_cons rfl (op_q (q_move rfl (by decide)) ?_)
  refine list_cons rfl (op_q (q_ge rfl rfl (by decide)) ?_)
  refine list_cons rfl (op_q (q_move rfl (by decide)) ?_)
  refine list_guard_d rfl rfl rfl rfl (by decide) rfl (by decide) (fun h1 => ?_) (fun h1 => ?_)
  · simp only [Bool.false_eq_true, if_true, if_false, Decidable.not_not] at h1
    refine id (op_q (q_move rfl (by decide)) ?_)
    refine list_guard_y rfl rfl rfl rfl (by decide) rfl ?_
    refine id (op_q (q_move rfl (by decide)) ?_)
    refine list_guard_y rfl rfl rfl rfl (by decide) rfl ?_
    refine id (op_q (q_le rfl rfl (by decide)) ?_)
    refine list_cons rfl (op_q (q_pick rfl rfl (by decide)) ?_)
    refine list_cons rfl (op_q (q_assign rfl (by decide)) ?_)
    refine list_nil ?_
    refine hK2 _ ?_; clear hK2 K2
    refine codeT.imp (σ' := [(0, _), (1, _), (2, _), (6, _)]) ?_ (imp_covers ⟨rfl, rfl, rfl, rfl, trivial⟩)
    refine code_ret ?_
    refine ends_ret (cs := []) rfl rfl rfl rfl trivial ?_
    simp [h1]
  simp only [Bool.false_eq_true, if_true, if_false, Decidable.not_not] at h1
  refine list_guard_n rfl rfl rfl rfl (by decide) rfl ?_
  refine list_guard_n rfl rfl rfl rfl (by decide) rfl ?_
  refine list_cons rfl (op_q (q_pick rfl rfl (by decide)) ?_)
  refine list_cons rfl (op_q (q_assign rfl (by decide)) ?_)
  refine list_nil ?_
  refine hK2 _ ?_; clear hK2 K2
  refine code_ret ?_
  refine ends_ret (cs := []) rfl rfl rfl rfl trivial ?_
  simp [h1]
set_option maxRecDepth 4000 in
theorem spec_l1Most (a b : Int) : PCalls Tryd.prog 33 [.int .i64 a, .int .i64 b] (· = [.val (.int .i64 (if b < a then a else b))]) := by
  refine pcalls_of_code (n := 10) az Tryd.func33 (by kernel_rfl) rfl rfl (Nat.le_of_ble_eq_true rfl) (by intro t u h; simp [Tryd.f33] at h) ?_
  refine code_seq (fun K1 hK1 => ?_)
  refine code_region ?_
  refine list_cons rfl (op_q (q_assign rfl (by decide)) ?_)
  refine list_nil ?_
  refine hK1 _ ?_; clear hK1 K1
  refine code_seq (fun K2 hK2 => ?_)
  refine code_seq (fun K3 hK3 => ?_)
  refine code_region ?_
  refine list_cons rfl (op_q (q_move rfl (by decide)) ?_)
  refine list_cons rfl (op_q (q_move rfl (by decide)) ?_)
  refine list_cons rfl (op_q (q_gt rfl rfl (by decide)) ?_)
  refine list_nil ?_
  refine hK3 _ ?_; clear hK3 K3
  refine code_cond_d rfl (fun h1 => ?_) (fun h1 => ?_)
  · skip
    (try simp only [Decidable.not_not] at h1)
    refine code_seq (fun K4 hK4 => ?_)
    refine code_region ?_
    refine list_cons rfl (op_q (q_move rfl (by decide)) ?_)
    refine list_cons rfl (op_q (q_assign rfl (by decide)) ?_)
    refine list_nil ?_
    refine hK4 _ ?_; clear hK4 K4
    refine code_ret ?_
    refine then_r ?_; clear hK2 K2
    refine ends_ret (cs := []) rfl rfl rfl rfl trivial ?_
    rw [if_pos h1]
  (try simp only [Decidable.not_not] at h1)
  refine code_skip ?_
  refine hK2 _ ?_; clear hK2 K2
  refine code_seq (fun K5 hK5 => ?_)
  refine code_region ?_
  refine list_cons rfl (op_q (q_move rfl (by decide)) ?_)
  refine list_cons rfl (op_q (q_assign rfl (by decide)) ?_)
  refine list_nil ?_
  refine hK5 _ ?_; clear hK5 K5
  refine code_ret ?_
  refine ends_ret (cs := []) rfl rfl rfl rfl trivial ?_
  rw [if_neg h1]
set_option maxRecDepth 100000 in
theorem spec_l2Digit (c : Int) (h0 : 0 ≤ c) (h1 : c ≤ 9) : PCalls Tryd.prog 37 [.int .i64 c] (· = [.val (.int .i64 (digT.getD c.toNat 0))]) := by
  have h := below_int (p := fun i => oneInt (crun Tf.tf noExt 200 6 37 [.int .i64 (Int.ofNat i)]) (digT.getD i 0)) (k := 10) (by kernel_rfl) h0 (by omega)
  have e : Int.ofNat c.toNat = c := Int.toNat_of_nonneg h0
  rw [e] at h
  exact pcalls_run Tf.tf (oneInt_ok h)
set_option maxRecDepth 100000 in
theorem spec_l2Count (c : Int) (h0 : 0 ≤ c) (h1 : c ≤ 127) : PCalls Tryd.prog 59 [.int .i64 c] (· = [.val (.int .i64 (((cnt7 c.toNat : Nat) : Int)))]) := by
  have h := below_int (p := fun i => oneInt (crun Tf.tf noExt 200 6 59 [.int .i64 (Int.ofNat i)]) (((cnt7 i : Nat) : Int))) (k := 128) (by kernel_rfl) h0 (by omega)
  have e : Int.ofNat c.toNat = c := Int.toNat_of_nonneg h0
  rw [e] at h
  exact pcalls_run Tf.tf (oneInt_ok h)
theorem foldl_take {α β : Type} (f : β → α → β) (d : α) (l : List α) (b : β) {k : Nat} (h : k < l.length) : (l.take (k + 1)).foldl f b = f ((l.take k).foldl f b) (l.getD k d) := by
  rw [take_snocI d l k h, List.foldl_append]; rfl
theorem map_take {α β : Type} (f : α → β) (d : α) (l : List α) {k : Nat} (h : k < l.length) : (l.take (k + 1)).map f = (l.take k).map f ++ [f (l.getD k d)] := by
  rw [take_snocI d l k h, List.map_append]; rfl
theorem xor7 {a b : Int} (ha : 0 ≤ a ∧ a ≤ 127) (hb : 0 ≤ b ∧ b ≤ 127) : ((a.toNat ^^^ b.toNat : Nat) : Int) ≤ 127 := by
  have := @Nat.xor_lt_two_pow a.toNat b.toNat 7 (by omega) (by omega)
  omega
theorem cnt7_le (n : Nat) : cnt7 n ≤ 7 := by unfold cnt7; omega
theorem digT_cell (n : Nat) : 0 ≤ digT.getD n 0 ∧ digT.getD n 0 ≤ 127 := by
  by_cases h : n < 10
  · have : n = 0 ∨ n = 1 ∨ n = 2 ∨ n = 3 ∨ n = 4 ∨ n = 5 ∨ n = 6 ∨ n = 7 ∨ n = 8 ∨ n = 9 := by omega
    rcases this with rfl | rfl | rfl | rfl | rfl | rfl | rfl | rfl | rfl | rfl <;> decide
  · have : digT.getD n 0 = 0 := by unfold List.getD; rw [List.getElem?_eq_none (by simp [digT]; omega)]; rfl
    rw [this]; omega
def DigsP (l : List Int) : Prop := ∀ x ∈ l, 0 ≤ digOf x
instance (l : List Int) : Decidable (DigsP l) := by unfold DigsP; infer_instance
theorem DigsP.at {l : List Int} (h : DigsP l) {j : Nat} (hj : j < l.length) : 0 ≤ digOf (l.getD j 0) := by
  have : l.getD j 0 = l[j] := by simp [hj]
  rw [this]; exact h _ (List.getElem_mem hj)
theorem DigsP.of {l : List Int} (h : ∀ j, j < l.length → 0 ≤ digOf (l.getD j 0)) : DigsP l := fun x hx => by
  obtain ⟨j, hj, rfl⟩ := List.getElem_of_mem hx
  have := h j hj
  simpa [hj] using this
set_option maxRecDepth 4000 in
theorem spec_l2Far (a b : Int) (ha : 0 ≤ a ∧ a ≤ 127) (hb : 0 ≤ b ∧ b ≤ 127) : PCalls Tryd.prog 48 [.int .i64 a, .int .i64 b] (· = [.val (.int .i64 (((cnt7 (a.toNat ^^^ b.toNat) : Nat) : Int)))]) := by
  refine pcalls_of_code (n := 9) az Tryd.func48 (by kernel_rfl) rfl rfl (Nat.le_of_ble_eq_true rfl) (by intro t u h; simp [Tryd.f48] at h) ?_
  refine code_seq (fun K1 hK1 => ?_)
  refine code_region ?_
  refine list_cons rfl (op_q (q_assign rfl (by decide)) ?_)
  refine list_nil ?_
  refine hK1 _ ?_; clear hK1 K1
  refine code_seq (fun K2 hK2 => ?_)
  refine code_region ?_
  refine list_cons rfl (op_q (q_move rfl (by decide)) ?_)
  refine list_cons rfl (op_q (q_move rfl (by decide)) ?_)
  refine list_cons rfl (op_q (by first | exact q_xorI rfl rfl (by decide) (by omega) (by omega) (by omega) (by omega) | exact q_ib rfl rfl rfl (by decide)) ?_)
  refine list_cons rfl (op_call _ (spec_l2Count _ (by omega) (xor7 ha hb)) rfl rfl (by decide) (by decide) (by decide) rfl ?_)
  rintro _ rfl
  refine list_cons rfl (op_q (q_assign rfl (by decide)) ?_)
  refine list_nil ?_
  refine hK2 _ ?_; clear hK2 K2
  refine codeT.imp (σ' := [(0, _), (1, _), (4, _)]) ?_ (imp_covers ⟨rfl, rfl, rfl, trivial⟩)
  refine code_ret ?_
  refine ends_ret (cs := []) rfl rfl rfl rfl trivial ?_
  rfl
def OrdP (s : List UInt8) : Prop := ∀ i, i < s.length → 97 ≤ (s.getD i 0).toNat ∧ (s.getD i 0).toNat ≤ 103 ∧ (0 < i → (s.getD (i - 1) 0).toNat < (s.getD i 0).toNat)
instance (s : List UInt8) : Decidable (OrdP s) := by unfold OrdP; infer_instance
def orF (s : List UInt8) : Nat := s.foldl (fun c b => c ||| 2 ^ (b.toNat - 97)) 0
theorem orF_snoc (s : List UInt8) {k : Nat} (h : k < s.length) : orF (s.take (k + 1)) = orF (s.take k) ||| 2 ^ ((s.getD k 0).toNat - 97) := by
  unfold orF; rw [foldl_take _ 0 _ _ h]
theorem or7 {a k : Nat} (ha : a < 128) (hk : k ≤ 6) : a ||| 2 ^ k < 128 := by
  have : 2 ^ k < 2 ^ 7 := Nat.pow_lt_pow_right (by omega) (by omega)
  exact @Nat.or_lt_two_pow a (2 ^ k) 7 (by omega) this
def dgt (a b : Nat) : Int := ((cnt7 ((digT.getD a 0).toNat ^^^ (digT.getD b 0).toNat) : Nat) : Int)
theorem dgt_le (a b : Nat) : 0 ≤ dgt a b ∧ dgt a b ≤ 7 := by
  have := cnt7_le ((digT.getD a 0).toNat ^^^ (digT.getD b 0).toNat)
  unfold dgt; omega
def filN (m : Nat) (f : Nat → Int) : Nat → List Int
  | 0 => List.replicate m 0
  | k + 1 => (filN m f k).set k (f k)
theorem filN_len (m : Nat) (f : Nat → Int) : ∀ k, (filN m f k).length = m
  | 0 => by simp [filN]
  | k + 1 => by simp [filN, filN_len m f k]
theorem filN_at (m : Nat) (f : Nat → Int) : ∀ (k s : Nat), s < m → (filN m f k).getD s 0 = if s < k then f s else 0
  | 0, s, h => by simp [filN, h]
  | k + 1, s, h => by
    have ih := filN_at m f k s h
    have hl := filN_len m f k
    rw [List.getD_eq_getElem?_getD] at ih ⊢
    rw [filN, List.getElem?_set]
    by_cases e : k = s
    · subst e; simp [hl, h]
    · rw [if_neg e, ih]
      by_cases h2 : s < k
      · rw [if_pos h2, if_pos (by omega)]
      · rw [if_neg h2, if_neg (by omega)]
theorem filN_put (m : Nat) (f : Nat → Int) {k o : Nat} {v : Int} (ho : o = k) (hk : k < m) (hv : v = f k) : putAt ((filN m f k).map (PV.int .i64)) o [PV.int .i64 v] = (filN m f (k + 1)).map (PV.int .i64) := by
  subst ho; subst hv
  have := put_map1 (PV.int .i64) (filN m f o) (k := o) (by rw [filN_len]; exact hk) (f o)
  rw [Nat.mul_one] at this
  exact this
theorem put_all {a b : List PV} {n : Nat} (ha : a.length = n) (hb : b.length = n) : putAt a 0 (PV.agg ((b.drop 0).take n)).cells = b := by
  unfold putAt PV.cells
  simp only [List.drop_zero, List.take_zero, List.nil_append, Nat.zero_add]
  rw [List.take_of_length_le (by omega), hb, List.drop_of_length_le (by omega), List.append_nil]
theorem res_agg1 {az : TypeId → Nat} {σ : St} {t u l e : Nat} {cs : List PV} (h : σ.at t = some (.box l e cs)) (haz : (az u == 0) = false) (hf : PV.flatL cs = true) (hl : cs.length = az u) : St.res az σ [.cell t u] = some [.val (.agg cs)] := by
  simp only [St.res, h, haz, hf, hl, BEq.rfl, Bool.and_self, if_true, Bool.false_eq_true, if_false]
def near1 (d : Nat) (s : List Int × Int) (z : Nat) : List Int × Int :=
  if z = d ∨ s.2 < dgt d z then s else if dgt d z < s.2 then ([(z : Int)], dgt d z) else (s.1 ++ [(z : Int)], s.2)
def nearK (d : Nat) (m : Int) : Nat → List Int × Int
  | 0 => ([], m)
  | k + 1 => near1 d (nearK d m k) k
theorem nearK_le (d : Nat) {m : Int} (hm : 0 ≤ m) : ∀ k, 0 ≤ (nearK d m k).2 ∧ (nearK d m k).2 ≤ m ∧ (nearK d m k).1.length ≤ k
  | 0 => by simp [nearK, hm]
  | k + 1 => by
    have ih := nearK_le d hm k
    have hd := dgt_le d k
    unfold nearK near1
    split
    · exact ⟨ih.1, ih.2.1, by omega⟩
    · split
      · exact ⟨hd.1, by simp only; omega, by simp⟩
      · exact ⟨ih.1, ih.2.1, by simp; omega⟩
set_option maxRecDepth 100000 in
theorem near_87 : ∀ d, d < 10 → nearK d 7 10 = nearK d 8 10 := by decide
def btD (d b : Nat) : Int := ((((shN (digT.getD d 0).toNat b : Nat) : Int).toNat &&& Int.toNat 1 : Nat) : Int)
theorem btD_le (d b : Nat) : 0 ≤ btD d b ∧ btD d b ≤ 1 := by
  unfold btD
  have : ((shN (digT.getD d 0).toNat b : Nat) : Int).toNat &&& Int.toNat 1 ≤ 1 := Nat.and_le_right
  omega
def shS : Nat → List Int
  | 0 => List.replicate 7 0
  | s + 1 => (shS s).set (s % 7) ((shS s).getD (s % 7) 0 + btD (s / 7) (s % 7))
theorem shS_len : ∀ s, (shS s).length = 7
  | 0 => rfl
  | s + 1 => by simp [shS, shS_len s]
theorem shS_le : ∀ (s j : Nat), 0 ≤ (shS s).getD j 0 ∧ (shS s).getD j 0 ≤ s
  | 0, j => by
    have : (shS 0).getD j 0 = 0 := by
      unfold shS
      rw [List.getD_eq_getElem?_getD, List.getElem?_replicate]
      split <;> rfl
    rw [this]; omega
  | s + 1, j => by
    have h1 := shS_le s j
    have h2 := shS_le s (s % 7)
    have h3 := btD_le (s / 7) (s % 7)
    have hl := shS_len s
    have : (shS (s + 1)).getD j 0 = if s % 7 = j then (shS s).getD (s % 7) 0 + btD (s / 7) (s % 7) else (shS s).getD j 0 := by
      rw [shS, List.getD_eq_getElem?_getD, List.getElem?_set]
      by_cases e : s % 7 = j
      · rw [if_pos e, if_pos e, if_pos (by omega)]; rfl
      · rw [if_neg e, if_neg e, ← List.getD_eq_getElem?_getD]
    rw [this]
    split <;> omega
theorem shS_put {s o : Nat} {v : Int} (ho : o = s % 7) (hv : v = (shS s).getD (s % 7) 0 + btD (s / 7) (s % 7)) : putAt ((shS s).map (PV.int .i64)) o [PV.int .i64 v] = (shS (s + 1)).map (PV.int .i64) := by
  subst ho; subst hv
  have := put_map1 (PV.int .i64) (shS s) (k := s % 7) (by rw [shS_len]; omega) ((shS s).getD (s % 7) 0 + btD (s / 7) (s % 7))
  rw [Nat.mul_one] at this
  exact this
def tabF (s : Nat) : Int := dgt (s / 10) (s % 10)
def tabS (k : Nat) : List Int := filN 100 tabF k
theorem tab_at {a b : Nat} (ha : a < 10) (hb : b < 10) : (tabS 100).getD (a * 10 + b) 0 = dgt a b := by
  unfold tabS
  rw [filN_at 100 tabF 100 _ (by omega), if_pos (by omega)]
  unfold tabF
  rw [show (a * 10 + b) / 10 = a by omega, show (a * 10 + b) % 10 = b by omega]
set_option maxRecDepth 4000 in
theorem spec_l4Digits (a b : Int) (ha : 0 ≤ a ∧ a ≤ 9) (hb : 0 ≤ b ∧ b ≤ 9) : PCalls Tryd.prog 35 [.int .i64 a, .int .i64 b] (· = [.val (.int .i64 (dgt a.toNat b.toNat))]) := by
  refine pcalls_of_code (n := 10) az Tryd.func35 (by kernel_rfl) rfl rfl (Nat.le_of_ble_eq_true rfl) (by intro t u h; simp [Tryd.f35] at h) ?_
  refine code_seq (fun K1 hK1 => ?_)
  refine code_region ?_
  refine list_cons rfl (op_q (q_assign rfl (by decide)) ?_)
  refine list_nil ?_
  refine hK1 _ ?_; clear hK1 K1
  refine code_seq (fun K2 hK2 => ?_)
  refine code_region ?_
  refine list_cons rfl (op_q (q_move rfl (by decide)) ?_)
  refine list_cons rfl (op_call _ (spec_l2Digit _ (by omega) (by omega)) rfl rfl (by decide) (by decide) (by decide) rfl ?_)
  rintro _ rfl
  refine list_cons rfl (op_q (q_move rfl (by decide)) ?_)
  refine list_cons rfl (op_call _ (spec_l2Digit _ (by omega) (by omega)) rfl rfl (by decide) (by decide) (by decide) rfl ?_)
  rintro _ rfl
  refine list_cons rfl (op_call _ (spec_l2Far _ _ (digT_cell a.toNat) (digT_cell b.toNat)) rfl rfl (by decide) (by decide) (by decide) rfl ?_)
  rintro _ rfl
  refine list_cons rfl (op_q (q_assign rfl (by decide)) ?_)
  refine list_nil ?_
  refine hK2 _ ?_; clear hK2 K2
  refine codeT.imp (σ' := [(0, _), (1, _), (4, _)]) ?_ (imp_covers ⟨rfl, rfl, rfl, trivial⟩)
  refine code_ret ?_
  refine ends_ret (cs := []) rfl rfl rfl rfl trivial ?_
  rfl
set_option maxRecDepth 4000 in
set_option maxHeartbeats 1000000 in
theorem spec_NearestDigits (digit : Int) : PCalls Tryd.prog 19 [.int .i64 digit] (· = [.own 0 3 1 (if 0 ≤ digit ∧ digit ≤ 9 then (nearK digit.toNat 8 10).1 else []).length ((if 0 ≤ digit ∧ digit ≤ 9 then (nearK digit.toNat 8 10).1 else []).map (.int .i64)), .val (.int .i64 (if 0 ≤ digit ∧ digit ≤ 9 then (nearK digit.toNat 8 10).2 else 0)), .val (.bool (decide (0 ≤ digit ∧ digit ≤ 9)))]) := by
  refine pcalls_of_code (n := 42) az Tryd.func19 (by kernel_rfl) rfl rfl (Nat.le_of_ble_eq_true rfl) (by intro t u h; simp [Tryd.f19] at h) ?_
  refine code_seq (fun K1 hK1 => ?_)
  refine code_region ?_
  refine list_cons rfl (op_q (q_assign rfl (by decide)) ?_)
  refine list_cons rfl (op_q (q_assign rfl (by decide)) ?_)
  refine list_cons rfl (op_q (q_assign rfl (by decide)) ?_)
  refine list_nil ?_
  refine hK1 _ ?_; clear hK1 K1
  refine code_seq (fun K2 hK2 => ?_)
  refine code_region ?_
  refine list_cons rfl (op_buildSlice sl_24 (parts := []) rfl rfl rfl (by decide) (by decide) (by decide) rfl ?_)
  refine list_cons rfl (op_q (q_assign rfl (by decide)) ?_)
  refine list_cons rfl (op_q (q_assign rfl (by decide)) ?_)
  refine list_nil ?_
  refine hK2 _ ?_; clear hK2 K2
  refine code_seq (fun K3 hK3 => ?_)
  refine code_seq (fun K4 hK4 => ?_)
  refine code_region ?_
  refine list_cons rfl (op_q (q_move rfl (by decide)) ?_)
  refine list_cons rfl (op_call _ (spec_l1In _ _ _) rfl rfl (by decide) (by decide) (by decide) rfl ?_)
  rintro _ rfl
  refine list_cons rfl (op_q (by first | exact q_notd rfl (by decide) | exact q_not rfl (by decide)) ?_)
  refine list_nil ?_
  refine hK4 _ ?_; clear hK4 K4
  refine codeT.imp (σ' := [(0, _), (2, _), (3, _), (4, _), (5, _), (6, _), (11, _)]) ?_ (imp_covers ⟨rfl, rfl, rfl, rfl, rfl, rfl, rfl, trivial⟩)
  refine code_cond_d rfl (fun h1 => ?_) (fun h1 => ?_)
  · skip
    (try simp only [Decidable.not_not] at h1)
    refine code_seq (fun K5 hK5 => ?_)
    refine code_region ?_
    refine list_cons rfl (op_q (q_move rfl (by decide)) ?_)
    refine list_cons rfl (op_q (q_assign rfl (by decide)) ?_)
    refine list_cons rfl (op_q (q_assign rfl (by decide)) ?_)
    refine list_cons rfl (op_q (q_assign rfl (by decide)) ?_)
    refine list_nil ?_
    refine hK5 _ ?_; clear hK5 K5
    refine code_ret ?_
    refine then_r ?_; clear hK3 K3
    refine ends_ret (cs := []) rfl rfl rfl rfl trivial ?_
    first
      | (have e : ¬ (0 ≤ digit ∧ digit ≤ 9) := by omega
         simp only [if_neg e, decide_eq_false e]; rfl)
      | (have e : 0 ≤ digit ∧ digit ≤ 9 := ⟨g1, g2⟩
         have e2 : nearK digit.toNat 8 10 = (l, least) := by rw [hk, show d.toNat = 10 by omega]
         simp only [if_pos e, decide_eq_true e, e2])
  (try simp only [Decidable.not_not] at h1)
  refine code_skip ?_
  refine hK3 _ ?_; clear hK3 K3
  refine code_seq (fun K6 hK6 => ?_)
  refine code_seq (fun K7 hK7 => ?_)
  refine code_region ?_
  refine list_cons rfl (op_q (q_assign rfl (by decide)) ?_)
  refine list_nil ?_
  refine hK7 _ ?_; clear hK7 K7
  refine code_block ?_
  refine code_loop (X := PV × Int × Bool × Nat × List PV × Int × Int) (fun x => [(0, .val (.int .i64 digit)), (2, .val x.1), (3, .val (.int .i64 x.2.1)), (4, .val (.bool x.2.2.1)), (5, .own 8 3 1 x.2.2.2.1 x.2.2.2.2.1), (6, .val (.int .i64 x.2.2.2.2.2.1)), (7, .val (.int .i64 x.2.2.2.2.2.2))]) (fun x => 0 ≤ x.2.2.2.2.2.2 ∧ x.2.2.2.2.2.2 ≤ 10 ∧ 0 ≤ digit ∧ digit ≤ 9 ∧ ∃ l : List Int, x.2.2.2.1 = l.length ∧ x.2.2.2.2.1 = l.map (.int .i64) ∧ (l, x.2.2.2.2.2.1) = nearK digit.toNat 8 x.2.2.2.2.2.2.toNat) (fun x => (10 - x.2.2.2.2.2.2).toNat) (_, _, _, _, _, _, _) (imp_covers ⟨rfl, rfl, rfl, rfl, rfl, rfl, rfl, trivial⟩) ?_ ?_
  · (try dsimp only)
    exact ⟨by omega, by omega, by omega, by omega, [], rfl, rfl, rfl⟩
  · intro x hI
    obtain ⟨t2_p, t3, t4, out_n, out_c, least, d⟩ := x
    replace hI : 0 ≤ d ∧ d ≤ 10 ∧ 0 ≤ digit ∧ digit ≤ 9 ∧ ∃ l : List Int, out_n = l.length ∧ out_c = l.map (.int .i64) ∧ (l, least) = nearK digit.toNat 8 d.toNat := hI
    show codeT _ _ _ [(0, .val (.int .i64 digit)), (2, .val t2_p), (3, .val (.int .i64 t3)), (4, .val (.bool t4)), (5, .own 8 3 1 out_n out_c), (6, .val (.int .i64 least)), (7, .val (.int .i64 d))] _
    obtain ⟨i1, i2, g1, g2, l, rfl, rfl, hk⟩ := hI
    have hd : ((d.toNat : Nat) : Int) = d := Int.toNat_of_nonneg i1
    have hn := nearK_le digit.toNat (m := 8) (by omega) d.toNat
    rw [← hk] at hn
    simp only [] at hn
    have hdl := dgt_le digit.toNat d.toNat
    refine code_seq (fun K8 hK8 => ?_)
    refine code_seq (fun K9 hK9 => ?_)
    refine code_region ?_
    refine list_cons rfl (op_q (q_move rfl (by decide)) ?_)
    refine list_cons rfl (op_q (q_lt rfl rfl (by decide)) ?_)
    refine list_nil ?_
    refine hK9 _ ?_; clear hK9 K9
    refine code_cond_d rfl (fun h2 => ?_) (fun h2 => ?_)
    · skip
      (try simp only [Decidable.not_not] at h2)
      refine code_skip ?_
      refine hK8 _ ?_; clear hK8 K8
      refine code_seq (fun K10 hK10 => ?_)
      refine code_block ?_
      refine code_seq (fun K11 hK11 => ?_)
      refine code_seq (fun K12 hK12 => ?_)
      refine code_region ?_
      refine list_cons rfl (op_q (q_move rfl (by decide)) ?_)
      refine list_cons rfl (op_q (q_move rfl (by decide)) ?_)
      refine list_cons rfl (op_q (q_eq rfl rfl (by decide)) ?_)
      refine list_cons rfl (op_q (q_move rfl (by decide)) ?_)
      refine list_guard_d rfl rfl rfl rfl (by decide) rfl (by decide) (fun h3 => ?_) (fun h3 => ?_)
      · simp only [Bool.false_eq_true, if_true, if_false, Decidable.not_not] at h3
        refine id (op_q (q_move rfl (by decide)) ?_)
        refine list_guard_y rfl rfl rfl rfl (by decide) rfl ?_
        refine id (op_q (q_move rfl (by decide)) ?_)
        refine list_guard_y rfl rfl rfl rfl (by decide) rfl ?_
        refine id (op_call _ (spec_l4Digits _ _ (by omega) (by omega)) rfl rfl (by decide) (by decide) (by decide) rfl ?_)
        rintro _ rfl
        refine list_guard_y rfl rfl rfl rfl (by decide) rfl ?_
        refine id (op_q (q_move rfl (by decide)) ?_)
        refine list_guard_y rfl rfl rfl rfl (by decide) rfl ?_
        refine id (op_q (q_gt rfl rfl (by decide)) ?_)
        refine list_cons rfl (op_q (q_pick rfl rfl (by decide)) ?_)
        refine list_nil ?_
        refine hK12 _ ?_; clear hK12 K12
        refine codeT.imp (σ' := [(0, _), (2, _), (3, _), (4, _), (5, _), (6, _), (7, _), (26, _)]) ?_ (imp_covers ⟨rfl, rfl, rfl, rfl, rfl, rfl, rfl, rfl, trivial⟩)
        refine code_cond_d rfl (fun h4 => ?_) (fun h4 => ?_)
        · skip
          (try simp only [Decidable.not_not] at h4)
          refine code_exit ?_
          refine then_x ?_; clear hK11 K11
          refine blk_hit ?_
          refine hK10 _ ?_; clear hK10 K10
          refine code_region ?_
          refine list_cons rfl (op_q (q_move rfl (by decide)) ?_)
          refine list_cons rfl (op_q (by first | exact q_addI rfl rfl (by decide) (by omega) (by omega) | exact q_ib rfl rfl rfl (by decide)) ?_)
          refine list_cons rfl (op_q (q_assign rfl (by decide)) ?_)
          refine list_nil ?_
          refine then_n ⟨(_, _, _, _, _, _, _), imp_covers ⟨rfl, rfl, rfl, rfl, rfl, rfl, rfl, trivial⟩, ?_, ?_⟩
          · (try dsimp only)
            refine ⟨by omega, by omega, g1, g2, l, rfl, rfl, ?_⟩
            rw [show (d + 1).toNat = d.toNat + 1 by omega, nearK, ← hk]
            unfold near1
            simp only [hd]
            first
              | (rw [if_pos (by omega)]; done)
              | (rw [if_neg (by omega), if_pos (by omega)]; done)
              | (rw [if_neg (by omega), if_pos (by omega)]; rfl)
              | (rw [if_neg (by omega), if_neg (by omega)]; done)
          · (try dsimp only); omega
        (try simp only [Decidable.not_not] at h4)
        refine code_skip ?_
        refine hK11 _ ?_; clear hK11 K11
        refine code_seq (fun K13 hK13 => ?_)
        refine code_seq (fun K14 hK14 => ?_)
        refine code_region ?_
        refine list_cons rfl (op_q (q_move rfl (by decide)) ?_)
        refine list_cons rfl (op_q (q_move rfl (by decide)) ?_)
        refine list_cons rfl (op_call _ (spec_l4Digits _ _ (by omega) (by omega)) rfl rfl (by decide) (by decide) (by decide) rfl ?_)
        rintro _ rfl
        refine list_cons rfl (op_q (q_move rfl (by decide)) ?_)
        refine list_cons rfl (op_q (q_lt rfl rfl (by decide)) ?_)
        refine list_nil ?_
        refine hK14 _ ?_; clear hK14 K14
        refine codeT.imp (σ' := [(0, _), (2, _), (3, _), (4, _), (5, _), (6, _), (7, _), (31, _)]) ?_ (imp_covers ⟨rfl, rfl, rfl, rfl, rfl, rfl, rfl, rfl, trivial⟩)
        refine code_cond_d rfl (fun h5 => ?_) (fun h5 => ?_)
        · skip
          (try simp only [Decidable.not_not] at h5)
          refine code_seq (fun K15 hK15 => ?_)
          refine code_region ?_
          refine list_cons rfl (op_buildSlice sl_24 (parts := []) rfl rfl rfl (by decide) (by decide) (by decide) rfl ?_)
          refine list_cons rfl (op_q (q_assign rfl (by decide)) ?_)
          refine list_nil ?_
          refine hK15 _ ?_; clear hK15 K15
          refine code_region ?_
          refine list_cons rfl (op_q (q_move rfl (by decide)) ?_)
          refine list_cons rfl (op_q (q_move rfl (by decide)) ?_)
          refine list_cons rfl (op_call _ (spec_l4Digits _ _ (by omega) (by omega)) rfl rfl (by decide) (by decide) (by decide) rfl ?_)
          rintro _ rfl
          refine list_cons rfl (op_q (q_assign rfl (by decide)) ?_)
          refine list_nil ?_
          refine hK13 _ ?_; clear hK13 K13
          refine codeT.imp (σ' := [(0, _), (2, _), (3, _), (4, _), (5, _), (6, _), (7, _)]) ?_ (imp_covers ⟨rfl, rfl, rfl, rfl, rfl, rfl, rfl, trivial⟩)
          refine code_region ?_
          refine list_cons rfl (op_q (q_move rfl (by decide)) ?_)
          refine list_cons rfl (op_q (q_move rfl (by decide)) ?_)
          refine list_cons rfl (op_buildSlice sl_24 (parts := [(0, .tmp 37)]) rfl rfl rfl (by decide) (by decide) (by decide) rfl ?_)
          refine list_cons rfl (op_append_gen sl_24 (l := 32) (.inl rfl) rfl rfl (l2 := none) (.inl ⟨rfl, (by first | rfl | exact flat_map _ (fun _ => rfl) _)⟩) (by first | rfl | simp | omega) (by omega) (by decide) (by decide) (by decide) ?_)
          refine list_cons rfl (op_q (q_assign rfl (by decide)) ?_)
          refine list_nil ?_
          refine blk_n ?_
          refine hK10 _ ?_; clear hK10 K10
          refine codeT.imp (σ' := [(0, _), (2, _), (3, _), (4, _), (5, _), (6, _), (7, _)]) ?_ (imp_covers ⟨rfl, rfl, rfl, rfl, rfl, rfl, rfl, trivial⟩)
          refine code_region ?_
          refine list_cons rfl (op_q (q_move rfl (by decide)) ?_)
          refine list_cons rfl (op_q (by first | exact q_addI rfl rfl (by decide) (by omega) (by omega) | exact q_ib rfl rfl rfl (by decide)) ?_)
          refine list_cons rfl (op_q (q_assign rfl (by decide)) ?_)
          refine list_nil ?_
          refine then_n ⟨(_, _, _, _, _, _, _), (imp_covers (σ' := [(0, _), (2, _), (3, _), (4, _), (5, _), (6, _), (7, _)]) ⟨rfl, rfl, rfl, rfl, rfl, rfl, rfl, trivial⟩).trans ((imp_ren 32 8 (by decide) (by decide) rfl).trans (imp_covers ⟨rfl, rfl, rfl, rfl, rfl, rfl, rfl, trivial⟩)), ?_, ?_⟩
          · (try dsimp only)
            refine ⟨by omega, by omega, g1, g2, [d], rfl, rfl, ?_⟩
            rw [show (d + 1).toNat = d.toNat + 1 by omega, nearK, ← hk]
            unfold near1
            simp only [hd]
            first
              | (rw [if_pos (by omega)]; done)
              | (rw [if_neg (by omega), if_pos (by omega)]; done)
              | (rw [if_neg (by omega), if_pos (by omega)]; rfl)
              | (rw [if_neg (by omega), if_neg (by omega)]; done)
          · (try dsimp only); omega
        (try simp only [Decidable.not_not] at h5)
        refine code_skip ?_
        refine hK13 _ ?_; clear hK13 K13
        refine code_region ?_
        refine list_cons rfl (op_q (q_move rfl (by decide)) ?_)
        refine list_cons rfl (op_q (q_move rfl (by decide)) ?_)
        refine list_cons rfl (op_buildSlice sl_24 (parts := [(0, .tmp 37)]) rfl rfl rfl (by decide) (by decide) (by decide) rfl ?_)
        refine list_cons rfl (op_append_gen sl_24 (l := 8) (.inl rfl) rfl rfl (l2 := none) (.inl ⟨rfl, (by first | rfl | exact flat_map _ (fun _ => rfl) _)⟩) (by first | rfl | simp | omega) (by omega) (by decide) (by decide) (by decide) ?_)
        refine list_cons rfl (op_q (q_assign rfl (by decide)) ?_)
        refine list_nil ?_
        refine blk_n ?_
        refine hK10 _ ?_; clear hK10 K10
        refine codeT.imp (σ' := [(0, _), (2, _), (3, _), (4, _), (5, _), (6, _), (7, _)]) ?_ (imp_covers ⟨rfl, rfl, rfl, rfl, rfl, rfl, rfl, trivial⟩)
        refine code_region ?_
        refine list_cons rfl (op_q (q_move rfl (by decide)) ?_)
        refine list_cons rfl (op_q (by first | exact q_addI rfl rfl (by decide) (by omega) (by omega) | exact q_ib rfl rfl rfl (by decide)) ?_)
        refine list_cons rfl (op_q (q_assign rfl (by decide)) ?_)
        refine list_nil ?_
        refine then_n ⟨(_, _, _, _, _, _, _), imp_covers ⟨rfl, rfl, rfl, rfl, rfl, rfl, rfl, trivial⟩, ?_, ?_⟩
        · (try dsimp only)
          refine ⟨by omega, by omega, g1, g2, l ++ [d], by simp, by simp; rfl, ?_⟩
          rw [show (d + 1).toNat = d.toNat + 1 by omega, nearK, ← hk]
          unfold near1
          simp only [hd]
          first
            | (rw [if_pos (by omega)]; done)
            | (rw [if_neg (by omega), if_pos (by omega)]; done)
            | (rw [if_neg (by omega), if_pos (by omega)]; rfl)
            | (rw [if_neg (by omega), if_neg (by omega)]; done)
        · (try dsimp only); omega
      simp only [Bool.false_eq_true, if_true, if_false, Decidable.not_not] at h3
      refine list_guard_n rfl rfl rfl rfl (by decide) rfl ?_
      refine list_guard_n rfl rfl rfl rfl (by decide) rfl ?_
      refine list_guard_n rfl rfl rfl rfl (by decide) rfl ?_
      refine list_guard_n rfl rfl rfl rfl (by decide) rfl ?_
      refine list_cons rfl (op_q (q_pick rfl rfl (by decide)) ?_)
      refine list_nil ?_
      refine hK12 _ ?_; clear hK12 K12
      refine code_cond_t rfl ?_
      refine code_exit ?_
      refine then_x ?_; clear hK11 K11
      refine blk_hit ?_
      refine hK10 _ ?_; clear hK10 K10
      refine codeT.imp (σ' := [(0, _), (2, _), (3, _), (4, _), (5, _), (6, _), (7, _)]) ?_ (imp_covers ⟨rfl, rfl, rfl, rfl, rfl, rfl, rfl, trivial⟩)
      refine code_region ?_
      refine list_cons rfl (op_q (q_move rfl (by decide)) ?_)
      refine list_cons rfl (op_q (by first | exact q_addI rfl rfl (by decide) (by omega) (by omega) | exact q_ib rfl rfl rfl (by decide)) ?_)
      refine list_cons rfl (op_q (q_assign rfl (by decide)) ?_)
      refine list_nil ?_
      refine then_n ⟨(_, _, _, _, _, _, _), imp_covers ⟨rfl, rfl, rfl, rfl, rfl, rfl, rfl, trivial⟩, ?_, ?_⟩
      · (try dsimp only)
        refine ⟨by omega, by omega, g1, g2, l, rfl, rfl, ?_⟩
        rw [show (d + 1).toNat = d.toNat + 1 by omega, nearK, ← hk]
        unfold near1
        simp only [hd]
        first
          | (rw [if_pos (by omega)]; done)
          | (rw [if_neg (by omega), if_pos (by omega)]; done)
          | (rw [if_neg (by omega), if_pos (by omega)]; rfl)
          | (rw [if_neg (by omega), if_neg (by omega)]; done)
      · (try dsimp only); omega
    (try simp only [Decidable.not_not] at h2)
    refine code_exit ?_
    refine then_x ?_; clear hK8 K8
    refine then_x ?_
    refine blk_hit ?_
    refine hK6 _ ?_; clear hK6 K6
    refine code_seq (fun K16 hK16 => ?_)
    refine code_region ?_
    refine list_cons rfl (op_q (q_move rfl (by decide)) ?_)
    refine list_cons rfl (op_q (q_move rfl (by decide)) ?_)
    refine list_cons rfl (op_q (q_assign rfl (by decide)) ?_)
    refine list_cons rfl (op_q (q_assign rfl (by decide)) ?_)
    refine list_cons rfl (op_q (q_assign rfl (by decide)) ?_)
    refine list_nil ?_
    refine hK16 _ ?_; clear hK16 K16
    refine code_ret ?_
    refine ends_ret (cs := []) rfl rfl rfl rfl trivial ?_
    first
      | (have e : ¬ (0 ≤ digit ∧ digit ≤ 9) := by omega
         simp only [if_neg e, decide_eq_false e]; rfl)
      | (have e : 0 ≤ digit ∧ digit ≤ 9 := ⟨g1, g2⟩
         have e2 : nearK digit.toNat 8 10 = (l, least) := by rw [hk, show d.toNat = 10 by omega]
         simp only [if_pos e, decide_eq_true e, e2])
set_option maxRecDepth 20000 in
set_option maxHeartbeats 2000000 in
theorem spec_ChangeTable  : PCalls Tryd.prog 14 [] (· = [.val (.agg ((tabS 100).map (.int .i64)))]) := by
  refine pcalls_of_code (n := 21) az Tryd.func14 (by kernel_rfl) rfl rfl (Nat.le_of_ble_eq_true rfl) (by intro t u h; simp [Tryd.f14] at h; obtain ⟨_, rfl⟩ := h <;> first | exact resTy_agg agg_33 (by decide)) ?_
  refine code_seq (fun K1 hK1 => ?_)
  refine code_region ?_
  refine list_cons rfl (op_alloc zt_33 (by decide) (by decide) rfl ?_)
  refine list_nil ?_
  refine hK1 _ ?_; clear hK1 K1
  refine code_seq (fun K2 hK2 => ?_)
  refine code_region ?_
  refine list_cons rfl (op_q (q_build bt_33 (parts := []) rfl rfl (by decide)) ?_)
  refine list_cons rfl (op_alloc zt_33 (by decide) (by decide) rfl ?_)
  refine list_cons rfl (op_store (agg_33).2 1 [1] (by intro t ht; simp only [List.mem_cons, List.not_mem_nil, or_false] at ht; subst ht; rfl) (.inr ⟨rfl, _, rfl⟩) rfl rfl rfl rfl (by first | rfl | exact flat_part (flat_map _ (fun _ => rfl) _) _ _ | exact flat_map _ (fun _ => rfl) _) (by first | rfl | (simp [PV.cells, tabS, filN_len]; done)) (by first | decide | omega | exact Nat.le_refl _ | (simp only [tabS, filN_len, List.length_map]; omega) | (simp; done) | (simp; omega)) (by decide) rfl ?_)
  refine list_nil ?_
  refine hK2 _ ?_; clear hK2 K2
  refine codeT.imp (σ' := [(0, _), (1, _)]) ?_ (imp_covers ⟨rfl, rfl, trivial⟩)
  refine code_seq (fun K3 hK3 => ?_)
  refine code_seq (fun K4 hK4 => ?_)
  refine code_region ?_
  refine list_cons rfl (op_q (q_assign rfl (by decide)) ?_)
  refine list_nil ?_
  refine hK4 _ ?_; clear hK4 K4
  refine code_block ?_
  refine code_loop (X := List PV × Int) (fun x => [(0, .box 0 33 (List.replicate 100 (.int .i64 0))), (1, .box 1 33 x.1), (2, .val (.int .i64 x.2))]) (fun x => 0 ≤ x.2 ∧ x.2 ≤ 10 ∧ x.1 = (tabS (x.2.toNat * 10)).map (.int .i64)) (fun x => (10 - x.2).toNat) (_, _) (imp_covers ⟨rfl, rfl, rfl, trivial⟩) ?_ ?_
  · (try dsimp only)
    exact ⟨by omega, by omega, rfl⟩
  · intro x hI
    obtain ⟨out_c, a⟩ := x
    replace hI : 0 ≤ a ∧ a ≤ 10 ∧ out_c = (tabS (a.toNat * 10)).map (.int .i64) := hI
    show codeT _ _ _ [(0, .box 0 33 (List.replicate 100 (.int .i64 0))), (1, .box 1 33 out_c), (2, .val (.int .i64 a))] _
    obtain ⟨i1, i2, rfl⟩ := hI
    refine code_seq (fun K5 hK5 => ?_)
    refine code_seq (fun K6 hK6 => ?_)
    refine code_region ?_
    refine list_cons rfl (op_q (q_move rfl (by decide)) ?_)
    refine list_cons rfl (op_q (q_lt rfl rfl (by decide)) ?_)
    refine list_nil ?_
    refine hK6 _ ?_; clear hK6 K6
    refine code_cond_d rfl (fun h1 => ?_) (fun h1 => ?_)
    · skip
      (try simp only [Decidable.not_not] at h1)
      refine code_skip ?_
      refine hK5 _ ?_; clear hK5 K5
      refine code_seq (fun K7 hK7 => ?_)
      refine code_block ?_
      refine code_seq (fun K8 hK8 => ?_)
      refine code_region ?_
      refine list_cons rfl (op_q (q_assign rfl (by decide)) ?_)
      refine list_nil ?_
      refine hK8 _ ?_; clear hK8 K8
      refine code_block ?_
      refine code_loop (X := List PV × Int) (fun x => [(0, .box 0 33 (List.replicate 100 (.int .i64 0))), (1, .box 1 33 x.1), (2, .val (.int .i64 a)), (3, .val (.int .i64 x.2))]) (fun x => 0 ≤ x.2 ∧ x.2 ≤ 10 ∧ x.1 = (tabS (a.toNat * 10 + x.2.toNat)).map (.int .i64)) (fun x => (10 - x.2).toNat) (_, _) (imp_covers ⟨rfl, rfl, rfl, rfl, trivial⟩) ?_ ?_
      · (try dsimp only)
        exact ⟨by omega, by omega, rfl⟩
      · intro x hI
        obtain ⟨out_c, b⟩ := x
        replace hI : 0 ≤ b ∧ b ≤ 10 ∧ out_c = (tabS (a.toNat * 10 + b.toNat)).map (.int .i64) := hI
        show codeT _ _ _ [(0, .box 0 33 (List.replicate 100 (.int .i64 0))), (1, .box 1 33 out_c), (2, .val (.int .i64 a)), (3, .val (.int .i64 b))] _
        obtain ⟨j1, j2, rfl⟩ := hI
        refine code_seq (fun K9 hK9 => ?_)
        refine code_seq (fun K10 hK10 => ?_)
        refine code_region ?_
        refine list_cons rfl (op_q (q_move rfl (by decide)) ?_)
        refine list_cons rfl (op_q (q_lt rfl rfl (by decide)) ?_)
        refine list_nil ?_
        refine hK10 _ ?_; clear hK10 K10
        refine code_cond_d rfl (fun h2 => ?_) (fun h2 => ?_)
        · skip
          (try simp only [Decidable.not_not] at h2)
          refine code_skip ?_
          refine hK9 _ ?_; clear hK9 K9
          refine code_seq (fun K11 hK11 => ?_)
          refine code_block ?_
          refine any_start fun ob1_0 => ?_
          refine any_op (rd := [2]) ob1_0 rfl rfl rfl (anyT_quiet [(2, _)] ⟨rfl, trivial⟩ rfl (q_move rfl (by decide))) (fun ob1_1 => ?_)
          refine any_op (rd := [3]) ob1_1 rfl rfl rfl (anyT_quiet [(3, _)] ⟨rfl, trivial⟩ rfl (q_move rfl (by decide))) (fun ob1_2 => ?_)
          refine any_op (rd := [2]) ob1_2 rfl rfl rfl (anyT_quiet [(2, _)] ⟨rfl, trivial⟩ rfl (q_move rfl (by decide))) (fun ob1_3 => ?_)
          refine any_op (rd := [3]) ob1_3 rfl rfl rfl (anyT_quiet [(3, _)] ⟨rfl, trivial⟩ rfl (q_move rfl (by decide))) (fun ob1_4 => ?_)
          refine any_op (rd := [15, 16]) ob1_4 rfl rfl rfl (fun σ hag hfr => by have e15 : σ.at 15 = some _ := (hag 15 (by decide)).trans rfl; have e16 : σ.at 16 = some _ := (hag 16 (by decide)).trans rfl; exact op_call _ (spec_l4Digits _ _ (by omega) (by omega)) (evs_cons e15 (evs_cons e16 evs_nil)) rfl (by decide) (by decide) (by decide) hfr (fun rs hR => by subst hR; rfl)) (fun ob1_5 => ?_)
          refine any_op (rd := [1, 13]) ob1_5 rfl rfl rfl (anyT_quiet [(1, _), (13, _)] ⟨rfl, rfl, trivial⟩ rfl (q_indexAddr_arr arr_33 rfl rfl rfl (by omega) (by omega) (by decide))) (fun ob1_6 => ?_)
          refine any_end [[], [], [], [], [2, 3], [0], [0, 1, 2, 3, 4, 5], [0, 1, 2, 3, 4, 5, 6]] ob1_6 (by kernel_rfl) (Nat.le_of_ble_eq_true rfl) (by decide) (by decide) (by kernel_rfl) (by kernel_rfl) (by kernel_rfl) (by kernel_rfl) (by kernel_rfl) ?_
          clear ob1_0 ob1_1 ob1_2 ob1_3 ob1_4 ob1_5 ob1_6
          refine listT.imp (σ' := [(0, _), (1, _), (2, _), (3, _), (9, _), (10, _), (13, _), (14, _), (15, _), (16, _), (17, _), (18, _)]) ?_ (imp_covers ⟨rfl, rfl, rfl, rfl, rfl, rfl, rfl, rfl, rfl, rfl, rfl, rfl, trivial⟩)
          refine list_cons rfl (op_q (q_indexAddr_arr arr_32 rfl rfl rfl (by omega) (by omega) (by decide)) ?_)
          refine list_cons rfl (op_store (one_3).2 1 [1] (by intro t ht; simp only [List.mem_cons, List.not_mem_nil, or_false] at ht; subst ht; rfl) (.inl rfl) rfl rfl rfl rfl rfl rfl (by first | decide | omega | exact Nat.le_refl _ | (simp only [tabS, filN_len, List.length_map]; omega) | (simp; done) | (simp; omega)) (by decide) rfl ?_)
          refine list_nil ?_
          refine blk_n ?_
          refine hK11 _ ?_; clear hK11 K11
          refine codeT.imp (σ' := [(0, _), (1, _), (2, _), (3, _)]) ?_ (imp_covers ⟨rfl, rfl, rfl, rfl, trivial⟩)
          refine code_region ?_
          refine list_cons rfl (op_q (q_move rfl (by decide)) ?_)
          refine list_cons rfl (op_q (by first | exact q_addI rfl rfl (by decide) (by omega) (by omega) | exact q_ib rfl rfl rfl (by decide)) ?_)
          refine list_cons rfl (op_q (q_assign rfl (by decide)) ?_)
          refine list_nil ?_
          refine then_n ⟨(_, _), imp_covers ⟨rfl, rfl, rfl, rfl, trivial⟩, ?_, ?_⟩
          · (try dsimp only)
            refine ⟨by omega, by omega, ?_⟩
            rw [show (b + 1).toNat = b.toNat + 1 by omega]
            exact filN_put 100 tabF (by omega) (by omega) (by unfold tabF; rw [show (a.toNat * 10 + b.toNat) / 10 = a.toNat by omega, show (a.toNat * 10 + b.toNat) % 10 = b.toNat by omega])
          · (try dsimp only); omega
        (try simp only [Decidable.not_not] at h2)
        refine code_exit ?_
        refine then_x ?_; clear hK9 K9
        refine then_x ?_
        refine blk_hit ?_
        refine blk_n ?_
        refine hK7 _ ?_; clear hK7 K7
        refine code_region ?_
        refine list_cons rfl (op_q (q_move rfl (by decide)) ?_)
        refine list_cons rfl (op_q (by first | exact q_addI rfl rfl (by decide) (by omega) (by omega) | exact q_ib rfl rfl rfl (by decide)) ?_)
        refine list_cons rfl (op_q (q_assign rfl (by decide)) ?_)
        refine list_nil ?_
        refine then_n ⟨(_, _), imp_covers ⟨rfl, rfl, rfl, trivial⟩, ?_, ?_⟩
        · (try dsimp only)
          exact ⟨by omega, by omega, by rw [show (a + 1).toNat * 10 = a.toNat * 10 + b.toNat by omega]⟩
        · (try dsimp only); omega
    (try simp only [Decidable.not_not] at h1)
    refine code_exit ?_
    refine then_x ?_; clear hK5 K5
    refine then_x ?_
    refine blk_hit ?_
    refine hK3 _ ?_; clear hK3 K3
    refine code_seq (fun K12 hK12 => ?_)
    refine code_region ?_
    refine list_cons rfl (op_q (q_load_agg agg_33 1 (.inr ⟨rfl, _, rfl⟩) rfl rfl (by first | decide | (simp only [tabS, filN_len, List.length_map]; omega)) (by first | rfl | exact flat_part (flat_map _ (fun _ => rfl) _) _ _) (by decide)) ?_)
    refine list_cons rfl (op_store (agg_33).2 0 [0] (by intro t ht; simp only [List.mem_cons, List.not_mem_nil, or_false] at ht; subst ht; rfl) (.inr ⟨rfl, _, rfl⟩) rfl rfl rfl rfl (by first | rfl | exact flat_part (flat_map _ (fun _ => rfl) _) _ _ | exact flat_map _ (fun _ => rfl) _) (by first | rfl | (simp [PV.cells, tabS, filN_len]; done)) (by first | decide | omega | exact Nat.le_refl _ | (simp only [tabS, filN_len, List.length_map]; omega) | (simp; done) | (simp; omega)) (by decide) rfl ?_)
    refine list_nil ?_
    refine hK12 _ ?_; clear hK12 K12
    refine codeT.imp (σ' := [(0, _), (1, _), (2, _)]) ?_ (imp_covers ⟨rfl, rfl, rfl, trivial⟩)
    refine code_ret ?_
    refine ends_ret (cs := []) (res_agg1 (cs := (tabS 100).map (.int .i64)) (congrArg (fun z => some (SV.box 0 33 z)) (by rw [show a.toNat * 10 = 100 by omega]; exact put_all (n := 100) (by simp) (by simp [tabS, filN_len]))) rfl (flat_map _ (fun _ => rfl) _) (by simp [tabS, filN_len]; rfl)) rfl rfl rfl trivial ?_
    rfl
set_option maxRecDepth 4000 in
set_option maxHeartbeats 1000000 in
theorem spec_BarShares  : PCalls Tryd.prog 16 [] (· = [.val (.agg ((shS 70).map (.int .i64)))]) := by
  refine pcalls_of_code (n := 25) az Tryd.func16 (by kernel_rfl) rfl rfl (Nat.le_of_ble_eq_true rfl) (by intro t u h; simp [Tryd.f16] at h; obtain ⟨_, rfl⟩ := h <;> first | exact resTy_agg agg_35 (by decide)) ?_
  refine code_seq (fun K1 hK1 => ?_)
  refine code_region ?_
  refine list_cons rfl (op_alloc zt_35 (by decide) (by decide) rfl ?_)
  refine list_nil ?_
  refine hK1 _ ?_; clear hK1 K1
  refine code_seq (fun K2 hK2 => ?_)
  refine code_region ?_
  refine list_cons rfl (op_q (q_build bt_35 (parts := []) rfl rfl (by decide)) ?_)
  refine list_cons rfl (op_alloc zt_35 (by decide) (by decide) rfl ?_)
  refine list_cons rfl (op_store (agg_35).2 1 [1] (by intro t ht; simp only [List.mem_cons, List.not_mem_nil, or_false] at ht; subst ht; rfl) (.inr ⟨rfl, _, rfl⟩) rfl rfl rfl rfl (by first | rfl | exact flat_part (flat_map _ (fun _ => rfl) _) _ _ | exact flat_map _ (fun _ => rfl) _) (by first | rfl | (simp [PV.cells, shS_len]; done)) (by first | decide | omega | exact Nat.le_refl _ | (simp only [shS_len, List.length_map]; omega) | (simp; done) | (simp; omega)) (by decide) rfl ?_)
  refine list_nil ?_
  refine hK2 _ ?_; clear hK2 K2
  refine codeT.imp (σ' := [(0, _), (1, _)]) ?_ (imp_covers ⟨rfl, rfl, trivial⟩)
  refine code_seq (fun K3 hK3 => ?_)
  refine code_seq (fun K4 hK4 => ?_)
  refine code_region ?_
  refine list_cons rfl (op_q (q_assign rfl (by decide)) ?_)
  refine list_nil ?_
  refine hK4 _ ?_; clear hK4 K4
  refine code_block ?_
  refine code_loop (X := List PV × Int) (fun x => [(0, .box 0 35 (List.replicate 7 (.int .i64 0))), (1, .box 1 35 x.1), (2, .val (.int .i64 x.2))]) (fun x => 0 ≤ x.2 ∧ x.2 ≤ 10 ∧ x.1 = (shS (x.2.toNat * 7)).map (.int .i64)) (fun x => (10 - x.2).toNat) (_, _) (imp_covers ⟨rfl, rfl, rfl, trivial⟩) ?_ ?_
  · (try dsimp only)
    exact ⟨by omega, by omega, rfl⟩
  · intro x hI
    obtain ⟨out_c, d⟩ := x
    replace hI : 0 ≤ d ∧ d ≤ 10 ∧ out_c = (shS (d.toNat * 7)).map (.int .i64) := hI
    show codeT _ _ _ [(0, .box 0 35 (List.replicate 7 (.int .i64 0))), (1, .box 1 35 out_c), (2, .val (.int .i64 d))] _
    obtain ⟨i1, i2, rfl⟩ := hI
    refine code_seq (fun K5 hK5 => ?_)
    refine code_seq (fun K6 hK6 => ?_)
    refine code_region ?_
    refine list_cons rfl (op_q (q_move rfl (by decide)) ?_)
    refine list_cons rfl (op_q (q_lt rfl rfl (by decide)) ?_)
    refine list_nil ?_
    refine hK6 _ ?_; clear hK6 K6
    refine code_cond_d rfl (fun h1 => ?_) (fun h1 => ?_)
    · skip
      (try simp only [Decidable.not_not] at h1)
      refine code_skip ?_
      refine hK5 _ ?_; clear hK5 K5
      refine code_seq (fun K7 hK7 => ?_)
      refine code_block ?_
      refine code_seq (fun K8 hK8 => ?_)
      refine code_region ?_
      refine list_cons rfl (op_q (q_assign rfl (by decide)) ?_)
      refine list_nil ?_
      refine hK8 _ ?_; clear hK8 K8
      refine code_block ?_
      refine code_loop (X := List PV × Int) (fun x => [(0, .box 0 35 (List.replicate 7 (.int .i64 0))), (1, .box 1 35 x.1), (2, .val (.int .i64 d)), (3, .val (.int .i64 x.2))]) (fun x => 0 ≤ x.2 ∧ x.2 ≤ 7 ∧ x.1 = (shS (d.toNat * 7 + x.2.toNat)).map (.int .i64)) (fun x => (7 - x.2).toNat) (_, _) (imp_covers ⟨rfl, rfl, rfl, rfl, trivial⟩) ?_ ?_
      · (try dsimp only)
        exact ⟨by omega, by omega, rfl⟩
      · intro x hI
        obtain ⟨out_c, bar⟩ := x
        replace hI : 0 ≤ bar ∧ bar ≤ 7 ∧ out_c = (shS (d.toNat * 7 + bar.toNat)).map (.int .i64) := hI
        show codeT _ _ _ [(0, .box 0 35 (List.replicate 7 (.int .i64 0))), (1, .box 1 35 out_c), (2, .val (.int .i64 d)), (3, .val (.int .i64 bar))] _
        obtain ⟨j1, j2, rfl⟩ := hI
        have hle := shS_le (d.toNat * 7 + bar.toNat) bar.toNat
        have hb := btD_le d.toNat bar.toNat
        unfold btD at hb
        have hdc := digT_cell d.toNat
        have hsh : shN (digT.getD d.toNat 0).toNat bar.toNat ≤ 127 := Nat.le_trans (Nat.div_le_self _ _) (by omega)
        refine code_seq (fun K9 hK9 => ?_)
        refine code_seq (fun K10 hK10 => ?_)
        refine code_region ?_
        refine list_cons rfl (op_q (q_move rfl (by decide)) ?_)
        refine list_cons rfl (op_q (q_lt rfl rfl (by decide)) ?_)
        refine list_nil ?_
        refine hK10 _ ?_; clear hK10 K10
        refine code_cond_d rfl (fun h2 => ?_) (fun h2 => ?_)
        · skip
          (try simp only [Decidable.not_not] at h2)
          refine code_skip ?_
          refine hK9 _ ?_; clear hK9 K9
          refine code_seq (fun K11 hK11 => ?_)
          refine code_block ?_
          refine any_start fun ob2_0 => ?_
          refine any_op (rd := [3]) ob2_0 rfl rfl rfl (anyT_quiet [(3, _)] ⟨rfl, trivial⟩ rfl (q_move rfl (by decide))) (fun ob2_1 => ?_)
          refine any_op (rd := [3]) ob2_1 rfl rfl rfl (anyT_quiet [(3, _)] ⟨rfl, trivial⟩ rfl (q_move rfl (by decide))) (fun ob2_2 => ?_)
          refine any_op (rd := [1, 14]) ob2_2 rfl rfl rfl (anyT_quiet [(1, _), (14, _)] ⟨rfl, rfl, trivial⟩ rfl (q_indexAddr_arr arr_35 rfl rfl rfl (by omega) (by omega) (by decide))) (fun ob2_3 => ?_)
          refine any_op (rd := [15, 1]) ob2_3 rfl rfl rfl (anyT_quiet [(15, _), (1, _)] ⟨rfl, rfl, trivial⟩ rfl (q_load one_3 1 rfl rfl rfl (by first | decide | exact get_map1 (PV.int .i64) 0 (shS (d.toNat * 7 + bar.toNat)) (by rw [shS_len]; omega) | (simp only [shS_len, List.length_map]; omega)) (by decide))) (fun ob2_4 => ?_)
          refine any_op (rd := [2]) ob2_4 rfl rfl rfl (anyT_quiet [(2, _)] ⟨rfl, trivial⟩ rfl (q_move rfl (by decide))) (fun ob2_5 => ?_)
          refine any_op (rd := [17]) ob2_5 rfl rfl rfl (fun σ hag hfr => by have e17 : σ.at 17 = some _ := (hag 17 (by decide)).trans rfl; exact op_call _ (spec_l2Digit _ (by omega) (by omega)) (evs_cons e17 evs_nil) rfl (by decide) (by decide) (by decide) hfr (fun rs hR => by subst hR; rfl)) (fun ob2_6 => ?_)
          refine any_op (rd := [3]) ob2_6 rfl rfl rfl (anyT_quiet [(3, _)] ⟨rfl, trivial⟩ rfl (q_move rfl (by decide))) (fun ob2_7 => ?_)
          refine any_op (rd := [18, 19]) ob2_7 rfl rfl rfl (anyT_quiet [(18, _), (19, _)] ⟨rfl, rfl, trivial⟩ rfl (by first | exact q_shrN rfl rfl (by decide) (by omega) (by omega) (by omega) | exact q_shrI rfl rfl (by decide) (by omega) (by omega) (by omega) | exact q_shr rfl rfl (by omega) (by decide))) (fun ob2_8 => ?_)
          refine any_op (rd := [20]) ob2_8 rfl rfl rfl (anyT_quiet [(20, _)] ⟨rfl, trivial⟩ rfl (by first | exact q_andI rfl rfl (by decide) (by omega) (by omega) (by omega) (by omega) | exact q_ib rfl rfl rfl (by decide))) (fun ob2_9 => ?_)
          refine any_op (rd := [16, 21]) ob2_9 rfl rfl rfl (anyT_quiet [(16, _), (21, _)] ⟨rfl, rfl, trivial⟩ rfl (by first | exact q_addI rfl rfl (by decide) (by omega) (by omega) | exact q_ib rfl rfl rfl (by decide))) (fun ob2_10 => ?_)
          refine any_end [[], [], [1], [1, 2], [], [4], [], [4, 5, 6], [4, 5, 6, 7], [1, 2, 3, 4, 5, 6, 7, 8], [0, 1, 2, 3, 4, 5, 6, 7, 8, 9], [0, 1, 2, 3, 4, 5, 6, 7, 8, 9, 10]] ob2_10 (by kernel_rfl) (Nat.le_of_ble_eq_true rfl) (by decide) (by decide) (by kernel_rfl) (by kernel_rfl) (by kernel_rfl) (by kernel_rfl) (by kernel_rfl) ?_
          clear ob2_0 ob2_1 ob2_2 ob2_3 ob2_4 ob2_5 ob2_6 ob2_7 ob2_8 ob2_9 ob2_10
          refine listT.imp (σ' := [(0, _), (1, _), (2, _), (3, _), (9, _), (10, _), (13, _), (14, _), (15, _), (16, _), (17, _), (18, _), (19, _), (20, _), (21, _), (22, _)]) ?_ (imp_covers ⟨rfl, rfl, rfl, rfl, rfl, rfl, rfl, rfl, rfl, rfl, rfl, rfl, rfl, rfl, rfl, rfl, trivial⟩)
          refine list_cons rfl (op_q (q_indexAddr_arr arr_35 rfl rfl rfl (by omega) (by omega) (by decide)) ?_)
          refine list_cons rfl (op_store (one_3).2 1 [1] (by intro t ht; simp only [List.mem_cons, List.not_mem_nil, or_false] at ht; subst ht; rfl) (.inl rfl) rfl rfl rfl rfl rfl rfl (by first | decide | omega | exact Nat.le_refl _ | (simp only [shS_len, List.length_map]; omega) | (simp; done) | (simp; omega)) (by decide) rfl ?_)
          refine list_nil ?_
          refine blk_n ?_
          refine hK11 _ ?_; clear hK11 K11
          refine codeT.imp (σ' := [(0, _), (1, _), (2, _), (3, _)]) ?_ (imp_covers ⟨rfl, rfl, rfl, rfl, trivial⟩)
          refine code_region ?_
          refine list_cons rfl (op_q (q_move rfl (by decide)) ?_)
          refine list_cons rfl (op_q (by first | exact q_addI rfl rfl (by decide) (by omega) (by omega) | exact q_ib rfl rfl rfl (by decide)) ?_)
          refine list_cons rfl (op_q (q_assign rfl (by decide)) ?_)
          refine list_nil ?_
          refine then_n ⟨(_, _), imp_covers ⟨rfl, rfl, rfl, rfl, trivial⟩, ?_, ?_⟩
          · (try dsimp only)
            refine ⟨by omega, by omega, ?_⟩
            rw [show d.toNat * 7 + (bar + 1).toNat = d.toNat * 7 + bar.toNat + 1 by omega]
            have hm : (d.toNat * 7 + bar.toNat) % 7 = bar.toNat := by omega
            exact shS_put (by omega) (by unfold btD; rw [hm, show (d.toNat * 7 + bar.toNat) / 7 = d.toNat by omega])
          · (try dsimp only); omega
        (try simp only [Decidable.not_not] at h2)
        refine code_exit ?_
        refine then_x ?_; clear hK9 K9
        refine then_x ?_
        refine blk_hit ?_
        refine blk_n ?_
        refine hK7 _ ?_; clear hK7 K7
        refine code_region ?_
        refine list_cons rfl (op_q (q_move rfl (by decide)) ?_)
        refine list_cons rfl (op_q (by first | exact q_addI rfl rfl (by decide) (by omega) (by omega) | exact q_ib rfl rfl rfl (by decide)) ?_)
        refine list_cons rfl (op_q (q_assign rfl (by decide)) ?_)
        refine list_nil ?_
        refine then_n ⟨(_, _), imp_covers ⟨rfl, rfl, rfl, trivial⟩, ?_, ?_⟩
        · (try dsimp only)
          exact ⟨by omega, by omega, by rw [show (d + 1).toNat * 7 = d.toNat * 7 + bar.toNat by omega]⟩
        · (try dsimp only); omega
    (try simp only [Decidable.not_not] at h1)
    refine code_exit ?_
    refine then_x ?_; clear hK5 K5
    refine then_x ?_
    refine blk_hit ?_
    refine hK3 _ ?_; clear hK3 K3
    refine code_seq (fun K12 hK12 => ?_)
    refine code_region ?_
    refine list_cons rfl (op_q (q_load_agg agg_35 1 (.inr ⟨rfl, _, rfl⟩) rfl rfl (by first | decide | exact get_map1 (PV.int .i64) 0 (shS (d.toNat * 7 + bar.toNat)) (by rw [shS_len]; omega) | (simp only [shS_len, List.length_map]; omega)) (by first | rfl | exact flat_part (flat_map _ (fun _ => rfl) _) _ _) (by decide)) ?_)
    refine list_cons rfl (op_store (agg_35).2 0 [0] (by intro t ht; simp only [List.mem_cons, List.not_mem_nil, or_false] at ht; subst ht; rfl) (.inr ⟨rfl, _, rfl⟩) rfl rfl rfl rfl (by first | rfl | exact flat_part (flat_map _ (fun _ => rfl) _) _ _ | exact flat_map _ (fun _ => rfl) _) (by first | rfl | (simp [PV.cells, shS_len]; done)) (by first | decide | omega | exact Nat.le_refl _ | (simp only [shS_len, List.length_map]; omega) | (simp; done) | (simp; omega)) (by decide) rfl ?_)
    refine list_nil ?_
    refine hK12 _ ?_; clear hK12 K12
    refine codeT.imp (σ' := [(0, _), (1, _), (2, _)]) ?_ (imp_covers ⟨rfl, rfl, rfl, trivial⟩)
    refine code_ret ?_
    refine ends_ret (cs := []) (res_agg1 (cs := (shS 70).map (.int .i64)) (congrArg (fun z => some (SV.box 0 35 z)) (by rw [show d.toNat * 7 = 70 by omega]; exact put_all (n := 7) (by simp) (by simp [shS_len]))) rfl (flat_map _ (fun _ => rfl) _) (by simp [shS_len]; rfl)) rfl rfl rfl trivial ?_
    rfl
def hasK (l : List Int) (n : Int) : Nat → Bool
  | 0 => false
  | k + 1 => hasK l n k || decide (l.getD k 0 = n)
def ordK (l : List Int) : Nat → Bool
  | 0 => true
  | k + 1 => ordK l k && (decide (0 ≤ l.getD k 0 ∧ l.getD k 0 ≤ 9) && !hasK l (l.getD k 0) k)
theorem ordK_mono {l : List Int} : ∀ {m k : Nat}, k ≤ m → ordK l m = true → ordK l k = true
  | 0, k, h, h1 => by rw [show k = 0 by omega]; rfl
  | m + 1, k, h, h1 => by
    by_cases e : k = m + 1
    · rw [e]; exact h1
    · simp only [ordK, Bool.and_eq_true] at h1
      exact ordK_mono (by omega) h1.1
theorem ordK_at {l : List Int} {m j : Nat} (h : ordK l m = true) (hj : j < m) : (0 ≤ l.getD j 0 ∧ l.getD j 0 ≤ 9) ∧ hasK l (l.getD j 0) j = false := by
  have := ordK_mono (k := j + 1) (by omega) h
  simp only [ordK, Bool.and_eq_true, decide_eq_true_eq, Bool.not_eq_true'] at this
  exact this.2
theorem ordK_not {l : List Int} {m j : Nat} (hj : j < m) (h : ¬ ((0 ≤ l.getD j 0 ∧ l.getD j 0 ≤ 9) ∧ hasK l (l.getD j 0) j = false)) : ordK l m = false := by
  cases hb : ordK l m with
  | false => rfl
  | true => exact absurd (ordK_at hb hj) h
theorem ordK_succ {l : List Int} {k : Nat} (h : ordK l k = true) (h1 : 0 ≤ l.getD k 0 ∧ l.getD k 0 ≤ 9) (h2 : hasK l (l.getD k 0) k = false) : ordK l (k + 1) = true := by
  simp only [ordK, h, h2, decide_eq_true h1, Bool.and_self, Bool.not_false]
theorem hasK_take (l : List Int) (n : Int) {i : Nat} (hi : i ≤ l.length) : ∀ k, k ≤ i → hasK (l.take i) n k = hasK l n k
  | 0, _ => rfl
  | k + 1, h => by
    have e : (l.take i).getD k 0 = l.getD k 0 := by
      simp only [List.getD_eq_getElem?_getD]
      rw [List.getElem?_take, if_pos (by omega)]
    rw [hasK, hasK, hasK_take l n hi k (by omega), e]
def ten (l : List Int) (m : Nat) (d : Int) : Nat := if hasK l d m then 1 else 0
theorem ten_le (l : List Int) (m : Nat) (d : Int) : ten l m d ≤ 1 := by unfold ten; split <;> omega
theorem ten_succ (l : List Int) (m : Nat) (d : Int) (h : hasK l (l.getD m 0) m = false) : ten l (m + 1) d = ten l m d + if l.getD m 0 = d then 1 else 0 := by
  unfold ten
  rw [hasK]
  by_cases e : l.getD m 0 = d
  · rw [← e, h]; simp
  · rw [decide_eq_false e, Bool.or_false, if_neg e, Nat.add_zero]
theorem ord_ten {l : List Int} : ∀ m, ordK l m = true → ten l m 0 + ten l m 1 + ten l m 2 + ten l m 3 + ten l m 4 + ten l m 5 + ten l m 6 + ten l m 7 + ten l m 8 + ten l m 9 = m
  | 0, _ => by simp [ten, hasK]
  | m + 1, h => by
    have ih := ord_ten m (ordK_mono (by omega) h)
    obtain ⟨h1, h2⟩ := ordK_at h (Nat.lt_succ_self m)
    have s := fun d => ten_succ l m d h2
    have hv : l.getD m 0 = 0 ∨ l.getD m 0 = 1 ∨ l.getD m 0 = 2 ∨ l.getD m 0 = 3 ∨ l.getD m 0 = 4 ∨ l.getD m 0 = 5 ∨ l.getD m 0 = 6 ∨ l.getD m 0 = 7 ∨ l.getD m 0 = 8 ∨ l.getD m 0 = 9 := by omega
    rw [s 0, s 1, s 2, s 3, s 4, s 5, s 6, s 7, s 8, s 9]
    rcases hv with e | e | e | e | e | e | e | e | e | e <;> rw [e] <;> simp <;> omega
theorem ord_len {l : List Int} {m : Nat} (h : ordK l m = true) : m ≤ 10 := by
  have := ord_ten m h
  have t := ten_le l m
  have := t 0; have := t 1; have := t 2; have := t 3; have := t 4; have := t 5; have := t 6; have := t 7; have := t 8; have := t 9
  omega
def cstK (l : List Int) : Nat → Int
  | 0 => 0
  | k + 1 => cstK l k + dgt (l.getD k 0).toNat (l.getD ((k + 1) % l.length) 0).toNat
theorem cstK_le (l : List Int) : ∀ k : Nat, 0 ≤ cstK l k ∧ cstK l k ≤ 7 * k
  | 0 => by simp [cstK]
  | k + 1 => by
    have := cstK_le l k
    have := dgt_le (l.getD k 0).toNat (l.getD ((k + 1) % l.length) 0).toNat
    unfold cstK; omega
def costO (l : List Int) (ring : Bool) : Int := cstK l (if ring then l.length else l.length - 1)
set_option maxRecDepth 4000 in
theorem spec_l1Has (l : List Int) (n : Int) (hl : l.length ≤ 4611686018427387904) : PCalls Tryd.prog 45 [.sl l.length (l.map (.int .i64)), .int .i64 n] (· = [.val (.bool (decide (hasK l n l.length = true)))]) := by
  refine pcalls_of_code (n := 18) az Tryd.func45 (by kernel_rfl) rfl rfl (Nat.le_of_ble_eq_true rfl) (by intro t u h; simp [Tryd.f45] at h) ?_
  refine code_seq (fun K1 hK1 => ?_)
  refine code_region ?_
  refine list_cons rfl (op_q (q_assign rfl (by decide)) ?_)
  refine list_nil ?_
  refine hK1 _ ?_; clear hK1 K1
  refine code_seq (fun K2 hK2 => ?_)
  refine code_seq (fun K3 hK3 => ?_)
  refine code_region ?_
  refine list_cons rfl (op_q (q_assign rfl (by decide)) ?_)
  refine list_nil ?_
  refine hK3 _ ?_; clear hK3 K3
  refine code_block ?_
  refine code_loop (X := Bool × Int) (fun x => [(0, .par 0 (.sl l.length (l.map (.int .i64)))), (1, .val (.int .i64 n)), (4, .val (.bool x.1)), (5, .val (.int .i64 x.2))]) (fun x => 0 ≤ x.2 ∧ x.2 ≤ l.length ∧ hasK l n x.2.toNat = false) (fun x => (l.length - x.2).toNat) (_, _) (imp_covers ⟨rfl, rfl, rfl, rfl, trivial⟩) ?_ ?_
  · (try dsimp only)
    exact ⟨by omega, by omega, rfl⟩
  · intro x hI
    obtain ⟨t4, i⟩ := x
    replace hI : 0 ≤ i ∧ i ≤ l.length ∧ hasK l n i.toNat = false := hI
    show codeT _ _ _ [(0, .par 0 (.sl l.length (l.map (.int .i64)))), (1, .val (.int .i64 n)), (4, .val (.bool t4)), (5, .val (.int .i64 i))] _
    obtain ⟨i1, i2, i3⟩ := hI
    refine code_seq (fun K4 hK4 => ?_)
    refine code_seq (fun K5 hK5 => ?_)
    refine code_region ?_
    refine list_cons rfl (op_q (q_move rfl (by decide)) ?_)
    refine list_cons rfl (op_q (q_move rfl (by decide)) ?_)
    refine list_cons rfl (op_q (q_len_sl Tryd.underlying24 rfl rfl (by decide)) ?_)
    refine list_cons rfl (op_q (q_lt rfl rfl (by decide)) ?_)
    refine list_nil ?_
    refine hK5 _ ?_; clear hK5 K5
    refine code_cond_d rfl (fun h1 => ?_) (fun h1 => ?_)
    · skip
      (try simp only [Decidable.not_not] at h1)
      refine code_skip ?_
      refine hK4 _ ?_; clear hK4 K4
      refine code_seq (fun K6 hK6 => ?_)
      refine code_block ?_
      refine code_seq (fun K7 hK7 => ?_)
      refine code_region ?_
      refine list_cons rfl (op_q (q_move rfl (by decide)) ?_)
      refine list_cons rfl (op_q (q_move rfl (by decide)) ?_)
      refine list_cons rfl (op_q (q_indexAddr_rd sl_24 rfl (.inl ⟨_, rfl, rfl⟩) rfl (by omega) (by omega) (by decide)) ?_)
      refine list_cons rfl (op_q (q_load_rd one_3 rfl (.inl ⟨_, (by first | rfl | exact congrArg (SV.rpar _) (drop_map1 _ 0 _ (by first | omega | (simp; omega)))), rfl⟩) (by decide)) ?_)
      refine list_cons rfl (op_q (q_move rfl (by decide)) ?_)
      refine list_cons rfl (op_q (q_eq rfl rfl (by decide)) ?_)
      refine list_nil ?_
      refine hK7 _ ?_; clear hK7 K7
      refine codeT.imp (σ' := [(0, _), (1, _), (4, _), (5, _), (17, _)]) ?_ (imp_covers ⟨rfl, rfl, rfl, rfl, rfl, trivial⟩)
      refine code_cond_d rfl (fun h2 => ?_) (fun h2 => ?_)
      · skip
        (try simp only [Decidable.not_not] at h2)
        refine code_seq (fun K8 hK8 => ?_)
        refine code_region ?_
        refine list_cons rfl (op_q (q_assign rfl (by decide)) ?_)
        refine list_nil ?_
        refine hK8 _ ?_; clear hK8 K8
        refine code_ret ?_
        refine blk_r ?_
        refine then_r ?_; clear hK6 K6
        refine then_r ?_
        refine blk_r ?_
        refine then_r ?_; clear hK2 K2
        refine ends_ret (cs := []) rfl rfl rfl rfl trivial ?_
        have e : hasK l n l.length = true := by
          have : ∀ m, i.toNat < m → hasK l n m = true := by
            intro m
            induction m with
            | zero => intro h; omega
            | succ m ih =>
              intro h
              rw [hasK]
              by_cases e : i.toNat = m
              · rw [← e]; simp; right; simpa using h2
              · rw [ih (by omega)]; rfl
          exact this _ (by omega)
        rw [e]; rfl
      (try simp only [Decidable.not_not] at h2)
      refine code_skip ?_
      refine blk_n ?_
      refine hK6 _ ?_; clear hK6 K6
      refine code_region ?_
      refine list_cons rfl (op_q (q_move rfl (by decide)) ?_)
      refine list_cons rfl (op_q (by first | exact q_addI rfl rfl (by decide) (by omega) (by omega) | exact q_ib rfl rfl rfl (by decide)) ?_)
      refine list_cons rfl (op_q (q_assign rfl (by decide)) ?_)
      refine list_nil ?_
      refine then_n ⟨(_, _), imp_covers ⟨rfl, rfl, rfl, rfl, trivial⟩, ?_, ?_⟩
      · (try dsimp only)
        exact ⟨by omega, by omega, by rw [show (i + 1).toNat = i.toNat + 1 by omega, hasK, i3]; simpa using h2⟩
      · (try dsimp only); omega
    (try simp only [Decidable.not_not] at h1)
    refine code_exit ?_
    refine then_x ?_; clear hK4 K4
    refine then_x ?_
    refine blk_hit ?_
    refine hK2 _ ?_; clear hK2 K2
    refine code_seq (fun K9 hK9 => ?_)
    refine code_region ?_
    refine list_cons rfl (op_q (q_assign rfl (by decide)) ?_)
    refine list_nil ?_
    refine hK9 _ ?_; clear hK9 K9
    refine code_ret ?_
    refine ends_ret (cs := []) rfl rfl rfl rfl trivial ?_
    rw [show l.length = i.toNat by omega, i3]; rfl
theorem spec_l1HasT (l : List Int) (n i : Int) (h0 : 0 ≤ i) (h1 : i ≤ l.length) (hl : l.length ≤ 4611686018427387904) : PCalls Tryd.prog 45 [.sl (i.toNat - Int.toNat 0) (List.take ((i.toNat - Int.toNat 0) * 1) (List.drop (Int.toNat 0 * 1) (l.map (PV.int .i64)))), .int .i64 n] (· = [.val (.bool (decide (hasK l n i.toNat = true)))]) := by
  have h2 := spec_l1Has (l.take i.toNat) n (by simp; omega)
  have e : (l.take i.toNat).length = i.toNat := by simp; omega
  rw [e, hasK_take l n (by omega) i.toNat (Nat.le_refl _), List.map_take] at h2
  rw [show i.toNat - Int.toNat 0 = i.toNat by omega, show Int.toNat 0 * 1 = 0 from rfl, List.drop_zero, Nat.mul_one]
  exact h2
set_option maxRecDepth 4000 in
theorem spec_l4Order (l : List Int) (hl : l.length ≤ 4611686018427387904) : PCalls Tryd.prog 27 [.sl l.length (l.map (.int .i64))] (· = [.val (.bool (decide (ordK l l.length = true)))]) := by
  refine pcalls_of_code (n := 33) az Tryd.func27 (by kernel_rfl) rfl rfl (Nat.le_of_ble_eq_true rfl) (by intro t u h; simp [Tryd.f27] at h) ?_
  refine code_seq (fun K1 hK1 => ?_)
  refine code_region ?_
  refine list_cons rfl (op_q (q_assign rfl (by decide)) ?_)
  refine list_nil ?_
  refine hK1 _ ?_; clear hK1 K1
  refine code_seq (fun K2 hK2 => ?_)
  refine code_seq (fun K3 hK3 => ?_)
  refine code_region ?_
  refine list_cons rfl (op_q (q_assign rfl (by decide)) ?_)
  refine list_nil ?_
  refine hK3 _ ?_; clear hK3 K3
  refine code_block ?_
  refine code_loop (X := Bool × Int) (fun x => [(0, .par 0 (.sl l.length (l.map (.int .i64)))), (2, .val (.bool x.1)), (3, .val (.int .i64 x.2))]) (fun x => 0 ≤ x.2 ∧ x.2 ≤ 11 ∧ x.2 ≤ l.length ∧ ordK l x.2.toNat = true) (fun x => (12 - x.2).toNat) (_, _) (imp_covers ⟨rfl, rfl, rfl, trivial⟩) ?_ ?_
  · (try dsimp only)
    exact ⟨by omega, by omega, by omega, rfl⟩
  · intro x hI
    obtain ⟨t2, i⟩ := x
    replace hI : 0 ≤ i ∧ i ≤ 11 ∧ i ≤ l.length ∧ ordK l i.toNat = true := hI
    show codeT _ _ _ [(0, .par 0 (.sl l.length (l.map (.int .i64)))), (2, .val (.bool t2)), (3, .val (.int .i64 i))] _
    obtain ⟨i1, i2, i2l, i3⟩ := hI
    refine code_seq (fun K4 hK4 => ?_)
    refine code_seq (fun K5 hK5 => ?_)
    refine code_region ?_
    refine list_cons rfl (op_q (q_move rfl (by decide)) ?_)
    refine list_cons rfl (op_q (q_move rfl (by decide)) ?_)
    refine list_cons rfl (op_q (q_len_sl Tryd.underlying24 rfl rfl (by decide)) ?_)
    refine list_cons rfl (op_q (q_lt rfl rfl (by decide)) ?_)
    refine list_cons rfl (op_q (q_move rfl (by decide)) ?_)
    refine list_guard_d rfl rfl rfl rfl (by decide) rfl (by decide) (fun h1 => ?_) (fun h1 => ?_)
    · simp only [Bool.false_eq_true, if_true, if_false, Decidable.not_not] at h1
      refine id (op_q (q_move rfl (by decide)) ?_)
      refine list_guard_y rfl rfl rfl rfl (by decide) rfl ?_
      refine id (op_q (q_le rfl rfl (by decide)) ?_)
      refine list_cons rfl (op_q (q_pick rfl rfl (by decide)) ?_)
      refine list_nil ?_
      refine hK5 _ ?_; clear hK5 K5
      refine codeT.imp (σ' := [(0, _), (2, _), (3, _), (11, _)]) ?_ (imp_covers ⟨rfl, rfl, rfl, rfl, trivial⟩)
      refine code_cond_d rfl (fun h2 => ?_) (fun h2 => ?_)
      · skip
        (try simp only [Decidable.not_not] at h2)
        refine code_skip ?_
        refine hK4 _ ?_; clear hK4 K4
        refine code_seq (fun K6 hK6 => ?_)
        refine code_block ?_
        refine code_seq (fun K7 hK7 => ?_)
        refine code_draw (by kernel_rfl) (by kernel_rfl) ?_
        refine draw_q rfl (q_move rfl (by decide)) ?_
        refine draw_q rfl (q_move rfl (by decide)) ?_
        refine draw_q rfl (q_indexAddr_rd sl_24 rfl (.inl ⟨_, rfl, rfl⟩) rfl (by omega) (by omega) (by decide)) ?_
        refine draw_q rfl (q_load_rd one_3 rfl (.inl ⟨_, (by first | rfl | exact congrArg (SV.rpar _) (drop_map1 _ 0 _ (by first | omega | (simp; omega)))), rfl⟩) (by decide)) ?_
        refine draw_call _ (spec_l1In _ _ _) rfl rfl rfl (by decide) ?_
        refine draw_q rfl (by first | exact q_notd rfl (by decide) | exact q_not rfl (by decide)) ?_
        refine draw_q rfl (q_move rfl (by decide)) ?_
        refine draw_guard_d rfl rfl rfl rfl (by decide) rfl (by decide) (fun h3 => q_move rfl (by decide)) (fun h3 => ?_) (fun h3 => ?_)
        · simp only [Bool.false_eq_true, if_true, if_false, Decidable.not_not] at h3
          refine draw_guard_y rfl rfl rfl rfl (by decide) rfl (q_move rfl (by decide)) ?_
          refine draw_guard_y rfl rfl rfl rfl (by decide) rfl (q_slice_sl sl_24 rfl rfl rfl ⟨_, rfl⟩ (by omega) (by omega) (by omega) rfl (by decide)) ?_
          refine draw_guard_y rfl rfl rfl rfl (by decide) rfl (q_move rfl (by decide)) ?_
          refine draw_guard_y rfl rfl rfl rfl (by decide) rfl (q_move rfl (by decide)) ?_
          refine draw_guard_y rfl rfl rfl rfl (by decide) rfl (q_indexAddr_rd sl_24 rfl (.inl ⟨_, rfl, rfl⟩) rfl (by omega) (by omega) (by decide)) ?_
          refine draw_guard_y rfl rfl rfl rfl (by decide) rfl (q_load_rd one_3 rfl (.inl ⟨_, (by first | rfl | exact congrArg (SV.rpar _) (drop_map1 _ 0 _ (by first | omega | (simp; omega)))), rfl⟩) (by decide)) ?_
          refine draw_callW _ (spec_l1HasT l _ i i1 (by omega) hl) rfl rfl rfl (by decide) (wanted_of rfl rfl rfl (by decide)) ?_
          refine draw_q rfl (q_pick rfl rfl (by decide)) ?_
          refine draw_nil ?_
          refine hK7 _ ?_; clear hK7 K7
          refine codeT.imp (σ' := [(0, _), (2, _), (3, _), (29, _)]) ?_ (imp_covers ⟨rfl, rfl, rfl, rfl, trivial⟩)
          refine code_cond_d rfl (fun h4 => ?_) (fun h4 => ?_)
          · skip
            (try simp only [Decidable.not_not] at h4)
            refine code_seq (fun K8 hK8 => ?_)
            refine code_region ?_
            refine list_cons rfl (op_q (q_assign rfl (by decide)) ?_)
            refine list_nil ?_
            refine hK8 _ ?_; clear hK8 K8
            refine code_ret ?_
            refine blk_r ?_
            refine then_r ?_; clear hK6 K6
            refine then_r ?_
            refine blk_r ?_
            refine then_r ?_; clear hK2 K2
            refine ends_ret (cs := []) rfl rfl rfl rfl trivial ?_
            first
              | (rw [ordK_not (l := l) (m := l.length) (j := i.toNat) (by omega) (fun h => absurd h.1 (by assumption))]; rfl)
              | (have hx := h4
                 rw [ordK_not (l := l) (m := l.length) (j := i.toNat) (by omega) (fun h => by rw [h.2] at hx; exact absurd hx (by simp))]; rfl)
              | (cases hb : ordK l l.length with
                 | true => rw [decide_eq_true (by have := ord_len hb; omega)]; rfl
                 | false =>
                   by_cases hi : i = l.length
                   · rw [show i.toNat = l.length by omega, hb] at i3; cases i3
                   · rw [decide_eq_false (by omega)]; rfl)
          (try simp only [Decidable.not_not] at h4)
          refine code_skip ?_
          refine blk_n ?_
          refine hK6 _ ?_; clear hK6 K6
          refine code_region ?_
          refine list_cons rfl (op_q (q_move rfl (by decide)) ?_)
          refine list_cons rfl (op_q (by first | exact q_addI rfl rfl (by decide) (by omega) (by omega) | exact q_ib rfl rfl rfl (by decide)) ?_)
          refine list_cons rfl (op_q (q_assign rfl (by decide)) ?_)
          refine list_nil ?_
          refine then_n ⟨(_, _), imp_covers ⟨rfl, rfl, rfl, trivial⟩, ?_, ?_⟩
          · (try dsimp only)
            exact ⟨by omega, by omega, by omega, by rw [show (i + 1).toNat = i.toNat + 1 by omega]; exact ordK_succ i3 (by assumption) (by simpa using h4)⟩
          · (try dsimp only); omega
        simp only [Bool.false_eq_true, if_true, if_false, Decidable.not_not] at h3
        refine draw_guard_n rfl rfl rfl rfl (by decide) rfl ?_
        refine draw_guard_n rfl rfl rfl rfl (by decide) rfl ?_
        refine draw_guard_n rfl rfl rfl rfl (by decide) rfl ?_
        refine draw_guard_n rfl rfl rfl rfl (by decide) rfl ?_
        refine draw_guard_n rfl rfl rfl rfl (by decide) rfl ?_
        refine draw_guard_n rfl rfl rfl rfl (by decide) rfl ?_
        refine draw_guard_n rfl rfl rfl rfl (by decide) rfl ?_
        refine draw_q rfl (q_pick rfl rfl (by decide)) ?_
        refine draw_nil ?_
        refine hK7 _ ?_; clear hK7 K7
        refine codeT.imp (σ' := [(0, _), (2, _), (3, _), (29, _)]) ?_ (imp_covers ⟨rfl, rfl, rfl, rfl, trivial⟩)
        refine code_cond_t rfl ?_
        refine code_seq (fun K9 hK9 => ?_)
        refine code_region ?_
        refine list_cons rfl (op_q (q_assign rfl (by decide)) ?_)
        refine list_nil ?_
        refine hK9 _ ?_; clear hK9 K9
        refine code_ret ?_
        refine blk_r ?_
        refine then_r ?_; clear hK6 K6
        refine then_r ?_
        refine blk_r ?_
        refine then_r ?_; clear hK2 K2
        refine ends_ret (cs := []) rfl rfl rfl rfl trivial ?_
        first
          | (rw [ordK_not (l := l) (m := l.length) (j := i.toNat) (by omega) (fun h => absurd h.1 (by assumption))]; rfl)
          | (have hx := h3
             rw [ordK_not (l := l) (m := l.length) (j := i.toNat) (by omega) (fun h => by rw [h.2] at hx; exact absurd hx (by simp))]; rfl)
          | (cases hb : ordK l l.length with
             | true => rw [decide_eq_true (by have := ord_len hb; omega)]; rfl
             | false =>
               by_cases hi : i = l.length
               · rw [show i.toNat = l.length by omega, hb] at i3; cases i3
               · rw [decide_eq_false (by omega)]; rfl)
      (try simp only [Decidable.not_not] at h2)
      refine code_exit ?_
      refine then_x ?_; clear hK4 K4
      refine then_x ?_
      refine blk_hit ?_
      refine hK2 _ ?_; clear hK2 K2
      refine code_seq (fun K10 hK10 => ?_)
      refine code_region ?_
      refine list_cons rfl (op_q (q_move rfl (by decide)) ?_)
      refine list_cons rfl (op_q (q_len_sl Tryd.underlying24 rfl rfl (by decide)) ?_)
      refine list_cons rfl (op_q (q_le rfl rfl (by decide)) ?_)
      refine list_cons rfl (op_q (q_assign rfl (by decide)) ?_)
      refine list_nil ?_
      refine hK10 _ ?_; clear hK10 K10
      refine code_ret ?_
      refine ends_ret (cs := []) rfl rfl rfl rfl trivial ?_
      first
        | (rw [ordK_not (l := l) (m := l.length) (j := i.toNat) (by omega) (fun h => absurd h.1 (by assumption))]; rfl)
        | (have hx := h2
           rw [ordK_not (l := l) (m := l.length) (j := i.toNat) (by omega) (fun h => by rw [h.2] at hx; exact absurd hx (by simp))]; rfl)
        | (cases hb : ordK l l.length with
           | true => rw [decide_eq_true (by have := ord_len hb; omega)]; rfl
           | false =>
             by_cases hi : i = l.length
             · rw [show i.toNat = l.length by omega, hb] at i3; cases i3
             · rw [decide_eq_false (by omega)]; rfl)
    simp only [Bool.false_eq_true, if_true, if_false, Decidable.not_not] at h1
    refine list_guard_n rfl rfl rfl rfl (by decide) rfl ?_
    refine list_cons rfl (op_q (q_pick rfl rfl (by decide)) ?_)
    refine list_nil ?_
    refine hK5 _ ?_; clear hK5 K5
    refine code_cond_f rfl ?_
    refine code_exit ?_
    refine then_x ?_; clear hK4 K4
    refine then_x ?_
    refine blk_hit ?_
    refine hK2 _ ?_; clear hK2 K2
    refine code_seq (fun K11 hK11 => ?_)
    refine code_region ?_
    refine list_cons rfl (op_q (q_move rfl (by decide)) ?_)
    refine list_cons rfl (op_q (q_len_sl Tryd.underlying24 rfl rfl (by decide)) ?_)
    refine list_cons rfl (op_q (q_le rfl rfl (by decide)) ?_)
    refine list_cons rfl (op_q (q_assign rfl (by decide)) ?_)
    refine list_nil ?_
    refine hK11 _ ?_; clear hK11 K11
    refine codeT.imp (σ' := [(0, _), (2, _), (3, _)]) ?_ (imp_covers ⟨rfl, rfl, rfl, trivial⟩)
    refine code_ret ?_
    refine ends_ret (cs := []) rfl rfl rfl rfl trivial ?_
    first
      | (rw [ordK_not (l := l) (m := l.length) (j := i.toNat) (by omega) (fun h => absurd h.1 (by assumption))]; rfl)
      | (have hx := h1
         rw [ordK_not (l := l) (m := l.length) (j := i.toNat) (by omega) (fun h => by rw [h.2] at hx; exact absurd hx (by simp))]; rfl)
      | (cases hb : ordK l l.length with
         | true => rw [decide_eq_true (by have := ord_len hb; omega)]; rfl
         | false =>
           by_cases hi : i = l.length
           · rw [show i.toNat = l.length by omega, hb] at i3; cases i3
           · rw [decide_eq_false (by omega)]; rfl)
set_option maxRecDepth 4000 in
theorem spec_l4Cost_true (l : List Int) (h : ordK l l.length = true) : PCalls Tryd.prog 28 [.sl l.length (l.map (.int .i64)), .bool true] (· = [.val (.int .i64 (costO l true))]) := by
  refine pcalls_of_code (n := 44) az Tryd.func28 (by kernel_rfl) rfl rfl (Nat.le_of_ble_eq_true rfl) (by intro t u h; simp [Tryd.f28] at h) ?_
  have hl := ord_len h
  have hd : ∀ j, j < l.length → 0 ≤ l.getD j 0 ∧ l.getD j 0 ≤ 9 := fun j hj => (ordK_at h hj).1
  refine code_seq (fun K1 hK1 => ?_)
  refine code_region ?_
  refine list_cons rfl (op_q (q_assign rfl (by decide)) ?_)
  refine list_nil ?_
  refine hK1 _ ?_; clear hK1 K1
  refine code_seq (fun K2 hK2 => ?_)
  refine code_region ?_
  refine list_cons rfl (op_q (q_assign rfl (by decide)) ?_)
  refine list_nil ?_
  refine hK2 _ ?_; clear hK2 K2
  refine code_seq (fun K3 hK3 => ?_)
  refine code_seq (fun K4 hK4 => ?_)
  refine code_region ?_
  refine list_cons rfl (op_q (q_assign rfl (by decide)) ?_)
  refine list_nil ?_
  refine hK4 _ ?_; clear hK4 K4
  refine code_block ?_
  refine code_loop (X := Int × Int × Int) (fun x => [(0, .par 0 (.sl l.length (l.map (.int .i64)))), (1, .val (.bool true)), (4, .val (.int .i64 x.1)), (5, .val (.int .i64 x.2.1)), (6, .val (.int .i64 x.2.2))]) (fun x => 1 ≤ x.2.2 ∧ (x.2.2 ≤ l.length ∨ (l.length = 0 ∧ x.2.2 = 1)) ∧ x.2.1 = cstK l (x.2.2 - 1).toNat) (fun x => (11 - x.2.2).toNat) (_, _, _) (imp_covers ⟨rfl, rfl, rfl, rfl, rfl, trivial⟩) ?_ ?_
  · (try dsimp only)
    exact ⟨by omega, by omega, rfl⟩
  · intro x hI
    obtain ⟨t4, sum, i⟩ := x
    replace hI : 1 ≤ i ∧ (i ≤ l.length ∨ (l.length = 0 ∧ i = 1)) ∧ sum = cstK l (i - 1).toNat := hI
    show codeT _ _ _ [(0, .par 0 (.sl l.length (l.map (.int .i64)))), (1, .val (.bool true)), (4, .val (.int .i64 t4)), (5, .val (.int .i64 sum)), (6, .val (.int .i64 i))] _
    obtain ⟨i1, i2, rfl⟩ := hI
    have hc := cstK_le l (i - 1).toNat
    have hg := dgt_le (l.getD (i - 1).toNat 0).toNat (l.getD i.toNat 0).toNat
    have hg2 := dgt_le (l.getD (l.length - 1 : Int).toNat 0).toNat (l.getD (Int.toNat 0) 0).toNat
    refine code_seq (fun K5 hK5 => ?_)
    refine code_seq (fun K6 hK6 => ?_)
    refine code_region ?_
    refine list_cons rfl (op_q (q_move rfl (by decide)) ?_)
    refine list_cons rfl (op_q (q_move rfl (by decide)) ?_)
    refine list_cons rfl (op_q (q_len_sl Tryd.underlying24 rfl rfl (by decide)) ?_)
    refine list_cons rfl (op_q (q_lt rfl rfl (by decide)) ?_)
    refine list_nil ?_
    refine hK6 _ ?_; clear hK6 K6
    refine code_cond_d rfl (fun h1 => ?_) (fun h1 => ?_)
    · skip
      (try simp only [Decidable.not_not] at h1)
      refine code_skip ?_
      refine hK5 _ ?_; clear hK5 K5
      refine code_seq (fun K7 hK7 => ?_)
      refine code_block ?_
      refine code_draw (by kernel_rfl) (by kernel_rfl) ?_
      refine draw_q rfl (q_move rfl (by decide)) ?_
      refine draw_q rfl (q_move rfl (by decide)) ?_
      refine draw_q rfl (q_move rfl (by decide)) ?_
      refine draw_q rfl (by first | exact q_subI rfl rfl (by decide) (by omega) (by omega) | exact q_ib rfl rfl rfl (by decide)) ?_
      refine draw_q rfl (q_indexAddr_rd sl_24 rfl (.inl ⟨_, rfl, rfl⟩) rfl (by omega) (by omega) (by decide)) ?_
      refine draw_q rfl (q_load_rd one_3 rfl (.inl ⟨_, (by first | rfl | exact congrArg (SV.rpar _) (drop_map1 _ 0 _ (by first | omega | (simp; omega)))), rfl⟩) (by decide)) ?_
      refine draw_q rfl (q_move rfl (by decide)) ?_
      refine draw_q rfl (q_move rfl (by decide)) ?_
      refine draw_q rfl (q_indexAddr_rd sl_24 rfl (.inl ⟨_, rfl, rfl⟩) rfl (by omega) (by omega) (by decide)) ?_
      refine draw_q rfl (q_load_rd one_3 rfl (.inl ⟨_, (by first | rfl | exact congrArg (SV.rpar _) (drop_map1 _ 0 _ (by first | omega | (simp; omega)))), rfl⟩) (by decide)) ?_
      refine draw_call _ (spec_l4Digits _ _ (hd _ (by omega)) (hd _ (by omega))) rfl rfl rfl (by decide) ?_
      refine draw_q rfl (by first | exact q_addI rfl rfl (by decide) (by omega) (by omega) | exact q_ib rfl rfl rfl (by decide)) ?_
      refine draw_q rfl (q_assign rfl (by decide)) ?_
      refine draw_nil ?_
      refine blk_n ?_
      refine hK7 _ ?_; clear hK7 K7
      refine codeT.imp (σ' := [(0, _), (1, _), (4, _), (5, _), (6, _)]) ?_ (imp_covers ⟨rfl, rfl, rfl, rfl, rfl, trivial⟩)
      refine code_region ?_
      refine list_cons rfl (op_q (q_move rfl (by decide)) ?_)
      refine list_cons rfl (op_q (by first | exact q_addI rfl rfl (by decide) (by omega) (by omega) | exact q_ib rfl rfl rfl (by decide)) ?_)
      refine list_cons rfl (op_q (q_assign rfl (by decide)) ?_)
      refine list_nil ?_
      refine then_n ⟨(_, _, _), imp_covers ⟨rfl, rfl, rfl, rfl, rfl, trivial⟩, ?_, ?_⟩
      · (try dsimp only)
        refine ⟨by omega, by omega, ?_⟩
        rw [show (i + 1 - 1).toNat = (i - 1).toNat + 1 by omega, cstK, show ((i - 1).toNat + 1) % l.length = i.toNat by rw [Nat.mod_eq_of_lt (by omega)]; omega]
      · (try dsimp only); omega
    (try simp only [Decidable.not_not] at h1)
    refine code_exit ?_
    refine then_x ?_; clear hK5 K5
    refine then_x ?_
    refine blk_hit ?_
    refine hK3 _ ?_; clear hK3 K3
    refine code_seq (fun K8 hK8 => ?_)
    refine code_seq (fun K9 hK9 => ?_)
    refine code_region ?_
    refine list_cons rfl (op_q (q_move rfl (by decide)) ?_)
    refine list_cons rfl (op_q (q_move rfl (by decide)) ?_)
    refine list_guard_y rfl rfl rfl rfl (by decide) rfl ?_
    refine id (op_q (q_move rfl (by decide)) ?_)
    refine list_guard_y rfl rfl rfl rfl (by decide) rfl ?_
    refine id (op_q (q_len_sl Tryd.underlying24 rfl rfl (by decide)) ?_)
    refine list_guard_y rfl rfl rfl rfl (by decide) rfl ?_
    refine id (op_q (q_gt rfl rfl (by decide)) ?_)
    refine list_cons rfl (op_q (q_pick rfl rfl (by decide)) ?_)
    refine list_nil ?_
    refine hK9 _ ?_; clear hK9 K9
    refine codeT.imp (σ' := [(0, _), (1, _), (4, _), (5, _), (6, _), (30, _)]) ?_ (imp_covers ⟨rfl, rfl, rfl, rfl, rfl, rfl, trivial⟩)
    refine code_cond_d rfl (fun h2 => ?_) (fun h2 => ?_)
    · skip
      (try simp only [Decidable.not_not] at h2)
      refine code_draw (by kernel_rfl) (by kernel_rfl) ?_
      refine draw_q rfl (q_move rfl (by decide)) ?_
      refine draw_q rfl (q_move rfl (by decide)) ?_
      refine draw_q rfl (q_move rfl (by decide)) ?_
      refine draw_q rfl (q_len_sl Tryd.underlying24 rfl rfl (by decide)) ?_
      refine draw_q rfl (by first | exact q_subI rfl rfl (by decide) (by omega) (by omega) | exact q_ib rfl rfl rfl (by decide)) ?_
      refine draw_q rfl (q_indexAddr_rd sl_24 rfl (.inl ⟨_, rfl, rfl⟩) rfl (by omega) (by omega) (by decide)) ?_
      refine draw_q rfl (q_load_rd one_3 rfl (.inl ⟨_, (by first | rfl | exact congrArg (SV.rpar _) (drop_map1 _ 0 _ (by first | omega | (simp; omega)))), rfl⟩) (by decide)) ?_
      refine draw_q rfl (q_move rfl (by decide)) ?_
      refine draw_q rfl (q_indexAddr_rd sl_24 rfl (.inl ⟨_, rfl, rfl⟩) rfl (by omega) (by omega) (by decide)) ?_
      refine draw_q rfl (q_load_rd one_3 rfl (.inl ⟨_, (by first | rfl | exact congrArg (SV.rpar _) (drop_map1 _ 0 _ (by first | omega | (simp; omega)))), rfl⟩) (by decide)) ?_
      refine draw_call _ (spec_l4Digits _ _ (hd _ (by omega)) (hd _ (by omega))) rfl rfl rfl (by decide) ?_
      refine draw_q rfl (by first | exact q_addI rfl rfl (by decide) (by omega) (by omega) | exact q_ib rfl rfl rfl (by decide)) ?_
      refine draw_q rfl (q_assign rfl (by decide)) ?_
      refine draw_nil ?_
      refine hK8 _ ?_; clear hK8 K8
      refine codeT.imp (σ' := [(0, _), (1, _), (4, _), (5, _), (6, _)]) ?_ (imp_covers ⟨rfl, rfl, rfl, rfl, rfl, trivial⟩)
      refine code_seq (fun K10 hK10 => ?_)
      refine code_region ?_
      refine list_cons rfl (op_q (q_move rfl (by decide)) ?_)
      refine list_cons rfl (op_q (q_assign rfl (by decide)) ?_)
      refine list_nil ?_
      refine hK10 _ ?_; clear hK10 K10
      refine code_ret ?_
      refine ends_ret (cs := []) rfl rfl rfl rfl trivial ?_
      unfold costO
      rw [if_pos rfl]
      first
        | (have e : l.length = (i - 1).toNat + 1 := by omega
           have e2 : cstK l l.length = cstK l (i - 1).toNat + dgt (l.getD (l.length - 1 : Int).toNat 0).toNat (l.getD (Int.toNat 0) 0).toNat := by
             have e3 : cstK l ((i - 1).toNat + 1) = cstK l (i - 1).toNat + dgt (l.getD (l.length - 1 : Int).toNat 0).toNat (l.getD (Int.toNat 0) 0).toNat := by
               rw [cstK, show ((i - 1).toNat + 1) % l.length = 0 by rw [← e]; exact Nat.mod_self _, show (l.length - 1 : Int).toNat = (i - 1).toNat by omega]; rfl
             rw [← e3]; exact congrArg (cstK l) e
           rw [e2]; done)
        | (rw [show l.length = 0 by omega, show (i - 1).toNat = 0 by omega]; done)
    (try simp only [Decidable.not_not] at h2)
    refine code_skip ?_
    refine hK8 _ ?_; clear hK8 K8
    refine code_seq (fun K11 hK11 => ?_)
    refine code_region ?_
    refine list_cons rfl (op_q (q_move rfl (by decide)) ?_)
    refine list_cons rfl (op_q (q_assign rfl (by decide)) ?_)
    refine list_nil ?_
    refine hK11 _ ?_; clear hK11 K11
    refine code_ret ?_
    refine ends_ret (cs := []) rfl rfl rfl rfl trivial ?_
    unfold costO
    rw [if_pos rfl]
    first
      | (have e : l.length = (i - 1).toNat + 1 := by omega
         have e2 : cstK l l.length = cstK l (i - 1).toNat + dgt (l.getD (l.length - 1 : Int).toNat 0).toNat (l.getD (Int.toNat 0) 0).toNat := by
           have e3 : cstK l ((i - 1).toNat + 1) = cstK l (i - 1).toNat + dgt (l.getD (l.length - 1 : Int).toNat 0).toNat (l.getD (Int.toNat 0) 0).toNat := by
             rw [cstK, show ((i - 1).toNat + 1) % l.length = 0 by rw [← e]; exact Nat.mod_self _, show (l.length - 1 : Int).toNat = (i - 1).toNat by omega]; rfl
           rw [← e3]; exact congrArg (cstK l) e
         rw [e2]; done)
      | (rw [show l.length = 0 by omega, show (i - 1).toNat = 0 by omega]; done)
set_option maxRecDepth 4000 in
theorem spec_l4Cost_false (l : List Int) (h : ordK l l.length = true) : PCalls Tryd.prog 28 [.sl l.length (l.map (.int .i64)), .bool false] (· = [.val (.int .i64 (costO l false))]) := by
  refine pcalls_of_code (n := 44) az Tryd.func28 (by kernel_rfl) rfl rfl (Nat.le_of_ble_eq_true rfl) (by intro t u h; simp [Tryd.f28] at h) ?_
  have hl := ord_len h
  have hd : ∀ j, j < l.length → 0 ≤ l.getD j 0 ∧ l.getD j 0 ≤ 9 := fun j hj => (ordK_at h hj).1
  refine code_seq (fun K1 hK1 => ?_)
  refine code_region ?_
  refine list_cons rfl (op_q (q_assign rfl (by decide)) ?_)
  refine list_nil ?_
  refine hK1 _ ?_; clear hK1 K1
  refine code_seq (fun K2 hK2 => ?_)
  refine code_region ?_
  refine list_cons rfl (op_q (q_assign rfl (by decide)) ?_)
  refine list_nil ?_
  refine hK2 _ ?_; clear hK2 K2
  refine code_seq (fun K3 hK3 => ?_)
  refine code_seq (fun K4 hK4 => ?_)
  refine code_region ?_
  refine list_cons rfl (op_q (q_assign rfl (by decide)) ?_)
  refine list_nil ?_
  refine hK4 _ ?_; clear hK4 K4
  refine code_block ?_
  refine code_loop (X := Int × Int × Int) (fun x => [(0, .par 0 (.sl l.length (l.map (.int .i64)))), (1, .val (.bool false)), (4, .val (.int .i64 x.1)), (5, .val (.int .i64 x.2.1)), (6, .val (.int .i64 x.2.2))]) (fun x => 1 ≤ x.2.2 ∧ (x.2.2 ≤ l.length ∨ (l.length = 0 ∧ x.2.2 = 1)) ∧ x.2.1 = cstK l (x.2.2 - 1).toNat) (fun x => (11 - x.2.2).toNat) (_, _, _) (imp_covers ⟨rfl, rfl, rfl, rfl, rfl, trivial⟩) ?_ ?_
  · (try dsimp only)
    exact ⟨by omega, by omega, rfl⟩
  · intro x hI
    obtain ⟨t4, sum, i⟩ := x
    replace hI : 1 ≤ i ∧ (i ≤ l.length ∨ (l.length = 0 ∧ i = 1)) ∧ sum = cstK l (i - 1).toNat := hI
    show codeT _ _ _ [(0, .par 0 (.sl l.length (l.map (.int .i64)))), (1, .val (.bool false)), (4, .val (.int .i64 t4)), (5, .val (.int .i64 sum)), (6, .val (.int .i64 i))] _
    obtain ⟨i1, i2, rfl⟩ := hI
    have hc := cstK_le l (i - 1).toNat
    have hg := dgt_le (l.getD (i - 1).toNat 0).toNat (l.getD i.toNat 0).toNat
    have hg2 := dgt_le (l.getD (l.length - 1 : Int).toNat 0).toNat (l.getD (Int.toNat 0) 0).toNat
    refine code_seq (fun K5 hK5 => ?_)
    refine code_seq (fun K6 hK6 => ?_)
    refine code_region ?_
    refine list_cons rfl (op_q (q_move rfl (by decide)) ?_)
    refine list_cons rfl (op_q (q_move rfl (by decide)) ?_)
    refine list_cons rfl (op_q (q_len_sl Tryd.underlying24 rfl rfl (by decide)) ?_)
    refine list_cons rfl (op_q (q_lt rfl rfl (by decide)) ?_)
    refine list_nil ?_
    refine hK6 _ ?_; clear hK6 K6
    refine code_cond_d rfl (fun h1 => ?_) (fun h1 => ?_)
    · skip
      (try simp only [Decidable.not_not] at h1)
      refine code_skip ?_
      refine hK5 _ ?_; clear hK5 K5
      refine code_seq (fun K7 hK7 => ?_)
      refine code_block ?_
      refine code_draw (by kernel_rfl) (by kernel_rfl) ?_
      refine draw_q rfl (q_move rfl (by decide)) ?_
      refine draw_q rfl (q_move rfl (by decide)) ?_
      refine draw_q rfl (q_move rfl (by decide)) ?_
      refine draw_q rfl (by first | exact q_subI rfl rfl (by decide) (by omega) (by omega) | exact q_ib rfl rfl rfl (by decide)) ?_
      refine draw_q rfl (q_indexAddr_rd sl_24 rfl (.inl ⟨_, rfl, rfl⟩) rfl (by omega) (by omega) (by decide)) ?_
      refine draw_q rfl (q_load_rd one_3 rfl (.inl ⟨_, (by first | rfl | exact congrArg (SV.rpar _) (drop_map1 _ 0 _ (by first | omega | (simp; omega)))), rfl⟩) (by decide)) ?_
      refine draw_q rfl (q_move rfl (by decide)) ?_
      refine draw_q rfl (q_move rfl (by decide)) ?_
      refine draw_q rfl (q_indexAddr_rd sl_24 rfl (.inl ⟨_, rfl, rfl⟩) rfl (by omega) (by omega) (by decide)) ?_
      refine draw_q rfl (q_load_rd one_3 rfl (.inl ⟨_, (by first | rfl | exact congrArg (SV.rpar _) (drop_map1 _ 0 _ (by first | omega | (simp; omega)))), rfl⟩) (by decide)) ?_
      refine draw_call _ (spec_l4Digits _ _ (hd _ (by omega)) (hd _ (by omega))) rfl rfl rfl (by decide) ?_
      refine draw_q rfl (by first | exact q_addI rfl rfl (by decide) (by omega) (by omega) | exact q_ib rfl rfl rfl (by decide)) ?_
      refine draw_q rfl (q_assign rfl (by decide)) ?_
      refine draw_nil ?_
      refine blk_n ?_
      refine hK7 _ ?_; clear hK7 K7
      refine codeT.imp (σ' := [(0, _), (1, _), (4, _), (5, _), (6, _)]) ?_ (imp_covers ⟨rfl, rfl, rfl, rfl, rfl, trivial⟩)
      refine code_region ?_
      refine list_cons rfl (op_q (q_move rfl (by decide)) ?_)
      refine list_cons rfl (op_q (by first | exact q_addI rfl rfl (by decide) (by omega) (by omega) | exact q_ib rfl rfl rfl (by decide)) ?_)
      refine list_cons rfl (op_q (q_assign rfl (by decide)) ?_)
      refine list_nil ?_
      refine then_n ⟨(_, _, _), imp_covers ⟨rfl, rfl, rfl, rfl, rfl, trivial⟩, ?_, ?_⟩
      · (try dsimp only)
        refine ⟨by omega, by omega, ?_⟩
        rw [show (i + 1 - 1).toNat = (i - 1).toNat + 1 by omega, cstK, show ((i - 1).toNat + 1) % l.length = i.toNat by rw [Nat.mod_eq_of_lt (by omega)]; omega]
      · (try dsimp only); omega
    (try simp only [Decidable.not_not] at h1)
    refine code_exit ?_
    refine then_x ?_; clear hK5 K5
    refine then_x ?_
    refine blk_hit ?_
    refine hK3 _ ?_; clear hK3 K3
    refine code_seq (fun K8 hK8 => ?_)
    refine code_seq (fun K9 hK9 => ?_)
    refine code_region ?_
    refine list_cons rfl (op_q (q_move rfl (by decide)) ?_)
    refine list_cons rfl (op_q (q_move rfl (by decide)) ?_)
    refine list_guard_n rfl rfl rfl rfl (by decide) rfl ?_
    refine list_guard_n rfl rfl rfl rfl (by decide) rfl ?_
    refine list_guard_n rfl rfl rfl rfl (by decide) rfl ?_
    refine list_cons rfl (op_q (q_pick rfl rfl (by decide)) ?_)
    refine list_nil ?_
    refine hK9 _ ?_; clear hK9 K9
    refine code_cond_f rfl ?_
    refine code_skip ?_
    refine hK8 _ ?_; clear hK8 K8
    refine codeT.imp (σ' := [(0, _), (1, _), (4, _), (5, _), (6, _)]) ?_ (imp_covers ⟨rfl, rfl, rfl, rfl, rfl, trivial⟩)
    refine code_seq (fun K10 hK10 => ?_)
    refine code_region ?_
    refine list_cons rfl (op_q (q_move rfl (by decide)) ?_)
    refine list_cons rfl (op_q (q_assign rfl (by decide)) ?_)
    refine list_nil ?_
    refine hK10 _ ?_; clear hK10 K10
    refine code_ret ?_
    refine ends_ret (cs := []) rfl rfl rfl rfl trivial ?_
    unfold costO
    rw [if_neg (by simp), show l.length - 1 = (i - 1).toNat by omega]
theorem spec_l4Cost (l : List Int) (r : Bool) (h : ordK l l.length = true) : PCalls Tryd.prog 28 [.sl l.length (l.map (.int .i64)), .bool r] (· = [.val (.int .i64 (costO l r))]) := by
  cases r
  · exact spec_l4Cost_false l h
  · exact spec_l4Cost_true l h
set_option maxRecDepth 4000 in
theorem spec_OrderCost (l : List Int) (r : Bool) (hl : l.length ≤ 4611686018427387904) : PCalls Tryd.prog 7 [.sl l.length (l.map (.int .i64)), .bool r] (· = [.val (.int .i64 (if ordK l l.length = true then costO l r else 0)), .val (.bool (decide (ordK l l.length = true)))]) := by
  refine pcalls_of_code (n := 12) az Tryd.func7 (by kernel_rfl) rfl rfl (Nat.le_of_ble_eq_true rfl) (by intro t u h; simp [Tryd.f7] at h) ?_
  refine code_seq (fun K1 hK1 => ?_)
  refine code_region ?_
  refine list_cons rfl (op_q (q_assign rfl (by decide)) ?_)
  refine list_cons rfl (op_q (q_assign rfl (by decide)) ?_)
  refine list_nil ?_
  refine hK1 _ ?_; clear hK1 K1
  refine code_seq (fun K2 hK2 => ?_)
  refine code_seq (fun K3 hK3 => ?_)
  refine code_region ?_
  refine list_cons rfl (op_q (q_move rfl (by decide)) ?_)
  refine list_cons rfl (op_call _ (spec_l4Order _ (by omega)) rfl rfl (by decide) (by decide) (by decide) rfl ?_)
  rintro _ rfl
  refine list_cons rfl (op_q (by first | exact q_notd rfl (by decide) | exact q_not rfl (by decide)) ?_)
  refine list_nil ?_
  refine hK3 _ ?_; clear hK3 K3
  refine codeT.imp (σ' := [(0, _), (1, _), (4, _), (5, _), (8, _)]) ?_ (imp_covers ⟨rfl, rfl, rfl, rfl, rfl, trivial⟩)
  refine code_cond_d rfl (fun h1 => ?_) (fun h1 => ?_)
  · skip
    (try simp only [Decidable.not_not] at h1)
    refine code_seq (fun K4 hK4 => ?_)
    refine code_region ?_
    refine list_cons rfl (op_q (q_assign rfl (by decide)) ?_)
    refine list_cons rfl (op_q (q_assign rfl (by decide)) ?_)
    refine list_nil ?_
    refine hK4 _ ?_; clear hK4 K4
    refine code_ret ?_
    refine then_r ?_; clear hK2 K2
    refine ends_ret (cs := []) rfl rfl rfl rfl trivial ?_
    first
      | (rw [if_neg (by assumption), decide_eq_false (by assumption)]; done)
      | (rw [if_pos (by assumption), decide_eq_true (by assumption)]; done)
  (try simp only [Decidable.not_not] at h1)
  refine code_skip ?_
  refine hK2 _ ?_; clear hK2 K2
  refine code_seq (fun K5 hK5 => ?_)
  refine code_region ?_
  refine list_cons rfl (op_q (q_move rfl (by decide)) ?_)
  refine list_cons rfl (op_q (q_move rfl (by decide)) ?_)
  refine list_cons rfl (op_call _ (spec_l4Cost _ _ (by assumption)) rfl rfl (by decide) (by decide) (by decide) rfl ?_)
  rintro _ rfl
  refine list_cons rfl (op_q (q_assign rfl (by decide)) ?_)
  refine list_cons rfl (op_q (q_assign rfl (by decide)) ?_)
  refine list_nil ?_
  refine hK5 _ ?_; clear hK5 K5
  refine codeT.imp (σ' := [(0, _), (1, _), (4, _), (5, _)]) ?_ (imp_covers ⟨rfl, rfl, rfl, rfl, trivial⟩)
  refine code_ret ?_
  refine ends_ret (cs := []) rfl rfl rfl rfl trivial ?_
  first
    | (rw [if_neg (by assumption), decide_eq_false (by assumption)]; done)
    | (rw [if_pos (by assumption), decide_eq_true (by assumption)]; done)
end Go.Proofs.YtppocfcopnaebaaDoor
