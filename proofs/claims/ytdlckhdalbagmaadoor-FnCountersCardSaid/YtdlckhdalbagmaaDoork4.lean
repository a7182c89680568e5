/- Contracts of functions, walked over the pure layer; each says for which arguments. -/
import Derived.Test.YtdlckhdalbagmaaDoork4Ty
import Derived.Test.YtdlckhdalbagmaaDoorTf
import Derived.Test.YtdlckhdalbagmaaDoork1
import Derived.Test.YtdlckhdalbagmaaDoorShelf
import Derived.Test.YtdlckhdalbagmaaDoork2
import Derived.Test.YtdlckhdalbagmaaDoork3
namespace Go.Proofs.YtdlckhdalbagmaaDoor
open Go.RowKit k4Ty
set_option linter.unusedVariables false
set_option linter.unusedSimpArgs false

theorem chgK_app (a b : List Int) (x y : Int) : ∀ i, i ≤ a.length → i ≤ b.length → chgK (a ++ [x]) (b ++ [y]) i = chgK a b i
  | 0, _, _ => rfl
  | i + 1, h1, h2 => by
    have ea : (a ++ [x]).getD i 0 = a.getD i 0 := by rw [List.getD_eq_getElem?_getD, List.getElem?_append_left (by omega), ← List.getD_eq_getElem?_getD]
    have eb : (b ++ [y]).getD i 0 = b.getD i 0 := by rw [List.getD_eq_getElem?_getD, List.getElem?_append_left (by omega), ← List.getD_eq_getElem?_getD]
    rw [chgK, chgK, ea, eb, chgK_app a b x y i (by omega) (by omega)]
theorem chgK_snoc {a b : List Int} {k : Nat} (x y : Int) (ha : a.length = k) (hb : b.length = k) : chgK (a ++ [x]) (b ++ [y]) (k + 1) = chgK a b k + ((cnt7 (x.toNat ^^^ y.toNat) : Nat) : Int) := by
  have ea : (a ++ [x]).getD k 0 = x := by rw [List.getD_eq_getElem?_getD, List.getElem?_append_right (by omega), ha, Nat.sub_self]; rfl
  have eb : (b ++ [y]).getD k 0 = y := by rw [List.getD_eq_getElem?_getD, List.getElem?_append_right (by omega), hb, Nat.sub_self]; rfl
  rw [chgK, ea, eb, chgK_app a b x y k (by omega) (by omega)]
theorem chgK_self (a : List Int) : ∀ k, chgK a a k = 0
  | 0 => rfl
  | k + 1 => by rw [chgK, chgK_self a k, Nat.xor_self]; rfl
def stN (k n : Nat) : Int := chgK (rowK k n) (rowK k (n + 1)) k
theorem dig9 : ((cnt7 ((digT.getD 9 0).toNat ^^^ (digT.getD 0 0).toNat) : Nat) : Int) = 2 := by decide
theorem dig5 (d : Nat) (h : d < 9) : ((cnt7 ((digT.getD d 0).toNat ^^^ (digT.getD (d + 1) 0).toNat) : Nat) : Int) ≤ 5 := by
  have : d = 0 ∨ d = 1 ∨ d = 2 ∨ d = 3 ∨ d = 4 ∨ d = 5 ∨ d = 6 ∨ d = 7 ∨ d = 8 := by omega
  rcases this with rfl | rfl | rfl | rfl | rfl | rfl | rfl | rfl | rfl <;> decide
theorem stN_succ (k n : Nat) : stN (k + 1) n = chgK (rowK k (n / 10)) (rowK k ((n + 1) / 10)) k + ((cnt7 ((digT.getD (n % 10) 0).toNat ^^^ (digT.getD ((n + 1) % 10) 0).toNat) : Nat) : Int) := by
  unfold stN
  rw [rowK, rowK, chgK_snoc _ _ (rowK_len _ _) (rowK_len _ _)]
theorem stN_le : ∀ k n : Nat, 1 ≤ k → stN k n ≤ 2 * k + 3
  | 0, _, h => by omega
  | k + 1, n, _ => by
    rw [stN_succ]
    by_cases e : n % 10 = 9
    · rw [e, show (n + 1) % 10 = 0 by omega, show (n + 1) / 10 = n / 10 + 1 by omega, dig9]
      by_cases hk : 1 ≤ k
      · have := stN_le k (n / 10) hk
        unfold stN at this
        omega
      · rw [show k = 0 by omega, chgK]; omega
    · rw [show (n + 1) / 10 = n / 10 by omega, show (n + 1) % 10 = n % 10 + 1 by omega, chgK_self]
      have := dig5 (n % 10) (by omega)
      omega
theorem rowK_top : ∀ k, rowK k (10 ^ k) = rowK k 0
  | 0 => rfl
  | k + 1 => by rw [rowK, rowK, Nat.pow_succ, Nat.mul_div_cancel _ (by decide), Nat.mul_mod_left, rowK_top k]
theorem rowC_next {n k : Int} (h : Cn n k) : rowC (nextC n k) k = rowK k.toNat (n.toNat + 1) := by
  have h2 := h.2
  by_cases e : n + 1 < top4 k
  · rw [nextC_in h e, rowC, show (n + 1).toNat = n.toNat + 1 by omega]
  · rw [nextC_top h e, rowC, show n.toNat + 1 = 10 ^ k.toNat by unfold top4 at e h2; omega, rowK_top]; rfl
theorem stepC_st {n k : Int} (h : Cn n k) : stepC n k = stN k.toNat n.toNat := by
  rw [stepC, rowC_next h]; rfl
theorem stepC_most {n k : Int} (h : Cn n k) : stepC n k ≤ ((2 * k.toNat + 3 : Nat) : Int) := by
  have h1 := h.1
  have := stN_le k.toNat n.toNat (by omega)
  rw [stepC_st h]; omega
theorem most_ok {k : Int} (h : 1 ≤ k ∧ k ≤ 6) : Cn (mostN k.toNat) k ∧ stepC (mostN k.toNat) k = ((2 * k.toNat + 3 : Nat) : Int) := by
  have : k = 1 ∨ k = 2 ∨ k = 3 ∨ k = 4 ∨ k = 5 ∨ k = 6 := by omega
  rcases this with rfl | rfl | rfl | rfl | rfl | rfl <;> refine ⟨by decide, by decide⟩
/-- Sums. -/
def psum (l : List Int) : Nat → Int
  | 0 => 0
  | c + 1 => psum l c + l.getD c 0
theorem psum_le {l : List Int} {m : Int} (h : ∀ s, 0 ≤ l.getD s 0 ∧ l.getD s 0 ≤ m) : ∀ c : Nat, 0 ≤ psum l c ∧ psum l c ≤ m * c
  | 0 => by simp [psum]
  | c + 1 => by
    have ih := psum_le h c
    have hc := h c
    rw [psum, show m * ((c + 1 : Nat) : Int) = m * c + m by rw [show ((c + 1 : Nat) : Int) = (c : Int) + 1 by omega, Int.mul_add, Int.mul_one]]
    omega
def sB (f : Nat → Int) : Nat → Int
  | 0 => 0
  | c + 1 => sB f c + f c
theorem psum_fW (n k : Int) (t : Nat) : ∀ c, c ≤ k.toNat * 7 → psum (fW n k t 0) c = sB (vW n k t) c
  | 0, _ => rfl
  | c + 1, h => by
    rw [psum, sB, psum_fW n k t c (by omega), fW_at n k t 0 (by omega), if_neg (Nat.not_lt_zero c)]
theorem sB_add (f g : Nat → Int) : ∀ c, sB (fun s => f s + g s) c = sB f c + sB g c
  | 0 => rfl
  | c + 1 => by rw [sB, sB, sB, sB_add f g c]; omega
theorem sB_zero : ∀ c, sB (fun _ => 0) c = 0
  | 0 => rfl
  | c + 1 => by rw [sB, sB_zero c]; rfl
theorem cnt_bt (x : Nat) (h : x < 128) : ((cnt7 x : Nat) : Int) = bt1 x 0 + bt1 x 1 + bt1 x 2 + bt1 x 3 + bt1 x 4 + bt1 x 5 + bt1 x 6 := by
  have k : below 128 (fun x => decide (((cnt7 x : Nat) : Int) = bt1 x 0 + bt1 x 1 + bt1 x 2 + bt1 x 3 + bt1 x 4 + bt1 x 5 + bt1 x 6)) = true := by kernel_rfl
  exact of_decide_eq_true (below_ok k x h)
theorem sB_wbt (n k : Int) (t : Nat) : ∀ j : Nat, j ≤ k.toNat → sB (wbt n k t) (j * 7) = chgK (rowC (atC n k t) k) (rowC (nextC (atC n k t) k) k) j
  | 0, _ => rfl
  | j + 1, h => by
    have ih := sB_wbt n k t j (by omega)
    have e : ∀ b, b < 7 → wbt n k t (j * 7 + b) = bt1 (xrC n k t j) b := fun b hb => wbt_at n k t hb
    have hx : ((cnt7 (((rowC (atC n k t) k).getD j 0).toNat ^^^ ((rowC (nextC (atC n k t) k) k).getD j 0).toNat) : Nat) : Int) = _ := cnt_bt (xrC n k t j) (xrC_lt n k t (by omega))
    rw [chgK, hx, ← ih, show (j + 1) * 7 = j * 7 + 7 by omega]
    show sB (wbt n k t) (j * 7) + wbt n k t (j * 7 + 0) + wbt n k t (j * 7 + 1) + wbt n k t (j * 7 + 2) + wbt n k t (j * 7 + 3) + wbt n k t (j * 7 + 4) + wbt n k t (j * 7 + 5) + wbt n k t (j * 7 + 6) = _
    rw [e 0 (by decide), e 1 (by decide), e 2 (by decide), e 3 (by decide), e 4 (by decide), e 5 (by decide), e 6 (by decide)]
    omega
theorem sB_run (n k : Int) : ∀ t : Nat, sB (vW n k t) (k.toNat * 7) = runC n k t
  | 0 => sB_zero _
  | t + 1 => by
    have e : vW n k (t + 1) = fun s => vW n k t s + wbt n k t s := rfl
    rw [e, sB_add, sB_run n k t, sB_wbt n k t k.toNat (Nat.le_refl _), runC]; rfl
theorem wear_sum (n k : Int) (t : Nat) : psum (fW n k t 0) (k.toNat * 7) = runC n k t := by
  rw [psum_fW n k t _ (Nat.le_refl _), sB_run]
theorem runC_1 {n k : Int} (h : Cn n k) : runC n k 1 = stepC n k := by
  rw [runC, atC_0 h]; show (0 : Int) + _ = _; omega
theorem rowI_len (n k : Int) : (if Cn n k then rowC n k else []).length ≤ 6 := by
  split
  · rename_i h
    have := h.1
    unfold rowC; rw [rowK_len]; omega
  · simp
theorem wear_norm (a b : Nat) {n k s : Int} (h : Cn n k ∧ 0 ≤ s ∧ s ≤ 1000) : some (SV.own a b 7 (if Cn n k ∧ 0 ≤ s ∧ s ≤ 1000 then k.toNat else 0) ((if Cn n k ∧ 0 ≤ s ∧ s ≤ 1000 then fW n k s.toNat 0 else []).map (PV.int .i64))) = some (SV.own a b 7 k.toNat ((fW n k s.toNat 0).map (PV.int .i64))) := by
  rw [if_pos h, if_pos h]
theorem digOf_T (d : Nat) (h : d < 10) : digOf (digT.getD d 0) = (d : Int) := by
  have := digOf_at (d := (d : Int)) (by omega) (by omega) (c := digT.getD d 0) (by rw [Int.toNat_natCast])
  exact this
theorem numF_snoc (l : List Int) (x : Int) : numF (l ++ [x]) = 10 * numF l + digOf x := by simp [numF]
theorem rowK_num : ∀ k n : Nat, n < 10 ^ k → numF (rowK k n) = (n : Int)
  | 0, n, h => by
    have : n = 0 := by simpa using h
    subst this; rfl
  | k + 1, n, h => by
    rw [rowK, numF_snoc, rowK_num k (n / 10) (by rw [Nat.pow_succ] at h; omega), digOf_T _ (by omega)]; omega
theorem rowK_digs : ∀ k n : Nat, DigsP (rowK k n)
  | 0, _, x, h => by cases h
  | k + 1, n, x, h => by
    simp only [rowK, List.mem_append, List.mem_singleton] at h
    rcases h with h | rfl
    · exact rowK_digs k _ x h
    · rw [digOf_T _ (by omega)]; omega
section
variable {n k ch : Int}
theorem overC_get {i : Nat} (h : overC n k ch = some i) : i ≤ 1000 ∧ ch ≤ runC n k i ∧ ∀ j, j < i → ¬ ch ≤ runC n k j := by
  unfold overC at h
  rw [List.find?_eq_some_iff_getElem] at h
  obtain ⟨h1, m, hm, h2, h3⟩ := h
  have hm' : m < 1001 := by simpa using hm
  have e : m = i := by simpa using h2
  subst e
  refine ⟨by omega, by simpa using h1, fun j hj => ?_⟩
  have := h3 j hj
  simpa using this
theorem over_some (h : Cn n k ∧ 0 ≤ ch ∧ (overC n k ch).isSome = true) : ∃ i : Nat, i ≤ 1000 ∧ (if Cn n k ∧ 0 ≤ ch then overV (overC n k ch) else 0) = (i : Int) ∧ ch ≤ runC n k i ∧ ∀ j, j < i → ¬ ch ≤ runC n k j := by
  obtain ⟨i, hi⟩ := Option.isSome_iff_exists.1 h.2.2
  have g := overC_get hi
  exact ⟨i, g.1, by rw [if_pos ⟨h.1, h.2.1⟩, hi]; rfl, g.2.1, g.2.2⟩
theorem over1 (h : Cn n k ∧ 0 ≤ ch ∧ (overC n k ch).isSome = true) : Cn n k ∧ (0 ≤ if Cn n k ∧ 0 ≤ ch then overV (overC n k ch) else 0) ∧ (if Cn n k ∧ 0 ≤ ch then overV (overC n k ch) else 0) ≤ 1000 := by
  obtain ⟨i, h1, h2, h3, h4⟩ := over_some h
  rw [h2]; exact ⟨h.1, by omega, by omega⟩
theorem over2 (h : Cn n k ∧ 0 ≤ ch ∧ (overC n k ch).isSome = true) : ¬ (if Cn n k ∧ (0 ≤ if Cn n k ∧ 0 ≤ ch then overV (overC n k ch) else 0) ∧ (if Cn n k ∧ 0 ≤ ch then overV (overC n k ch) else 0) ≤ 1000 then runC n k (if Cn n k ∧ 0 ≤ ch then overV (overC n k ch) else 0).toNat else 0) < ch := by
  obtain ⟨i, h1, h2, h3, h4⟩ := over_some h
  rw [h2, if_pos ⟨h.1, by omega, by omega⟩, Int.toNat_natCast]; omega
theorem over3 (h : Cn n k ∧ 0 ≤ ch ∧ (overC n k ch).isSome = true) (h0 : 0 < if Cn n k ∧ 0 ≤ ch then overV (overC n k ch) else 0) : Cn n k ∧ 0 ≤ (if Cn n k ∧ 0 ≤ ch then overV (overC n k ch) else 0) - 1 ∧ (if Cn n k ∧ 0 ≤ ch then overV (overC n k ch) else 0) - 1 ≤ 1000 := by
  obtain ⟨i, h1, h2, h3, h4⟩ := over_some h
  rw [h2] at h0 ⊢; exact ⟨h.1, by omega, by omega⟩
theorem over4 (h : Cn n k ∧ 0 ≤ ch ∧ (overC n k ch).isSome = true) (h0 : 0 < if Cn n k ∧ 0 ≤ ch then overV (overC n k ch) else 0) : ¬ ch ≤ if Cn n k ∧ 0 ≤ (if Cn n k ∧ 0 ≤ ch then overV (overC n k ch) else 0) - 1 ∧ (if Cn n k ∧ 0 ≤ ch then overV (overC n k ch) else 0) - 1 ≤ 1000 then runC n k ((if Cn n k ∧ 0 ≤ ch then overV (overC n k ch) else 0) - 1).toNat else 0 := by
  obtain ⟨i, h1, h2, h3, h4⟩ := over_some h
  rw [h2] at h0 ⊢
  rw [if_pos ⟨h.1, by omega, by omega⟩]
  exact h4 _ (by omega)
variable {x0 : Int}
theorem most1 (h : 1 ≤ x0 ∧ x0 ≤ 6) : Cn (if 1 ≤ x0 ∧ x0 ≤ 6 then mostN x0.toNat else 0) x0 := by rw [if_pos h]; exact (most_ok h).1
theorem most2 (h : 1 ≤ x0 ∧ x0 ≤ 6) : (if Cn (if 1 ≤ x0 ∧ x0 ≤ 6 then mostN x0.toNat else 0) x0 then stepC (if 1 ≤ x0 ∧ x0 ≤ 6 then mostN x0.toNat else 0) x0 else 0) = if 1 ≤ x0 ∧ x0 ≤ 6 then ((2 * x0.toNat + 3 : Nat) : Int) else 0 := by
  rw [if_pos (most1 h), if_pos h, if_pos h]; exact (most_ok h).2
theorem most3 (h : 1 ≤ x0 ∧ x0 ≤ 6) (hn : Cn n k) (e : k = x0) : ¬ (if 1 ≤ x0 ∧ x0 ≤ 6 then ((2 * x0.toNat + 3 : Nat) : Int) else 0) < if Cn n k then stepC n k else 0 := by
  subst e
  rw [if_pos h, if_pos hn]
  have := stepC_most hn
  omega
theorem row1 (h : Cn n k) : RowP (if Cn n k then rowC n k else []) ∧ DigsP (if Cn n k then rowC n k else []) ∧ 0 < (if Cn n k then rowC n k else []).length := by
  have := h.1
  rw [if_pos h]
  exact ⟨rowC_row (by omega), rowK_digs _ _, by unfold rowC; rw [rowK_len]; omega⟩
theorem row2 (h : Cn n k) : (if RowP (if Cn n k then rowC n k else []) ∧ DigsP (if Cn n k then rowC n k else []) then numF (if Cn n k then rowC n k else []) else 0) = n := by
  have g := row1 h
  rw [if_pos ⟨g.1, g.2.1⟩, if_pos h]
  have h2 := h.2
  unfold rowC
  rw [rowK_num _ _ (by unfold top4 at h2; omega)]; omega
theorem row3 (h : Cn n k) : (((if Cn n k then rowC n k else []).length : Nat) : Int) = k := by
  have := h.1
  rw [if_pos h]; exact rowC_len n (by omega)
end
theorem wearI_len (n s k : Int) : (if Cn n k ∧ 0 ≤ s ∧ s ≤ 1000 then fW n k s.toNat 0 else []).length = (if Cn n k ∧ 0 ≤ s ∧ s ≤ 1000 then k.toNat else 0) * 7 := by
  split
  · rw [fW_len]
  · rfl
theorem wearI_le (n s k : Int) : (if Cn n k ∧ 0 ≤ s ∧ s ≤ 1000 then k.toNat else 0) ≤ 1048576 := by
  split
  · rename_i h; have := h.1.1; omega
  · omega
theorem psum_bd (n k : Int) (t c : Nat) (ht : t ≤ 1000) (hc : c ≤ 42) : 0 ≤ psum (fW n k t 0) c ∧ psum (fW n k t 0) c ≤ 42042 := by
  have h := psum_le (fW_le n k t 0) c
  have h2 : ((t : Int) + 1) * (c : Int) ≤ 1001 * 42 := Int.mul_le_mul (by omega) (by omega) (by omega) (by omega)
  omega

set_option maxRecDepth 4000 in
theorem rInts_c (a b : List Int) (ha : a.length ≤ 4611686018427387904) : PCalls Tryd.prog 29 [.sl a.length (a.map (.int .i64)), .sl b.length (b.map (.int .i64))] (· = [.val (.bool (decide (a = b)))]) := by
  refine pcalls_of_code (n := 26) az Tryd.func29 (by kernel_rfl) rfl rfl (Nat.le_of_ble_eq_true rfl) (by intro t u h; simp [Tryd.f29] at h) ?_
  refine code_seq (fun K1 hK1 => ?_)
  refine code_region ?_
  refine list_cons rfl (op_q (q_assign rfl (by decide)) ?_)
  refine list_nil ?_
  refine hK1 _ ?_; clear hK1 K1
  refine code_seq (fun K2 hK2 => ?_)
  refine code_seq (fun K3 hK3 => ?_)
  refine code_region ?_
  refine list_cons rfl (op_q (q_move rfl (by decide)) ?_)
  refine list_cons rfl (op_q (q_len_sl Tryd.underlying35 rfl rfl (by decide)) ?_)
  refine list_cons rfl (op_q (q_move rfl (by decide)) ?_)
  refine list_cons rfl (op_q (q_len_sl Tryd.underlying35 rfl rfl (by decide)) ?_)
  refine list_cons rfl (op_q (q_ne rfl rfl (by decide)) ?_)
  refine list_nil ?_
  refine hK3 _ ?_; clear hK3 K3
  refine code_cond_d rfl (fun h1 => ?_) (fun h1 => ?_)
  · skip
    (try simp only [Decidable.not_not] at h1)
    refine code_seq (fun K4 hK4 => ?_)
    refine code_region ?_
    refine list_cons rfl (op_q (q_assign rfl (by decide)) ?_)
    refine list_nil ?_
    refine hK4 _ ?_; clear hK4 K4
    refine code_ret ?_
    refine then_r ?_; clear hK2 K2
    refine ends_ret (cs := []) rfl rfl rfl rfl trivial ?_
    rw [decide_eq_false (fun e => h1 (by rw [e]))]
  (try simp only [Decidable.not_not] at h1)
  refine code_skip ?_
  refine hK2 _ ?_; clear hK2 K2
  refine code_seq (fun K5 hK5 => ?_)
  refine code_seq (fun K6 hK6 => ?_)
  refine code_region ?_
  refine list_cons rfl (op_q (q_assign rfl (by decide)) ?_)
  refine list_nil ?_
  refine hK6 _ ?_; clear hK6 K6
  refine code_block ?_
  refine code_loop (X := Bool × Int) (fun x => [(0, .par 0 (.sl a.length (a.map (.int .i64)))), (1, .par 1 (.sl b.length (b.map (.int .i64)))), (4, .val (.bool x.1)), (5, .val (.int .i64 x.2))]) (fun x => 0 ≤ x.2 ∧ x.2 ≤ a.length ∧ ∀ j, j < x.2.toNat → a.getD j 0 = b.getD j 0) (fun x => a.length - x.2.toNat) (_, _) (imp_covers ⟨rfl, rfl, rfl, rfl, trivial⟩) ?_ ?_
  · (try dsimp only)
    refine ⟨by omega, by omega, fun j hj => by simp at hj⟩
  · intro x hI
    obtain ⟨t4, i⟩ := x
    replace hI : 0 ≤ i ∧ i ≤ a.length ∧ ∀ j, j < i.toNat → a.getD j 0 = b.getD j 0 := hI
    show codeT _ _ _ [(0, .par 0 (.sl a.length (a.map (.int .i64)))), (1, .par 1 (.sl b.length (b.map (.int .i64)))), (4, .val (.bool t4)), (5, .val (.int .i64 i))] _
    obtain ⟨i1, i2, i3⟩ := hI
    refine code_seq (fun K7 hK7 => ?_)
    refine code_seq (fun K8 hK8 => ?_)
    refine code_region ?_
    refine list_cons rfl (op_q (q_move rfl (by decide)) ?_)
    refine list_cons rfl (op_q (q_move rfl (by decide)) ?_)
    refine list_cons rfl (op_q (q_len_sl Tryd.underlying35 rfl rfl (by decide)) ?_)
    refine list_cons rfl (op_q (q_lt rfl rfl (by decide)) ?_)
    refine list_nil ?_
    refine hK8 _ ?_; clear hK8 K8
    refine code_cond_d rfl (fun h2 => ?_) (fun h2 => ?_)
    · skip
      (try simp only [Decidable.not_not] at h2)
      refine code_skip ?_
      refine hK7 _ ?_; clear hK7 K7
      refine code_seq (fun K9 hK9 => ?_)
      refine code_block ?_
      refine code_seq (fun K10 hK10 => ?_)
      refine code_draw (by kernel_rfl) (by kernel_rfl) ?_
      refine draw_q rfl (q_move rfl (by decide)) ?_
      refine draw_q rfl (q_move rfl (by decide)) ?_
      refine draw_q rfl (q_indexAddr_rd sl_35 rfl (.inl ⟨_, rfl, rfl⟩) rfl (by omega) (by omega) (by decide)) ?_
      refine draw_q rfl (q_load_rd one_3 rfl (.inl ⟨_, (by first | rfl | exact congrArg (SV.rpar _) (drop_map1 _ 0 _ (by first | omega | (simp; omega)))), rfl⟩) (by decide)) ?_
      refine draw_q rfl (q_move rfl (by decide)) ?_
      refine draw_q rfl (q_move rfl (by decide)) ?_
      refine draw_q rfl (q_indexAddr_rd sl_35 rfl (.inl ⟨_, rfl, rfl⟩) rfl (by omega) (by omega) (by decide)) ?_
      refine draw_q rfl (q_load_rd one_3 rfl (.inl ⟨_, (by first | rfl | exact congrArg (SV.rpar _) (drop_map1 _ 0 _ (by first | omega | (simp; omega)))), rfl⟩) (by decide)) ?_
      refine draw_q rfl (q_ne rfl rfl (by decide)) ?_
      refine draw_nil ?_
      refine hK10 _ ?_; clear hK10 K10
      refine codeT.imp (σ' := [(0, _), (1, _), (4, _), (5, _), (25, _)]) ?_ (imp_covers ⟨rfl, rfl, rfl, rfl, rfl, trivial⟩)
      refine code_cond_d rfl (fun h3 => ?_) (fun h3 => ?_)
      · skip
        (try simp only [Decidable.not_not] at h3)
        refine code_seq (fun K11 hK11 => ?_)
        refine code_region ?_
        refine list_cons rfl (op_q (q_assign rfl (by decide)) ?_)
        refine list_nil ?_
        refine hK11 _ ?_; clear hK11 K11
        refine code_ret ?_
        refine blk_r ?_
        refine then_r ?_; clear hK9 K9
        refine then_r ?_
        refine blk_r ?_
        refine then_r ?_; clear hK5 K5
        refine ends_ret (cs := []) rfl rfl rfl rfl trivial ?_
        rw [decide_eq_false (list_ne_ofI 0 i.toNat h3)]
      (try simp only [Decidable.not_not] at h3)
      refine code_skip ?_
      refine blk_n ?_
      refine hK9 _ ?_; clear hK9 K9
      refine code_region ?_
      refine list_cons rfl (op_q (q_move rfl (by decide)) ?_)
      refine list_cons rfl (op_q (by first | exact q_addI rfl rfl (by decide) (by omega) (by omega) | exact q_ib rfl rfl rfl (by decide)) ?_)
      refine list_cons rfl (op_q (q_assign rfl (by decide)) ?_)
      refine list_nil ?_
      refine then_n ⟨(_, _), imp_covers ⟨rfl, rfl, rfl, rfl, trivial⟩, ?_, ?_⟩
      · (try dsimp only)
        refine ⟨by omega, by omega, fun j hj => ?_⟩
        by_cases e : j = i.toNat
        · subst e; exact h3
        · exact i3 j (by omega)
      · (try dsimp only); omega
    (try simp only [Decidable.not_not] at h2)
    refine code_exit ?_
    refine then_x ?_; clear hK7 K7
    refine then_x ?_
    refine blk_hit ?_
    refine hK5 _ ?_; clear hK5 K5
    refine code_seq (fun K12 hK12 => ?_)
    refine code_region ?_
    refine list_cons rfl (op_q (q_assign rfl (by decide)) ?_)
    refine list_nil ?_
    refine hK12 _ ?_; clear hK12 K12
    refine code_ret ?_
    refine ends_ret (cs := []) rfl rfl rfl rfl trivial ?_
    rw [decide_eq_true (list_eq_ofI 0 a b (by omega) fun j hj => i3 j (by omega))]

set_option maxRecDepth 4000 in
theorem rBig_c (code : List UInt8) : PCalls Tryd.prog 15 [.sl code.length (bytesP code)] (· = [.val (.bool (decide (65536 < code.length)))]) := by
  refine pcalls_of_code (n := 6) az Tryd.func15 (by kernel_rfl) rfl rfl (Nat.le_of_ble_eq_true rfl) (by intro t u h; simp [Tryd.f15] at h) ?_
  refine code_seq (fun K1 hK1 => ?_)
  refine code_region ?_
  refine list_cons rfl (op_q (q_assign rfl (by decide)) ?_)
  refine list_nil ?_
  refine hK1 _ ?_; clear hK1 K1
  refine code_seq (fun K2 hK2 => ?_)
  refine code_region ?_
  refine list_cons rfl (op_q (q_move rfl (by decide)) ?_)
  refine list_cons rfl (op_q (q_len_sl Tryd.underlying22 rfl rfl (by decide)) ?_)
  refine list_cons rfl (op_q (q_gt rfl rfl (by decide)) ?_)
  refine list_cons rfl (op_q (q_assign rfl (by decide)) ?_)
  refine list_nil ?_
  refine hK2 _ ?_; clear hK2 K2
  refine code_ret ?_
  refine ends_ret (cs := []) rfl rfl rfl rfl trivial ?_
  first | rfl | (congr 3; exact decide_eq_decide.mpr (by omega))

theorem row7_at (l : List Int) {j : Nat} (h : j * 7 + 7 ≤ l.length) : List.take 7 (List.drop (j * 7) (l.map (PV.int .i64))) = [.int .i64 (l.getD (j * 7 + 0) 0), .int .i64 (l.getD (j * 7 + 1) 0), .int .i64 (l.getD (j * 7 + 2) 0), .int .i64 (l.getD (j * 7 + 3) 0), .int .i64 (l.getD (j * 7 + 4) 0), .int .i64 (l.getD (j * 7 + 5) 0), .int .i64 (l.getD (j * 7 + 6) 0)] := by
  rw [← List.map_drop, ← List.map_take]
  have e : (l.drop (j * 7)).take 7 = [l.getD (j * 7 + 0) 0, l.getD (j * 7 + 1) 0, l.getD (j * 7 + 2) 0, l.getD (j * 7 + 3) 0, l.getD (j * 7 + 4) 0, l.getD (j * 7 + 5) 0, l.getD (j * 7 + 6) 0] := by
    refine list_eq_ofI 0 _ _ (by simp; omega) fun k hk => ?_
    have hk7 : k < 7 := by simp at hk; omega
    have : (List.take 7 (List.drop (j * 7) l)).getD k 0 = l.getD (j * 7 + k) 0 := by
      rw [List.getD_eq_getElem?_getD, List.getElem?_take, if_pos hk7, List.getElem?_drop, ← List.getD_eq_getElem?_getD]
    rw [this]
    have : k = 0 ∨ k = 1 ∨ k = 2 ∨ k = 3 ∨ k = 4 ∨ k = 5 ∨ k = 6 := by omega
    rcases this with rfl | rfl | rfl | rfl | rfl | rfl | rfl <;> rfl
  rw [e]; rfl

set_option maxRecDepth 4000 in
theorem rSevens_c (l : List Int) (m : Nat) (hl : l.length = m * 7) (hm : m ≤ 1048576) : PCalls Tryd.prog 21 [.sl m (l.map (.int .i64)), .sl m (l.map (.int .i64))] (· = [.val (.bool true)]) := by
  refine pcalls_of_code (n := 26) az Tryd.func21 (by kernel_rfl) rfl rfl (Nat.le_of_ble_eq_true rfl) (by intro t u h; simp [Tryd.f21] at h) ?_
  refine code_seq (fun K1 hK1 => ?_)
  refine code_region ?_
  refine list_cons rfl (op_q (q_assign rfl (by decide)) ?_)
  refine list_nil ?_
  refine hK1 _ ?_; clear hK1 K1
  refine code_seq (fun K2 hK2 => ?_)
  refine code_seq (fun K3 hK3 => ?_)
  refine code_region ?_
  refine list_cons rfl (op_q (q_move rfl (by decide)) ?_)
  refine list_cons rfl (op_q (q_len_sl Tryd.underlying28 rfl rfl (by decide)) ?_)
  refine list_cons rfl (op_q (q_move rfl (by decide)) ?_)
  refine list_cons rfl (op_q (q_len_sl Tryd.underlying28 rfl rfl (by decide)) ?_)
  refine list_cons rfl (op_q (q_ne rfl rfl (by decide)) ?_)
  refine list_nil ?_
  refine hK3 _ ?_; clear hK3 K3
  refine code_cond_d rfl (fun h1 => ?_) (fun h1 => ?_)
  · skip
    (try simp only [Decidable.not_not] at h1)
    refine code_seq (fun K4 hK4 => ?_)
    refine code_region ?_
    refine list_cons rfl (op_q (q_assign rfl (by decide)) ?_)
    refine list_nil ?_
    refine hK4 _ ?_; clear hK4 K4
    refine code_ret ?_
    refine then_r ?_; clear hK2 K2
    refine ends_ret (cs := []) rfl rfl rfl rfl trivial ?_
    first | rfl | exact absurd rfl h1 | exact absurd ⟨rfl, rfl, rfl, rfl, rfl, rfl, rfl, trivial⟩ h1 | exact absurd trivial h1
  (try simp only [Decidable.not_not] at h1)
  refine code_skip ?_
  refine hK2 _ ?_; clear hK2 K2
  refine code_seq (fun K5 hK5 => ?_)
  refine code_seq (fun K6 hK6 => ?_)
  refine code_region ?_
  refine list_cons rfl (op_q (q_assign rfl (by decide)) ?_)
  refine list_nil ?_
  refine hK6 _ ?_; clear hK6 K6
  refine code_block ?_
  refine code_loop (X := Bool × Int) (fun x => [(0, .par 0 (.sl m (l.map (.int .i64)))), (1, .par 1 (.sl m (l.map (.int .i64)))), (4, .val (.bool x.1)), (5, .val (.int .i64 x.2))]) (fun x => 0 ≤ x.2 ∧ x.2 ≤ m) (fun x => m - x.2.toNat) (_, _) (imp_covers ⟨rfl, rfl, rfl, rfl, trivial⟩) ?_ ?_
  · (try dsimp only)
    exact ⟨by omega, by omega⟩
  · intro x hI
    obtain ⟨t4, i⟩ := x
    replace hI : 0 ≤ i ∧ i ≤ m := hI
    show codeT _ _ _ [(0, .par 0 (.sl m (l.map (.int .i64)))), (1, .par 1 (.sl m (l.map (.int .i64)))), (4, .val (.bool t4)), (5, .val (.int .i64 i))] _
    obtain ⟨i1, i2⟩ := hI
    refine code_seq (fun K7 hK7 => ?_)
    refine code_seq (fun K8 hK8 => ?_)
    refine code_region ?_
    refine list_cons rfl (op_q (q_move rfl (by decide)) ?_)
    refine list_cons rfl (op_q (q_move rfl (by decide)) ?_)
    refine list_cons rfl (op_q (q_len_sl Tryd.underlying28 rfl rfl (by decide)) ?_)
    refine list_cons rfl (op_q (q_lt rfl rfl (by decide)) ?_)
    refine list_nil ?_
    refine hK8 _ ?_; clear hK8 K8
    refine code_cond_d rfl (fun h2 => ?_) (fun h2 => ?_)
    · skip
      (try simp only [Decidable.not_not] at h2)
      refine code_skip ?_
      refine hK7 _ ?_; clear hK7 K7
      refine code_seq (fun K9 hK9 => ?_)
      refine code_block ?_
      refine code_seq (fun K10 hK10 => ?_)
      refine code_draw (by kernel_rfl) (by kernel_rfl) ?_
      refine draw_q rfl (q_move rfl (by decide)) ?_
      refine draw_q rfl (q_move rfl (by decide)) ?_
      refine draw_q rfl (q_indexAddr_rd sl_28 rfl (.inl ⟨_, rfl, rfl⟩) rfl (by omega) (by omega) (by decide)) ?_
      refine draw_q rfl (q_load_rd_aggE agg_43 rfl (.inl ⟨_, rfl⟩) (by first | decide | omega | exact Nat.le_refl _ | (simp; done) | (simp; omega)) (row7_at l (by omega)) rfl (by decide)) ?_
      refine draw_q rfl (q_move rfl (by decide)) ?_
      refine draw_q rfl (q_move rfl (by decide)) ?_
      refine draw_q rfl (q_indexAddr_rd sl_28 rfl (.inl ⟨_, rfl, rfl⟩) rfl (by omega) (by omega) (by decide)) ?_
      refine draw_q rfl (q_load_rd_aggE agg_43 rfl (.inl ⟨_, rfl⟩) (by first | decide | omega | exact Nat.le_refl _ | (simp; done) | (simp; omega)) (row7_at l (by omega)) rfl (by decide)) ?_
      refine draw_q rfl (q_aggne (by decide) agg_43 eqty_43 eqg_43 rfl rfl (by first | exact ⟨_, _, rfl, ⟨_, rfl⟩, ⟨_, _, rfl, ⟨_, rfl⟩, ⟨_, _, rfl, ⟨_, rfl⟩, ⟨_, _, rfl, ⟨_, rfl⟩, ⟨_, _, rfl, ⟨_, rfl⟩, ⟨_, _, rfl, ⟨_, rfl⟩, ⟨_, _, rfl, ⟨_, rfl⟩, trivial⟩⟩⟩⟩⟩⟩⟩) (by first | exact ⟨_, _, rfl, ⟨_, rfl⟩, ⟨_, _, rfl, ⟨_, rfl⟩, ⟨_, _, rfl, ⟨_, rfl⟩, ⟨_, _, rfl, ⟨_, rfl⟩, ⟨_, _, rfl, ⟨_, rfl⟩, ⟨_, _, rfl, ⟨_, rfl⟩, ⟨_, _, rfl, ⟨_, rfl⟩, trivial⟩⟩⟩⟩⟩⟩⟩) rfl rfl (by decide)) ?_
      refine draw_nil ?_
      refine hK10 _ ?_; clear hK10 K10
      refine codeT.imp (σ' := [(0, _), (1, _), (4, _), (5, _), (25, _)]) ?_ (imp_covers ⟨rfl, rfl, rfl, rfl, rfl, trivial⟩)
      refine code_cond_d rfl (fun h3 => ?_) (fun h3 => ?_)
      · skip
        (try simp only [Decidable.not_not] at h3)
        refine code_seq (fun K11 hK11 => ?_)
        refine code_region ?_
        refine list_cons rfl (op_q (q_assign rfl (by decide)) ?_)
        refine list_nil ?_
        refine hK11 _ ?_; clear hK11 K11
        refine code_ret ?_
        refine blk_r ?_
        refine then_r ?_; clear hK9 K9
        refine then_r ?_
        refine blk_r ?_
        refine then_r ?_; clear hK5 K5
        refine ends_ret (cs := []) rfl rfl rfl rfl trivial ?_
        first | rfl | exact absurd rfl h3 | exact absurd ⟨rfl, rfl, rfl, rfl, rfl, rfl, rfl, trivial⟩ h3 | exact absurd trivial h3
      (try simp only [Decidable.not_not] at h3)
      refine code_skip ?_
      refine blk_n ?_
      refine hK9 _ ?_; clear hK9 K9
      refine code_region ?_
      refine list_cons rfl (op_q (q_move rfl (by decide)) ?_)
      refine list_cons rfl (op_q (by first | exact q_addI rfl rfl (by decide) (by omega) (by omega) | exact q_ib rfl rfl rfl (by decide)) ?_)
      refine list_cons rfl (op_q (q_assign rfl (by decide)) ?_)
      refine list_nil ?_
      refine then_n ⟨(_, _), imp_covers ⟨rfl, rfl, rfl, rfl, trivial⟩, ?_, ?_⟩
      · (try dsimp only)
        exact ⟨by omega, by omega⟩
      · (try dsimp only); omega
    (try simp only [Decidable.not_not] at h2)
    refine code_exit ?_
    refine then_x ?_; clear hK7 K7
    refine then_x ?_
    refine blk_hit ?_
    refine hK5 _ ?_; clear hK5 K5
    refine code_seq (fun K12 hK12 => ?_)
    refine code_region ?_
    refine list_cons rfl (op_q (q_assign rfl (by decide)) ?_)
    refine list_nil ?_
    refine hK12 _ ?_; clear hK12 K12
    refine code_ret ?_
    refine ends_ret (cs := []) rfl rfl rfl rfl trivial ?_
    first | rfl | exact absurd rfl h2 | exact absurd ⟨rfl, rfl, rfl, rfl, rfl, rfl, rfl, trivial⟩ h2 | exact absurd trivial h2

set_option maxRecDepth 8000 in
set_option maxHeartbeats 16000000 in
theorem FnCounters_law (code : List UInt8) (p0 : code.length ≤ 9223372036854775807) : MCalls Tryd.prog 3 true none [.sl code.length (bytesP code)] fun rs _ => rs = [.val (.bool true)] := by
  refine mcalls_of_code (n := 370) az Tryd.func3 (by kernel_rfl) rfl rfl (Nat.le_of_ble_eq_true rfl) (by intro t u h; simp [Tryd.f3] at h) ?_
  refine code_seq (fun K1 hK1 => ?_)
  refine code_region ?_
  refine list_cons rfl (op_q (q_assign rfl (by decide)) ?_)
  refine list_nil ?_
  refine hK1 _ ?_; clear hK1 K1
  refine code_seq (fun K2 hK2 => ?_)
  refine code_seq (fun K3 hK3 => ?_)
  refine code_region ?_
  refine list_cons rfl (op_q (q_move rfl (by decide)) ?_)
  refine list_cons rfl (op_call _ (rBig_c _) rfl rfl (by decide) (by decide) (by decide) rfl ?_)
  rintro _ rfl
  refine list_nil ?_
  refine hK3 _ ?_; clear hK3 K3
  refine codeT.imp (σ' := [(0, .ext _), (2, .val (.bool _)), (56, .val (.bool _))]) ?_ (imp_covers ⟨rfl, rfl, rfl, trivial⟩)
  refine code_cond_d rfl (fun h1 => ?_) (fun h1 => ?_)
  · skip
    (try simp only [Decidable.not_not] at h1); (try have hG : Cn n0 k ∧ 0 ≤ s ∧ s ≤ 1000 := h1)
    refine code_seq (fun K4 hK4 => ?_)
    refine code_region ?_
    refine list_cons rfl (op_q (q_assign rfl (by decide)) ?_)
    refine list_nil ?_
    refine hK4 _ ?_; clear hK4 K4
    refine code_ret ?_
    refine then_r ?_; clear hK2 K2
    refine ends_ret (cs := []) rfl rfl rfl rfl trivial ?_
    first
      | rfl
      | exact absurd hG.1 (by assumption)
      | (have hps : psum (fW n0 k s.toNat 0) (i.toNat * 7) = runC n0 k s.toNat := by
           rw [show i.toNat = k.toNat by have := hG.1.1; omega]; exact wear_sum n0 k s.toNat
         first
           | rw [decide_eq_true hps]
           | exact absurd hps (by assumption)
           | (have hs1 : s = 1 := by assumption
              subst hs1
              rw [decide_eq_true (show (if Cn n0 k then stepC n0 k else 0) = runC n0 k (Int.toNat 1) by rw [if_pos hG.1]; exact (runC_1 hG.1).symm)]; done))
  (try simp only [Decidable.not_not] at h1); (try have hG : Cn n0 k ∧ 0 ≤ s ∧ s ≤ 1000 := h1)
  refine code_skip ?_
  refine hK2 _ ?_; clear hK2 K2
  refine code_seq (fun K5 hK5 => ?_)
  refine code_region ?_
  refine list_cons rfl (op_q (q_move rfl (by decide)) ?_)
  refine list_cons rfl (op_callM (DrawRunChanges_c _ ?_) (.tmp 0) 0 [] [.tmp 58] _ rfl rfl (by intro y hy; cases hy) (by decide) (by decide) (by decide) rfl (by intro h; cases h) ?_)
  · first | assumption | omega | (simp; omega)
  rintro _ _ ⟨n0, s, k, hs, rfl⟩
  refine list_cons rfl (op_q (q_move rfl (by decide)) ?_)
  refine list_cons rfl (op_q (q_extract rfl rfl (by decide)) ?_)
  refine list_cons rfl (op_q (q_extract rfl rfl (by decide)) ?_)
  refine list_cons rfl (op_q (q_extract rfl rfl (by decide)) ?_)
  refine list_cons rfl (op_q (q_assign rfl (by decide)) ?_)
  refine list_cons rfl (op_q (q_assign rfl (by decide)) ?_)
  refine list_cons rfl (op_q (q_assign rfl (by decide)) ?_)
  refine list_nil ?_
  refine hK5 _ ?_; clear hK5 K5
  refine codeT.imp (σ' := [(0, .ext _), (2, .val (.bool _)), (3, .val (.int .i64 _)), (4, .val (.int .i64 _)), (5, .val (.int .i64 _))]) ?_ (imp_covers ⟨rfl, rfl, rfl, rfl, rfl, trivial⟩)
  refine code_seq (fun K6 hK6 => ?_)
  refine code_region ?_
  refine list_cons rfl (op_q (q_move rfl (by decide)) ?_)
  refine list_cons rfl (op_q (q_move rfl (by decide)) ?_)
  refine list_cons rfl (op_q (q_move rfl (by decide)) ?_)
  refine list_cons rfl (op_call _ (impl_RunChanges _ _ _) rfl rfl (by decide) (by decide) (by decide) rfl ?_)
  rintro _ rfl
  refine list_cons rfl (op_q (q_move rfl (by decide)) ?_)
  refine list_cons rfl (op_q (q_extract rfl rfl (by decide)) ?_)
  refine list_cons rfl (op_q (q_extract rfl rfl (by decide)) ?_)
  refine list_cons rfl (op_q (q_assign rfl (by decide)) ?_)
  refine list_cons rfl (op_q (q_assign rfl (by decide)) ?_)
  refine list_nil ?_
  refine hK6 _ ?_; clear hK6 K6
  refine codeT.imp (σ' := [(0, .ext _), (2, .val (.bool _)), (3, .val (.int .i64 _)), (4, .val (.int .i64 _)), (5, .val (.int .i64 _)), (6, .val (.int .i64 _)), (7, .val (.bool _))]) ?_ (imp_covers ⟨rfl, rfl, rfl, rfl, rfl, rfl, rfl, trivial⟩)
  refine code_seq (fun K7 hK7 => ?_)
  refine code_seq (fun K8 hK8 => ?_)
  refine code_region ?_
  refine list_cons rfl (op_q (q_move rfl (by decide)) ?_)
  refine list_cons rfl (op_q (q_move rfl (by decide)) ?_)
  refine list_cons rfl (op_q (q_move rfl (by decide)) ?_)
  refine list_cons rfl (op_call _ (spec_RunChanges _ _ _) rfl rfl (by decide) (by decide) (by decide) rfl ?_)
  rintro _ rfl
  refine list_cons rfl (op_q (q_move rfl (by decide)) ?_)
  refine list_cons rfl (op_q (q_extract rfl rfl (by decide)) ?_)
  refine list_cons rfl (op_q (q_extract rfl rfl (by decide)) ?_)
  refine list_cons rfl (op_q (q_assign rfl (by decide)) ?_)
  refine list_cons rfl (op_q (q_assign rfl (by decide)) ?_)
  refine list_nil ?_
  refine hK8 _ ?_; clear hK8 K8
  refine codeT.imp (σ' := [(0, .ext _), (2, .val (.bool _)), (3, .val (.int .i64 _)), (4, .val (.int .i64 _)), (5, .val (.int .i64 _)), (6, .val (.int .i64 _)), (7, .val (.bool _)), (8, .val (.int .i64 _)), (9, .val (.bool _))]) ?_ (imp_covers ⟨rfl, rfl, rfl, rfl, rfl, rfl, rfl, rfl, rfl, trivial⟩)
  refine code_seq (fun K9 hK9 => ?_)
  refine code_region ?_
  refine list_cons rfl (op_q (q_move rfl (by decide)) ?_)
  refine list_cons rfl (op_q (q_move rfl (by decide)) ?_)
  refine list_cons rfl (op_q (q_ne rfl rfl (by decide)) ?_)
  refine list_cons rfl (op_q (q_move rfl (by decide)) ?_)
  refine list_guard_d rfl rfl rfl rfl (by decide) rfl (by decide) (fun h2 => ?_) (fun h2 => ?_)
  · simp only [Bool.false_eq_true, if_true, if_false, Decidable.not_not] at h2
    (try simp only [Decidable.not_not] at h2); (try have hG : Cn n0 k ∧ 0 ≤ s ∧ s ≤ 1000 := h2)
    refine id (op_q (q_move rfl (by decide)) ?_)
    refine list_guard_y rfl rfl rfl rfl (by decide) rfl ?_
    refine id (op_q (q_move rfl (by decide)) ?_)
    refine list_guard_y rfl rfl rfl rfl (by decide) rfl ?_
    refine id (op_q (q_bne Tryd.underlying4 rfl rfl (by decide)) ?_)
    refine list_cons rfl (op_q (q_pick rfl rfl (by decide)) ?_)
    refine list_nil ?_
    refine hK9 _ ?_; clear hK9 K9
    refine codeT.imp (σ' := [(0, .ext _), (2, .val (.bool _)), (3, .val (.int .i64 _)), (4, .val (.int .i64 _)), (5, .val (.int .i64 _)), (6, .val (.int .i64 _)), (7, .val (.bool _)), (8, .val (.int .i64 _)), (9, .val (.bool _)), (84, .val (.bool _))]) ?_ (imp_covers ⟨rfl, rfl, rfl, rfl, rfl, rfl, rfl, rfl, rfl, rfl, trivial⟩)
    refine code_cond_d rfl (fun h3 => ?_) (fun h3 => ?_)
    · skip
      (try simp only [Decidable.not_not] at h3); (try have hG : Cn n0 k ∧ 0 ≤ s ∧ s ≤ 1000 := h3)
      exfalso
      first | exact absurd rfl h3 | exact h3 trivial | (simp at h3; done)
    (try simp only [Decidable.not_not] at h3); (try have hG : Cn n0 k ∧ 0 ≤ s ∧ s ≤ 1000 := h3)
    refine code_skip ?_
    refine hK7 _ ?_; clear hK7 K7
    refine code_seq (fun K10 hK10 => ?_)
    refine code_region ?_
    refine list_cons rfl (op_q (q_move rfl (by decide)) ?_)
    refine list_cons rfl (op_q (q_move rfl (by decide)) ?_)
    refine list_cons rfl (op_q (q_move rfl (by decide)) ?_)
    refine list_cons rfl (op_call _ (impl_WearOf _ _ _) rfl rfl (by decide) (by decide) (by decide) rfl ?_)
    rintro _ rfl
    refine list_cons rfl (op_q (q_move rfl (by decide)) ?_)
    refine list_cons rfl (op_q (q_extract rfl rfl (by decide)) ?_)
    refine list_cons rfl (op_q (q_extract rfl rfl (by decide)) ?_)
    refine list_cons rfl (op_q (q_assign rfl (by decide)) ?_)
    refine list_cons rfl (op_q (q_assign rfl (by decide)) ?_)
    refine list_nil ?_
    refine hK10 _ ?_; clear hK10 K10
    refine codeT.imp (σ' := [(0, .ext _), (2, .val (.bool _)), (3, .val (.int .i64 _)), (4, .val (.int .i64 _)), (5, .val (.int .i64 _)), (6, .val (.int .i64 _)), (7, .val (.bool _)), (8, .val (.int .i64 _)), (9, .val (.bool _)), (10, .own 89 43 7 _ _), (11, .val (.bool _))]) ?_ (imp_covers ⟨rfl, rfl, rfl, rfl, rfl, rfl, rfl, rfl, rfl, rfl, rfl, trivial⟩)
    refine code_seq (fun K11 hK11 => ?_)
    refine code_seq (fun K12 hK12 => ?_)
    refine code_region ?_
    refine list_cons rfl (op_q (q_move rfl (by decide)) ?_)
    refine list_cons rfl (op_q (q_move rfl (by decide)) ?_)
    refine list_cons rfl (op_q (q_move rfl (by decide)) ?_)
    refine list_cons rfl (op_call _ (spec_WearOf _ _ _) rfl rfl (by decide) (by decide) (by decide) rfl ?_)
    rintro _ rfl
    refine list_cons rfl (op_q (q_move rfl (by decide)) ?_)
    refine list_cons rfl (op_q (q_extract rfl rfl (by decide)) ?_)
    refine list_cons rfl (op_q (q_extract rfl rfl (by decide)) ?_)
    refine list_cons rfl (op_q (q_assign rfl (by decide)) ?_)
    refine list_cons rfl (op_q (q_assign rfl (by decide)) ?_)
    refine list_nil ?_
    refine hK12 _ ?_; clear hK12 K12
    refine codeT.imp (σ' := [(0, .ext _), (2, .val (.bool _)), (3, .val (.int .i64 _)), (4, .val (.int .i64 _)), (5, .val (.int .i64 _)), (6, .val (.int .i64 _)), (7, .val (.bool _)), (8, .val (.int .i64 _)), (9, .val (.bool _)), (10, .own 89 43 7 _ _), (11, .val (.bool _)), (12, .own 96 43 7 _ _), (13, .val (.bool _))]) ?_ (imp_covers ⟨rfl, rfl, rfl, rfl, rfl, rfl, rfl, rfl, rfl, rfl, rfl, rfl, rfl, trivial⟩)
    refine code_seq (fun K13 hK13 => ?_)
    refine code_region ?_
    refine list_cons rfl (op_q (q_move rfl (by decide)) ?_)
    refine list_cons rfl (op_q (q_move rfl (by decide)) ?_)
    refine list_cons rfl (op_q (q_bne Tryd.underlying4 rfl rfl (by decide)) ?_)
    refine list_cons rfl (op_q (q_move rfl (by decide)) ?_)
    refine list_guard_d rfl rfl rfl rfl (by decide) rfl (by decide) (fun h4 => ?_) (fun h4 => ?_)
    · simp only [Bool.false_eq_true, if_true, if_false, Decidable.not_not] at h4
      (try simp only [Decidable.not_not] at h4); (try have hG : Cn n0 k ∧ 0 ≤ s ∧ s ≤ 1000 := h4)
      refine id (op_q (q_move rfl (by decide)) ?_)
      refine list_guard_y rfl rfl rfl rfl (by decide) rfl ?_
      refine id (op_q (q_move rfl (by decide)) ?_)
      refine list_guard_y rfl rfl rfl rfl (by decide) rfl ?_
      refine id (op_q (q_bne Tryd.underlying4 rfl rfl (by decide)) ?_)
      refine list_cons rfl (op_q (q_pick rfl rfl (by decide)) ?_)
      refine list_cons rfl (op_q (q_move rfl (by decide)) ?_)
      refine list_guard_d rfl rfl rfl rfl (by decide) rfl (by decide) (fun h5 => ?_) (fun h5 => ?_)
      · simp only [Bool.false_eq_true, if_true, if_false, Decidable.not_not] at h5
        (try simp only [Decidable.not_not] at h5); (try have hG : Cn n0 k ∧ 0 ≤ s ∧ s ≤ 1000 := h5)
        refine id (op_q (q_move rfl (by decide)) ?_)
        refine list_guard_y rfl rfl rfl rfl (by decide) rfl ?_
        refine id (op_q (q_move rfl (by decide)) ?_)
        refine list_guard_y rfl rfl rfl rfl (by decide) rfl ?_
        refine id (op_call _ (rSevens_c _ _ (wearI_len _ _ _) (wearI_le _ _ _)) rfl rfl (by decide) (by decide) (by decide) rfl ?_)
        rintro _ rfl
        refine list_guard_y rfl rfl rfl rfl (by decide) rfl ?_
        refine id (op_q (by first | exact q_notd rfl (by decide) | exact q_not rfl (by decide)) ?_)
        refine list_cons rfl (op_q (q_pick rfl rfl (by decide)) ?_)
        refine list_nil ?_
        refine hK13 _ ?_; clear hK13 K13
        refine codeT.imp (σ' := [(0, .ext _), (2, .val (.bool _)), (3, .val (.int .i64 _)), (4, .val (.int .i64 _)), (5, .val (.int .i64 _)), (6, .val (.int .i64 _)), (7, .val (.bool _)), (8, .val (.int .i64 _)), (9, .val (.bool _)), (10, .own 89 43 7 _ _), (11, .val (.bool _)), (12, .own 96 43 7 _ _), (13, .val (.bool _)), (112, .val (.bool _))]) ?_ (imp_covers ⟨rfl, rfl, rfl, rfl, rfl, rfl, rfl, rfl, rfl, rfl, rfl, rfl, rfl, rfl, trivial⟩)
        refine code_cond_f rfl ?_
        refine code_skip ?_
        refine hK11 _ ?_; clear hK11 K11
        refine code_seq (fun K14 hK14 => ?_)
        refine code_region ?_
        refine list_cons rfl (op_q (q_move rfl (by decide)) ?_)
        refine list_cons rfl (op_q (q_move rfl (by decide)) ?_)
        refine list_cons rfl (op_q (q_move rfl (by decide)) ?_)
        refine list_cons rfl (op_call _ (impl_LightOf _ _ _) rfl rfl (by decide) (by decide) (by decide) rfl ?_)
        rintro _ rfl
        refine list_cons rfl (op_q (q_move rfl (by decide)) ?_)
        refine list_cons rfl (op_q (q_extract rfl rfl (by decide)) ?_)
        refine list_cons rfl (op_q (q_extract rfl rfl (by decide)) ?_)
        refine list_cons rfl (op_q (q_assign rfl (by decide)) ?_)
        refine list_cons rfl (op_q (q_assign rfl (by decide)) ?_)
        refine list_nil ?_
        refine hK14 _ ?_; clear hK14 K14
        refine codeT.imp (σ' := [(0, .ext _), (2, .val (.bool _)), (3, .val (.int .i64 _)), (4, .val (.int .i64 _)), (5, .val (.int .i64 _)), (6, .val (.int .i64 _)), (7, .val (.bool _)), (8, .val (.int .i64 _)), (9, .val (.bool _)), (10, .own 89 43 7 _ _), (11, .val (.bool _)), (12, .own 96 43 7 _ _), (13, .val (.bool _)), (14, .val (.int .i64 _)), (15, .val (.bool _))]) ?_ (imp_covers ⟨rfl, rfl, rfl, rfl, rfl, rfl, rfl, rfl, rfl, rfl, rfl, rfl, rfl, rfl, rfl, trivial⟩)
        refine codeT.imp (σ' := [(0, .ext _), (2, .val (.bool _)), (3, .val (.int .i64 _)), (4, .val (.int .i64 _)), (5, .val (.int .i64 _)), (6, .val (.int .i64 _)), (7, .val (.bool _)), (10, .own 89 43 7 _ _), (14, .val (.int .i64 _)), (15, .val (.bool _))]) ?_ (imp_covers ⟨rfl, rfl, rfl, rfl, rfl, rfl, rfl, rfl, rfl, rfl, trivial⟩)
        refine code_seq_same ?_ ?_
        · skip
          refine code_seq (fun K15 hK15 => ?_)
          refine code_region ?_
          refine list_cons rfl (op_q (q_move rfl (by decide)) ?_)
          refine list_cons rfl (op_q (q_move rfl (by decide)) ?_)
          refine list_cons rfl (op_q (q_move rfl (by decide)) ?_)
          refine list_cons rfl (op_call _ (spec_LightOf _ _ _) rfl rfl (by decide) (by decide) (by decide) rfl ?_)
          rintro _ rfl
          refine list_cons rfl (op_q (q_move rfl (by decide)) ?_)
          refine list_cons rfl (op_q (q_extract rfl rfl (by decide)) ?_)
          refine list_cons rfl (op_q (q_extract rfl rfl (by decide)) ?_)
          refine list_cons rfl (op_q (q_assign rfl (by decide)) ?_)
          refine list_cons rfl (op_q (q_assign rfl (by decide)) ?_)
          refine list_nil ?_
          refine hK15 _ ?_; clear hK15 K15
          refine codeT.imp (σ' := [(0, .ext _), (2, .val (.bool _)), (3, .val (.int .i64 _)), (4, .val (.int .i64 _)), (5, .val (.int .i64 _)), (6, .val (.int .i64 _)), (7, .val (.bool _)), (10, .own 89 43 7 _ _), (14, .val (.int .i64 _)), (15, .val (.bool _)), (16, .val (.int .i64 _)), (17, .val (.bool _))]) ?_ (imp_covers ⟨rfl, rfl, rfl, rfl, rfl, rfl, rfl, rfl, rfl, rfl, rfl, rfl, trivial⟩)
          refine code_seq (fun K16 hK16 => ?_)
          refine code_region ?_
          refine list_cons rfl (op_q (q_move rfl (by decide)) ?_)
          refine list_cons rfl (op_q (q_move rfl (by decide)) ?_)
          refine list_cons rfl (op_q (q_ne rfl rfl (by decide)) ?_)
          refine list_cons rfl (op_q (q_move rfl (by decide)) ?_)
          refine list_guard_d rfl rfl rfl rfl (by decide) rfl (by decide) (fun h6 => ?_) (fun h6 => ?_)
          · simp only [Bool.false_eq_true, if_true, if_false, Decidable.not_not] at h6
            (try simp only [Decidable.not_not] at h6); (try have hG : Cn n0 k ∧ 0 ≤ s ∧ s ≤ 1000 := h6)
            refine id (op_q (q_move rfl (by decide)) ?_)
            refine list_guard_y rfl rfl rfl rfl (by decide) rfl ?_
            refine id (op_q (q_move rfl (by decide)) ?_)
            refine list_guard_y rfl rfl rfl rfl (by decide) rfl ?_
            refine id (op_q (q_bne Tryd.underlying4 rfl rfl (by decide)) ?_)
            refine list_cons rfl (op_q (q_pick rfl rfl (by decide)) ?_)
            refine list_cons rfl (op_q (q_move rfl (by decide)) ?_)
            refine list_guard_d rfl rfl rfl rfl (by decide) rfl (by decide) (fun h7 => ?_) (fun h7 => ?_)
            · simp only [Bool.false_eq_true, if_true, if_false, Decidable.not_not] at h7
              (try simp only [Decidable.not_not] at h7); (try have hG : Cn n0 k ∧ 0 ≤ s ∧ s ≤ 1000 := h7)
              refine id (op_q (q_move rfl (by decide)) ?_)
              refine list_guard_y rfl rfl rfl rfl (by decide) rfl ?_
              refine id (op_q (q_move rfl (by decide)) ?_)
              refine list_guard_y rfl rfl rfl rfl (by decide) rfl ?_
              refine id (op_q (q_move rfl (by decide)) ?_)
              refine list_guard_d rfl rfl rfl rfl (by decide) rfl (by decide) (fun h8 => ?_) (fun h8 => ?_)
              · simp only [Bool.false_eq_true, if_true, if_false, Decidable.not_not] at h8
                (try simp only [Decidable.not_not] at h8); (try have hG : Cn n0 k ∧ 0 ≤ s ∧ s ≤ 1000 := h8)
                refine id (op_q (q_move rfl (by decide)) ?_)
                refine list_guard_y rfl rfl rfl rfl (by decide) rfl ?_
                refine id (op_q (q_gt rfl rfl (by decide)) ?_)
                refine list_guard_y rfl rfl rfl rfl (by decide) rfl ?_
                refine id (op_q (q_pick rfl rfl (by decide)) ?_)
                refine list_guard_y rfl rfl rfl rfl (by decide) rfl ?_
                refine id (op_q (q_bne Tryd.underlying4 rfl rfl (by decide)) ?_)
                refine list_cons rfl (op_q (q_pick rfl rfl (by decide)) ?_)
                refine list_nil ?_
                refine hK16 _ ?_; clear hK16 K16
                refine codeT.imp (σ' := [(0, .ext _), (2, .val (.bool _)), (3, .val (.int .i64 _)), (4, .val (.int .i64 _)), (5, .val (.int .i64 _)), (6, .val (.int .i64 _)), (7, .val (.bool _)), (10, .own 89 43 7 _ _), (14, .val (.int .i64 _)), (15, .val (.bool _)), (16, .val (.int .i64 _)), (17, .val (.bool _)), (143, .val (.bool _))]) ?_ (imp_covers ⟨rfl, rfl, rfl, rfl, rfl, rfl, rfl, rfl, rfl, rfl, rfl, rfl, rfl, trivial⟩)
                refine code_cond_d rfl (fun h9 => ?_) (fun h9 => ?_)
                · skip
                  (try simp only [Decidable.not_not] at h9); (try have hG : Cn n0 k ∧ 0 ≤ s ∧ s ≤ 1000 := h9)
                  exfalso
                  first | exact h9 (decide_eq_decide.mpr ⟨fun e => by have := hG.2; have := e.2; omega, fun e => ⟨hG, by omega⟩⟩) | exact h9 (decide_eq_false fun e => absurd e.1 (by assumption))
                (try simp only [Decidable.not_not] at h9); (try have hG : Cn n0 k ∧ 0 ≤ s ∧ s ≤ 1000 := h9)
                refine code_skip ?_
                exact then_n (imp_covers ⟨rfl, rfl, rfl, rfl, rfl, rfl, rfl, rfl, rfl, rfl, trivial⟩)
              simp only [Bool.false_eq_true, if_true, if_false, Decidable.not_not] at h8
              (try simp only [Decidable.not_not] at h8); (try have hG : Cn n0 k ∧ 0 ≤ s ∧ s ≤ 1000 := h8)
              refine list_guard_nT rfl rfl rfl rfl (by decide) (by decide) ?_
              refine list_guard_y rfl rfl rfl rfl (by decide) rfl ?_
              refine id (op_q (q_pick rfl rfl (by decide)) ?_)
              refine list_guard_y rfl rfl rfl rfl (by decide) rfl ?_
              refine id (op_q (q_bne Tryd.underlying4 rfl rfl (by decide)) ?_)
              refine list_cons rfl (op_q (q_pick rfl rfl (by decide)) ?_)
              refine list_nil ?_
              refine hK16 _ ?_; clear hK16 K16
              refine codeT.imp (σ' := [(0, .ext _), (2, .val (.bool _)), (3, .val (.int .i64 _)), (4, .val (.int .i64 _)), (5, .val (.int .i64 _)), (6, .val (.int .i64 _)), (7, .val (.bool _)), (10, .own 89 43 7 _ _), (14, .val (.int .i64 _)), (15, .val (.bool _)), (16, .val (.int .i64 _)), (17, .val (.bool _)), (143, .val (.bool _))]) ?_ (imp_covers ⟨rfl, rfl, rfl, rfl, rfl, rfl, rfl, rfl, rfl, rfl, rfl, rfl, rfl, trivial⟩)
              refine code_cond_d rfl (fun h10 => ?_) (fun h10 => ?_)
              · skip
                (try simp only [Decidable.not_not] at h10); (try have hG : Cn n0 k ∧ 0 ≤ s ∧ s ≤ 1000 := h10)
                exfalso
                first | exact h10 (decide_eq_decide.mpr ⟨fun e => by have := hG.2; have := e.2; omega, fun e => ⟨hG, by omega⟩⟩) | exact h10 (decide_eq_false fun e => absurd e.1 (by assumption))
              (try simp only [Decidable.not_not] at h10); (try have hG : Cn n0 k ∧ 0 ≤ s ∧ s ≤ 1000 := h10)
              refine code_skip ?_
              exact then_n (imp_covers ⟨rfl, rfl, rfl, rfl, rfl, rfl, rfl, rfl, rfl, rfl, trivial⟩)
            simp only [Bool.false_eq_true, if_true, if_false, Decidable.not_not] at h7
            (try simp only [Decidable.not_not] at h7); (try have hG : Cn n0 k ∧ 0 ≤ s ∧ s ≤ 1000 := h7)
            exfalso
            first | exact absurd rfl h7 | exact h7 trivial | (simp at h7; done)
          simp only [Bool.false_eq_true, if_true, if_false, Decidable.not_not] at h6
          (try simp only [Decidable.not_not] at h6); (try have hG : Cn n0 k ∧ 0 ≤ s ∧ s ≤ 1000 := h6)
          exfalso
          first | exact absurd rfl h6 | exact h6 trivial | (simp at h6; done)
        refine code_seq (fun K17 hK17 => ?_)
        refine code_region ?_
        refine list_cons rfl (op_q (q_move rfl (by decide)) ?_)
        refine list_cons rfl (op_callM (DrawStepChanges_c _ ?_) (.tmp 0) 0 [] [.tmp 145] _ rfl rfl (by intro y hy; cases hy) (by decide) (by decide) (by decide) rfl (by intro h; cases h) ?_)
        · first | assumption | omega | (simp; omega)
        rintro _ _ ⟨n, cells, rfl⟩
        refine list_cons rfl (op_q (q_move rfl (by decide)) ?_)
        refine list_cons rfl (op_q (q_extract rfl rfl (by decide)) ?_)
        refine list_cons rfl (op_q (q_extract rfl rfl (by decide)) ?_)
        refine list_cons rfl (op_q (q_assign rfl (by decide)) ?_)
        refine list_cons rfl (op_q (q_assign rfl (by decide)) ?_)
        refine list_nil ?_
        refine hK17 _ ?_; clear hK17 K17
        refine codeT.imp (σ' := [(0, .ext _), (2, .val (.bool _)), (3, .val (.int .i64 _)), (4, .val (.int .i64 _)), (5, .val (.int .i64 _)), (6, .val (.int .i64 _)), (7, .val (.bool _)), (10, .own 89 43 7 _ _), (14, .val (.int .i64 _)), (15, .val (.bool _)), (18, .val (.int .i64 _)), (19, .val (.int .i64 _))]) ?_ (imp_covers ⟨rfl, rfl, rfl, rfl, rfl, rfl, rfl, rfl, rfl, rfl, rfl, rfl, trivial⟩)
        refine code_seq (fun K18 hK18 => ?_)
        refine code_region ?_
        refine list_cons rfl (op_q (q_move rfl (by decide)) ?_)
        refine list_cons rfl (op_q (q_move rfl (by decide)) ?_)
        refine list_cons rfl (op_call _ (impl_StepChanges _ _) rfl rfl (by decide) (by decide) (by decide) rfl ?_)
        rintro _ rfl
        refine list_cons rfl (op_q (q_move rfl (by decide)) ?_)
        refine list_cons rfl (op_q (q_extract rfl rfl (by decide)) ?_)
        refine list_cons rfl (op_q (q_extract rfl rfl (by decide)) ?_)
        refine list_cons rfl (op_q (q_assign rfl (by decide)) ?_)
        refine list_cons rfl (op_q (q_assign rfl (by decide)) ?_)
        refine list_nil ?_
        refine hK18 _ ?_; clear hK18 K18
        refine codeT.imp (σ' := [(0, .ext _), (2, .val (.bool _)), (3, .val (.int .i64 _)), (4, .val (.int .i64 _)), (5, .val (.int .i64 _)), (6, .val (.int .i64 _)), (7, .val (.bool _)), (10, .own 89 43 7 _ _), (14, .val (.int .i64 _)), (15, .val (.bool _)), (18, .val (.int .i64 _)), (19, .val (.int .i64 _)), (20, .val (.int .i64 _)), (21, .val (.bool _))]) ?_ (imp_covers ⟨rfl, rfl, rfl, rfl, rfl, rfl, rfl, rfl, rfl, rfl, rfl, rfl, rfl, rfl, trivial⟩)
        refine code_seq (fun K19 hK19 => ?_)
        refine code_seq (fun K20 hK20 => ?_)
        refine code_region ?_
        refine list_cons rfl (op_q (q_move rfl (by decide)) ?_)
        refine list_cons rfl (op_q (q_move rfl (by decide)) ?_)
        refine list_cons rfl (op_call _ (spec_StepChanges _ _) rfl rfl (by decide) (by decide) (by decide) rfl ?_)
        rintro _ rfl
        refine list_cons rfl (op_q (q_move rfl (by decide)) ?_)
        refine list_cons rfl (op_q (q_extract rfl rfl (by decide)) ?_)
        refine list_cons rfl (op_q (q_extract rfl rfl (by decide)) ?_)
        refine list_cons rfl (op_q (q_assign rfl (by decide)) ?_)
        refine list_cons rfl (op_q (q_assign rfl (by decide)) ?_)
        refine list_nil ?_
        refine hK20 _ ?_; clear hK20 K20
        refine codeT.imp (σ' := [(0, .ext _), (2, .val (.bool _)), (3, .val (.int .i64 _)), (4, .val (.int .i64 _)), (5, .val (.int .i64 _)), (6, .val (.int .i64 _)), (7, .val (.bool _)), (10, .own 89 43 7 _ _), (14, .val (.int .i64 _)), (15, .val (.bool _)), (18, .val (.int .i64 _)), (19, .val (.int .i64 _)), (20, .val (.int .i64 _)), (21, .val (.bool _)), (22, .val (.int .i64 _)), (23, .val (.bool _))]) ?_ (imp_covers ⟨rfl, rfl, rfl, rfl, rfl, rfl, rfl, rfl, rfl, rfl, rfl, rfl, rfl, rfl, rfl, rfl, trivial⟩)
        refine code_seq (fun K21 hK21 => ?_)
        refine code_region ?_
        refine list_cons rfl (op_q (q_move rfl (by decide)) ?_)
        refine list_cons rfl (op_q (q_move rfl (by decide)) ?_)
        refine list_cons rfl (op_q (q_ne rfl rfl (by decide)) ?_)
        refine list_cons rfl (op_q (q_move rfl (by decide)) ?_)
        refine list_guard_d rfl rfl rfl rfl (by decide) rfl (by decide) (fun h11 => ?_) (fun h11 => ?_)
        · simp only [Bool.false_eq_true, if_true, if_false, Decidable.not_not] at h11
          (try simp only [Decidable.not_not] at h11); (try have hG : Cn n0 k ∧ 0 ≤ s ∧ s ≤ 1000 := h11)
          refine id (op_q (q_move rfl (by decide)) ?_)
          refine list_guard_y rfl rfl rfl rfl (by decide) rfl ?_
          refine id (op_q (q_move rfl (by decide)) ?_)
          refine list_guard_y rfl rfl rfl rfl (by decide) rfl ?_
          refine id (op_q (q_bne Tryd.underlying4 rfl rfl (by decide)) ?_)
          refine list_cons rfl (op_q (q_pick rfl rfl (by decide)) ?_)
          refine list_nil ?_
          refine hK21 _ ?_; clear hK21 K21
          refine codeT.imp (σ' := [(0, .ext _), (2, .val (.bool _)), (3, .val (.int .i64 _)), (4, .val (.int .i64 _)), (5, .val (.int .i64 _)), (6, .val (.int .i64 _)), (7, .val (.bool _)), (10, .own 89 43 7 _ _), (14, .val (.int .i64 _)), (15, .val (.bool _)), (18, .val (.int .i64 _)), (19, .val (.int .i64 _)), (20, .val (.int .i64 _)), (21, .val (.bool _)), (22, .val (.int .i64 _)), (23, .val (.bool _)), (168, .val (.bool _))]) ?_ (imp_covers ⟨rfl, rfl, rfl, rfl, rfl, rfl, rfl, rfl, rfl, rfl, rfl, rfl, rfl, rfl, rfl, rfl, rfl, trivial⟩)
          refine code_cond_d rfl (fun h12 => ?_) (fun h12 => ?_)
          · skip
            (try simp only [Decidable.not_not] at h12); (try have hG : Cn n0 k ∧ 0 ≤ s ∧ s ≤ 1000 := h12)
            exfalso
            first | exact absurd rfl h12 | exact h12 trivial | (simp at h12; done)
          (try simp only [Decidable.not_not] at h12); (try have hG : Cn n0 k ∧ 0 ≤ s ∧ s ≤ 1000 := h12)
          refine code_skip ?_
          refine hK19 _ ?_; clear hK19 K19
          refine code_seq (fun K22 hK22 => ?_)
          refine code_region ?_
          refine list_cons rfl (op_q (q_move rfl (by decide)) ?_)
          refine list_cons rfl (op_q (q_move rfl (by decide)) ?_)
          refine list_cons rfl (op_call _ (impl_CounterRow _ _) rfl rfl (by decide) (by decide) (by decide) rfl ?_)
          rintro _ rfl; have hrl := rowI_len n cells
          refine list_cons rfl (op_q (q_move rfl (by decide)) ?_)
          refine list_cons rfl (op_q (q_extract rfl rfl (by decide)) ?_)
          refine list_cons rfl (op_q (q_extract rfl rfl (by decide)) ?_)
          refine list_cons rfl (op_q (q_assign rfl (by decide)) ?_)
          refine list_cons rfl (op_q (q_assign rfl (by decide)) ?_)
          refine list_nil ?_
          refine hK22 _ ?_; clear hK22 K22
          refine codeT.imp (σ' := [(0, .ext _), (2, .val (.bool _)), (3, .val (.int .i64 _)), (4, .val (.int .i64 _)), (5, .val (.int .i64 _)), (6, .val (.int .i64 _)), (7, .val (.bool _)), (10, .own 89 43 7 _ _), (14, .val (.int .i64 _)), (15, .val (.bool _)), (18, .val (.int .i64 _)), (19, .val (.int .i64 _)), (20, .val (.int .i64 _)), (21, .val (.bool _)), (22, .val (.int .i64 _)), (23, .val (.bool _)), (24, .own 172 3 1 _ _), (25, .val (.bool _))]) ?_ (imp_covers ⟨rfl, rfl, rfl, rfl, rfl, rfl, rfl, rfl, rfl, rfl, rfl, rfl, rfl, rfl, rfl, rfl, rfl, rfl, trivial⟩)
          refine code_seq (fun K23 hK23 => ?_)
          refine code_seq (fun K24 hK24 => ?_)
          refine code_region ?_
          refine list_cons rfl (op_q (q_move rfl (by decide)) ?_)
          refine list_cons rfl (op_q (q_move rfl (by decide)) ?_)
          refine list_cons rfl (op_call _ (spec_CounterRow _ _) rfl rfl (by decide) (by decide) (by decide) rfl ?_)
          rintro _ rfl
          refine list_cons rfl (op_q (q_move rfl (by decide)) ?_)
          refine list_cons rfl (op_q (q_extract rfl rfl (by decide)) ?_)
          refine list_cons rfl (op_q (q_extract rfl rfl (by decide)) ?_)
          refine list_cons rfl (op_q (q_assign rfl (by decide)) ?_)
          refine list_cons rfl (op_q (q_assign rfl (by decide)) ?_)
          refine list_nil ?_
          refine hK24 _ ?_; clear hK24 K24
          refine codeT.imp (σ' := [(0, .ext _), (2, .val (.bool _)), (3, .val (.int .i64 _)), (4, .val (.int .i64 _)), (5, .val (.int .i64 _)), (6, .val (.int .i64 _)), (7, .val (.bool _)), (10, .own 89 43 7 _ _), (14, .val (.int .i64 _)), (15, .val (.bool _)), (18, .val (.int .i64 _)), (19, .val (.int .i64 _)), (20, .val (.int .i64 _)), (21, .val (.bool _)), (22, .val (.int .i64 _)), (23, .val (.bool _)), (24, .own 172 3 1 _ _), (25, .val (.bool _)), (26, .own 178 3 1 _ _), (27, .val (.bool _))]) ?_ (imp_covers ⟨rfl, rfl, rfl, rfl, rfl, rfl, rfl, rfl, rfl, rfl, rfl, rfl, rfl, rfl, rfl, rfl, rfl, rfl, rfl, rfl, trivial⟩)
          refine code_seq (fun K25 hK25 => ?_)
          refine code_region ?_
          refine list_cons rfl (op_q (q_move rfl (by decide)) ?_)
          refine list_cons rfl (op_q (q_move rfl (by decide)) ?_)
          refine list_cons rfl (op_q (q_bne Tryd.underlying4 rfl rfl (by decide)) ?_)
          refine list_cons rfl (op_q (q_move rfl (by decide)) ?_)
          refine list_guard_d rfl rfl rfl rfl (by decide) rfl (by decide) (fun h13 => ?_) (fun h13 => ?_)
          · simp only [Bool.false_eq_true, if_true, if_false, Decidable.not_not] at h13
            (try simp only [Decidable.not_not] at h13); (try have hG : Cn n0 k ∧ 0 ≤ s ∧ s ≤ 1000 := h13)
            refine id (op_q (q_move rfl (by decide)) ?_)
            refine list_guard_y rfl rfl rfl rfl (by decide) rfl ?_
            refine id (op_q (q_move rfl (by decide)) ?_)
            refine list_guard_y rfl rfl rfl rfl (by decide) rfl ?_
            refine id (op_q (q_bne Tryd.underlying4 rfl rfl (by decide)) ?_)
            refine list_cons rfl (op_q (q_pick rfl rfl (by decide)) ?_)
            refine list_cons rfl (op_q (q_move rfl (by decide)) ?_)
            refine list_guard_d rfl rfl rfl rfl (by decide) rfl (by decide) (fun h14 => ?_) (fun h14 => ?_)
            · simp only [Bool.false_eq_true, if_true, if_false, Decidable.not_not] at h14
              (try simp only [Decidable.not_not] at h14); (try have hG : Cn n0 k ∧ 0 ≤ s ∧ s ≤ 1000 := h14)
              refine id (op_q (q_move rfl (by decide)) ?_)
              refine list_guard_y rfl rfl rfl rfl (by decide) rfl ?_
              refine id (op_q (q_move rfl (by decide)) ?_)
              refine list_guard_y rfl rfl rfl rfl (by decide) rfl ?_
              refine id (op_call _ (rInts_c _ _ (by first | omega | (simp; omega))) rfl rfl (by decide) (by decide) (by decide) rfl ?_)
              rintro _ rfl
              refine list_guard_y rfl rfl rfl rfl (by decide) rfl ?_
              refine id (op_q (by first | exact q_notd rfl (by decide) | exact q_not rfl (by decide)) ?_)
              refine list_cons rfl (op_q (q_pick rfl rfl (by decide)) ?_)
              refine list_nil ?_
              refine hK25 _ ?_; clear hK25 K25
              refine codeT.imp (σ' := [(0, .ext _), (2, .val (.bool _)), (3, .val (.int .i64 _)), (4, .val (.int .i64 _)), (5, .val (.int .i64 _)), (6, .val (.int .i64 _)), (7, .val (.bool _)), (10, .own 89 43 7 _ _), (14, .val (.int .i64 _)), (15, .val (.bool _)), (18, .val (.int .i64 _)), (19, .val (.int .i64 _)), (20, .val (.int .i64 _)), (21, .val (.bool _)), (22, .val (.int .i64 _)), (23, .val (.bool _)), (24, .own 172 3 1 _ _), (25, .val (.bool _)), (26, .own 178 3 1 _ _), (27, .val (.bool _)), (194, .val (.bool _))]) ?_ (imp_covers ⟨rfl, rfl, rfl, rfl, rfl, rfl, rfl, rfl, rfl, rfl, rfl, rfl, rfl, rfl, rfl, rfl, rfl, rfl, rfl, rfl, rfl, trivial⟩)
              refine code_cond_d rfl (fun h15 => ?_) (fun h15 => ?_)
              · skip
                (try simp only [Decidable.not_not] at h15); (try have hG : Cn n0 k ∧ 0 ≤ s ∧ s ≤ 1000 := h15)
                exfalso
                first | exact absurd rfl h15 | exact h15 trivial | (simp at h15; done)
              (try simp only [Decidable.not_not] at h15); (try have hG : Cn n0 k ∧ 0 ≤ s ∧ s ≤ 1000 := h15)
              refine code_skip ?_
              refine hK23 _ ?_; clear hK23 K23
              refine code_seq (fun K26 hK26 => ?_)
              refine code_region ?_
              refine list_cons rfl (op_q (q_move rfl (by decide)) ?_)
              refine list_cons rfl (op_callM (DrawMostChanges_c _ ?_) (.tmp 0) 0 [] [.tmp 195] _ rfl rfl (by intro y hy; cases hy) (by decide) (by decide) (by decide) rfl (by intro h; cases h) ?_)
              · first | assumption | omega | (simp; omega)
              rintro _ _ ⟨x0, hx0, rfl⟩
              refine list_cons rfl (op_q (q_assign rfl (by decide)) ?_)
              refine list_nil ?_
              refine hK26 _ ?_; clear hK26 K26
              refine codeT.imp (σ' := [(0, .ext _), (2, .val (.bool _)), (3, .val (.int .i64 _)), (4, .val (.int .i64 _)), (5, .val (.int .i64 _)), (6, .val (.int .i64 _)), (7, .val (.bool _)), (10, .own 89 43 7 _ _), (14, .val (.int .i64 _)), (15, .val (.bool _)), (18, .val (.int .i64 _)), (19, .val (.int .i64 _)), (20, .val (.int .i64 _)), (21, .val (.bool _)), (22, .val (.int .i64 _)), (23, .val (.bool _)), (24, .own 172 3 1 _ _), (25, .val (.bool _)), (26, .own 178 3 1 _ _), (27, .val (.bool _)), (28, .val (.int .i64 _))]) ?_ (imp_covers ⟨rfl, rfl, rfl, rfl, rfl, rfl, rfl, rfl, rfl, rfl, rfl, rfl, rfl, rfl, rfl, rfl, rfl, rfl, rfl, rfl, rfl, trivial⟩)
              refine code_seq (fun K27 hK27 => ?_)
              refine code_region ?_
              refine list_cons rfl (op_q (q_move rfl (by decide)) ?_)
              refine list_cons rfl (op_call _ (impl_MostChanges _) rfl rfl (by decide) (by decide) (by decide) rfl ?_)
              rintro _ rfl
              refine list_cons rfl (op_q (q_move rfl (by decide)) ?_)
              refine list_cons rfl (op_q (q_extract rfl rfl (by decide)) ?_)
              refine list_cons rfl (op_q (q_extract rfl rfl (by decide)) ?_)
              refine list_cons rfl (op_q (q_extract rfl rfl (by decide)) ?_)
              refine list_cons rfl (op_q (q_assign rfl (by decide)) ?_)
              refine list_cons rfl (op_q (q_assign rfl (by decide)) ?_)
              refine list_cons rfl (op_q (q_assign rfl (by decide)) ?_)
              refine list_nil ?_
              refine hK27 _ ?_; clear hK27 K27
              refine codeT.imp (σ' := [(0, .ext _), (2, .val (.bool _)), (3, .val (.int .i64 _)), (4, .val (.int .i64 _)), (5, .val (.int .i64 _)), (6, .val (.int .i64 _)), (7, .val (.bool _)), (10, .own 89 43 7 _ _), (14, .val (.int .i64 _)), (15, .val (.bool _)), (18, .val (.int .i64 _)), (19, .val (.int .i64 _)), (20, .val (.int .i64 _)), (21, .val (.bool _)), (22, .val (.int .i64 _)), (23, .val (.bool _)), (24, .own 172 3 1 _ _), (25, .val (.bool _)), (26, .own 178 3 1 _ _), (27, .val (.bool _)), (28, .val (.int .i64 _)), (29, .val (.int .i64 _)), (30, .val (.int .i64 _)), (31, .val (.bool _))]) ?_ (imp_covers ⟨rfl, rfl, rfl, rfl, rfl, rfl, rfl, rfl, rfl, rfl, rfl, rfl, rfl, rfl, rfl, rfl, rfl, rfl, rfl, rfl, rfl, rfl, rfl, rfl, trivial⟩)
              refine code_seq (fun K28 hK28 => ?_)
              refine code_seq (fun K29 hK29 => ?_)
              refine code_region ?_
              refine list_cons rfl (op_q (q_move rfl (by decide)) ?_)
              refine list_cons rfl (op_call _ (spec_MostChanges _) rfl rfl (by decide) (by decide) (by decide) rfl ?_)
              rintro _ rfl
              refine list_cons rfl (op_q (q_move rfl (by decide)) ?_)
              refine list_cons rfl (op_q (q_extract rfl rfl (by decide)) ?_)
              refine list_cons rfl (op_q (q_extract rfl rfl (by decide)) ?_)
              refine list_cons rfl (op_q (q_extract rfl rfl (by decide)) ?_)
              refine list_cons rfl (op_q (q_assign rfl (by decide)) ?_)
              refine list_cons rfl (op_q (q_assign rfl (by decide)) ?_)
              refine list_cons rfl (op_q (q_assign rfl (by decide)) ?_)
              refine list_nil ?_
              refine hK29 _ ?_; clear hK29 K29
              refine codeT.imp (σ' := [(0, .ext _), (2, .val (.bool _)), (3, .val (.int .i64 _)), (4, .val (.int .i64 _)), (5, .val (.int .i64 _)), (6, .val (.int .i64 _)), (7, .val (.bool _)), (10, .own 89 43 7 _ _), (14, .val (.int .i64 _)), (15, .val (.bool _)), (18, .val (.int .i64 _)), (19, .val (.int .i64 _)), (20, .val (.int .i64 _)), (21, .val (.bool _)), (22, .val (.int .i64 _)), (23, .val (.bool _)), (24, .own 172 3 1 _ _), (25, .val (.bool _)), (26, .own 178 3 1 _ _), (27, .val (.bool _)), (28, .val (.int .i64 _)), (29, .val (.int .i64 _)), (30, .val (.int .i64 _)), (31, .val (.bool _)), (32, .val (.int .i64 _)), (33, .val (.int .i64 _)), (34, .val (.bool _))]) ?_ (imp_covers ⟨rfl, rfl, rfl, rfl, rfl, rfl, rfl, rfl, rfl, rfl, rfl, rfl, rfl, rfl, rfl, rfl, rfl, rfl, rfl, rfl, rfl, rfl, rfl, rfl, rfl, rfl, rfl, trivial⟩)
              refine code_seq (fun K30 hK30 => ?_)
              refine code_region ?_
              refine list_cons rfl (op_q (q_move rfl (by decide)) ?_)
              refine list_cons rfl (op_q (q_move rfl (by decide)) ?_)
              refine list_cons rfl (op_q (q_ne rfl rfl (by decide)) ?_)
              refine list_cons rfl (op_q (q_move rfl (by decide)) ?_)
              refine list_guard_d rfl rfl rfl rfl (by decide) rfl (by decide) (fun h16 => ?_) (fun h16 => ?_)
              · simp only [Bool.false_eq_true, if_true, if_false, Decidable.not_not] at h16
                (try simp only [Decidable.not_not] at h16); (try have hG : Cn n0 k ∧ 0 ≤ s ∧ s ≤ 1000 := h16)
                refine id (op_q (q_move rfl (by decide)) ?_)
                refine list_guard_y rfl rfl rfl rfl (by decide) rfl ?_
                refine id (op_q (q_move rfl (by decide)) ?_)
                refine list_guard_y rfl rfl rfl rfl (by decide) rfl ?_
                refine id (op_q (q_ne rfl rfl (by decide)) ?_)
                refine list_cons rfl (op_q (q_pick rfl rfl (by decide)) ?_)
                refine list_cons rfl (op_q (q_move rfl (by decide)) ?_)
                refine list_guard_d rfl rfl rfl rfl (by decide) rfl (by decide) (fun h17 => ?_) (fun h17 => ?_)
                · simp only [Bool.false_eq_true, if_true, if_false, Decidable.not_not] at h17
                  (try simp only [Decidable.not_not] at h17); (try have hG : Cn n0 k ∧ 0 ≤ s ∧ s ≤ 1000 := h17)
                  refine id (op_q (q_move rfl (by decide)) ?_)
                  refine list_guard_y rfl rfl rfl rfl (by decide) rfl ?_
                  refine id (op_q (q_move rfl (by decide)) ?_)
                  refine list_guard_y rfl rfl rfl rfl (by decide) rfl ?_
                  refine id (op_q (q_bne Tryd.underlying4 rfl rfl (by decide)) ?_)
                  refine list_cons rfl (op_q (q_pick rfl rfl (by decide)) ?_)
                  refine list_nil ?_
                  refine hK30 _ ?_; clear hK30 K30
                  refine codeT.imp (σ' := [(0, .ext _), (2, .val (.bool _)), (3, .val (.int .i64 _)), (4, .val (.int .i64 _)), (5, .val (.int .i64 _)), (6, .val (.int .i64 _)), (7, .val (.bool _)), (10, .own 89 43 7 _ _), (14, .val (.int .i64 _)), (15, .val (.bool _)), (18, .val (.int .i64 _)), (19, .val (.int .i64 _)), (20, .val (.int .i64 _)), (21, .val (.bool _)), (22, .val (.int .i64 _)), (23, .val (.bool _)), (24, .own 172 3 1 _ _), (25, .val (.bool _)), (26, .own 178 3 1 _ _), (27, .val (.bool _)), (28, .val (.int .i64 _)), (29, .val (.int .i64 _)), (30, .val (.int .i64 _)), (31, .val (.bool _)), (32, .val (.int .i64 _)), (33, .val (.int .i64 _)), (34, .val (.bool _)), (221, .val (.bool _))]) ?_ (imp_covers ⟨rfl, rfl, rfl, rfl, rfl, rfl, rfl, rfl, rfl, rfl, rfl, rfl, rfl, rfl, rfl, rfl, rfl, rfl, rfl, rfl, rfl, rfl, rfl, rfl, rfl, rfl, rfl, rfl, trivial⟩)
                  refine code_cond_d rfl (fun h18 => ?_) (fun h18 => ?_)
                  · skip
                    (try simp only [Decidable.not_not] at h18); (try have hG : Cn n0 k ∧ 0 ≤ s ∧ s ≤ 1000 := h18)
                    exfalso
                    first | exact absurd rfl h18 | exact h18 trivial | (simp at h18; done)
                  (try simp only [Decidable.not_not] at h18); (try have hG : Cn n0 k ∧ 0 ≤ s ∧ s ≤ 1000 := h18)
                  refine code_skip ?_
                  refine hK28 _ ?_; clear hK28 K28
                  refine code_seq (fun K31 hK31 => ?_)
                  refine code_region ?_
                  refine list_cons rfl (op_q (q_move rfl (by decide)) ?_)
                  refine list_cons rfl (op_callM (DrawFirstOver_c _ ?_) (.tmp 0) 0 [] [.tmp 223] _ rfl rfl (by intro y hy; cases hy) (by decide) (by decide) (by decide) rfl (by intro h; cases h) ?_)
                  · first | assumption | omega | (simp; omega)
                  rintro _ _ ⟨at0, y0, ch, rfl⟩
                  refine list_cons rfl (op_q (q_move rfl (by decide)) ?_)
                  refine list_cons rfl (op_q (q_extract rfl rfl (by decide)) ?_)
                  refine list_cons rfl (op_q (q_extract rfl rfl (by decide)) ?_)
                  refine list_cons rfl (op_q (q_extract rfl rfl (by decide)) ?_)
                  refine list_cons rfl (op_q (q_assign rfl (by decide)) ?_)
                  refine list_cons rfl (op_q (q_assign rfl (by decide)) ?_)
                  refine list_cons rfl (op_q (q_assign rfl (by decide)) ?_)
                  refine list_nil ?_
                  refine hK31 _ ?_; clear hK31 K31
                  refine codeT.imp (σ' := ((0, .ext _) :: (2, .val (.bool _)) :: (3, .val (.int .i64 _)) :: (4, .val (.int .i64 _)) :: (5, .val (.int .i64 _)) :: (6, .val (.int .i64 _)) :: (7, .val (.bool _)) :: (10, .own 89 43 7 _ _) :: (14, .val (.int .i64 _)) :: (15, .val (.bool _)) :: (18, .val (.int .i64 _)) :: (19, .val (.int .i64 _)) :: (20, .val (.int .i64 _)) :: (21, .val (.bool _)) :: (22, .val (.int .i64 _)) :: (23, .val (.bool _)) :: (24, .own 172 3 1 _ _) :: (25, .val (.bool _)) :: (26, .own 178 3 1 _ _) :: (27, .val (.bool _)) :: (28, .val (.int .i64 _)) :: (29, .val (.int .i64 _)) :: (30, .val (.int .i64 _)) :: (31, .val (.bool _)) :: (32, .val (.int .i64 _)) :: (33, .val (.int .i64 _)) :: (34, .val (.bool _)) :: (35, .val (.int .i64 _)) :: (36, .val (.int .i64 _)) :: (37, .val (.int .i64 _)) :: [])) ?_ (imp_covers ⟨rfl, rfl, rfl, rfl, rfl, rfl, rfl, rfl, rfl, rfl, rfl, rfl, rfl, rfl, rfl, rfl, rfl, rfl, rfl, rfl, rfl, rfl, rfl, rfl, rfl, rfl, rfl, rfl, rfl, rfl, trivial⟩)
                  refine code_seq (fun K32 hK32 => ?_)
                  refine code_region ?_
                  refine list_cons rfl (op_q (q_move rfl (by decide)) ?_)
                  refine list_cons rfl (op_q (q_move rfl (by decide)) ?_)
                  refine list_cons rfl (op_q (q_move rfl (by decide)) ?_)
                  refine list_cons rfl (op_call _ (impl_FirstOver _ _ _) rfl rfl (by decide) (by decide) (by decide) rfl ?_)
                  rintro _ rfl
                  refine list_cons rfl (op_q (q_move rfl (by decide)) ?_)
                  refine list_cons rfl (op_q (q_extract rfl rfl (by decide)) ?_)
                  refine list_cons rfl (op_q (q_extract rfl rfl (by decide)) ?_)
                  refine list_cons rfl (op_q (q_assign rfl (by decide)) ?_)
                  refine list_cons rfl (op_q (q_assign rfl (by decide)) ?_)
                  refine list_nil ?_
                  refine hK32 _ ?_; clear hK32 K32
                  refine codeT.imp (σ' := ((0, .ext _) :: (2, .val (.bool _)) :: (3, .val (.int .i64 _)) :: (4, .val (.int .i64 _)) :: (5, .val (.int .i64 _)) :: (6, .val (.int .i64 _)) :: (7, .val (.bool _)) :: (10, .own 89 43 7 _ _) :: (14, .val (.int .i64 _)) :: (15, .val (.bool _)) :: (18, .val (.int .i64 _)) :: (19, .val (.int .i64 _)) :: (20, .val (.int .i64 _)) :: (21, .val (.bool _)) :: (22, .val (.int .i64 _)) :: (23, .val (.bool _)) :: (24, .own 172 3 1 _ _) :: (25, .val (.bool _)) :: (26, .own 178 3 1 _ _) :: (27, .val (.bool _)) :: (28, .val (.int .i64 _)) :: (29, .val (.int .i64 _)) :: (30, .val (.int .i64 _)) :: (31, .val (.bool _)) :: (32, .val (.int .i64 _)) :: (33, .val (.int .i64 _)) :: (34, .val (.bool _)) :: (35, .val (.int .i64 _)) :: (36, .val (.int .i64 _)) :: (37, .val (.int .i64 _)) :: (38, .val (.int .i64 _)) :: (39, .val (.bool _)) :: [])) ?_ (imp_covers ⟨rfl, rfl, rfl, rfl, rfl, rfl, rfl, rfl, rfl, rfl, rfl, rfl, rfl, rfl, rfl, rfl, rfl, rfl, rfl, rfl, rfl, rfl, rfl, rfl, rfl, rfl, rfl, rfl, rfl, rfl, rfl, rfl, trivial⟩)
                  refine code_seq (fun K33 hK33 => ?_)
                  refine code_seq (fun K34 hK34 => ?_)
                  refine code_region ?_
                  refine list_cons rfl (op_q (q_move rfl (by decide)) ?_)
                  refine list_cons rfl (op_q (q_move rfl (by decide)) ?_)
                  refine list_cons rfl (op_q (q_move rfl (by decide)) ?_)
                  refine list_cons rfl (op_call _ (spec_FirstOver _ _ _) rfl rfl (by decide) (by decide) (by decide) rfl ?_)
                  rintro _ rfl
                  refine list_cons rfl (op_q (q_move rfl (by decide)) ?_)
                  refine list_cons rfl (op_q (q_extract rfl rfl (by decide)) ?_)
                  refine list_cons rfl (op_q (q_extract rfl rfl (by decide)) ?_)
                  refine list_cons rfl (op_q (q_assign rfl (by decide)) ?_)
                  refine list_cons rfl (op_q (q_assign rfl (by decide)) ?_)
                  refine list_nil ?_
                  refine hK34 _ ?_; clear hK34 K34
                  refine codeT.imp (σ' := ((0, .ext _) :: (2, .val (.bool _)) :: (3, .val (.int .i64 _)) :: (4, .val (.int .i64 _)) :: (5, .val (.int .i64 _)) :: (6, .val (.int .i64 _)) :: (7, .val (.bool _)) :: (10, .own 89 43 7 _ _) :: (14, .val (.int .i64 _)) :: (15, .val (.bool _)) :: (18, .val (.int .i64 _)) :: (19, .val (.int .i64 _)) :: (20, .val (.int .i64 _)) :: (21, .val (.bool _)) :: (22, .val (.int .i64 _)) :: (23, .val (.bool _)) :: (24, .own 172 3 1 _ _) :: (25, .val (.bool _)) :: (26, .own 178 3 1 _ _) :: (27, .val (.bool _)) :: (28, .val (.int .i64 _)) :: (29, .val (.int .i64 _)) :: (30, .val (.int .i64 _)) :: (31, .val (.bool _)) :: (32, .val (.int .i64 _)) :: (33, .val (.int .i64 _)) :: (34, .val (.bool _)) :: (35, .val (.int .i64 _)) :: (36, .val (.int .i64 _)) :: (37, .val (.int .i64 _)) :: (38, .val (.int .i64 _)) :: (39, .val (.bool _)) :: (40, .val (.int .i64 _)) :: (41, .val (.bool _)) :: [])) ?_ (imp_covers ⟨rfl, rfl, rfl, rfl, rfl, rfl, rfl, rfl, rfl, rfl, rfl, rfl, rfl, rfl, rfl, rfl, rfl, rfl, rfl, rfl, rfl, rfl, rfl, rfl, rfl, rfl, rfl, rfl, rfl, rfl, rfl, rfl, rfl, rfl, trivial⟩)
                  refine code_seq (fun K35 hK35 => ?_)
                  refine code_region ?_
                  refine list_cons rfl (op_q (q_move rfl (by decide)) ?_)
                  refine list_cons rfl (op_q (q_move rfl (by decide)) ?_)
                  refine list_cons rfl (op_q (q_ne rfl rfl (by decide)) ?_)
                  refine list_cons rfl (op_q (q_move rfl (by decide)) ?_)
                  refine list_guard_d rfl rfl rfl rfl (by decide) rfl (by decide) (fun h19 => ?_) (fun h19 => ?_)
                  · simp only [Bool.false_eq_true, if_true, if_false, Decidable.not_not] at h19
                    (try simp only [Decidable.not_not] at h19); (try have hG : Cn n0 k ∧ 0 ≤ s ∧ s ≤ 1000 := h19)
                    refine id (op_q (q_move rfl (by decide)) ?_)
                    refine list_guard_y rfl rfl rfl rfl (by decide) rfl ?_
                    refine id (op_q (q_move rfl (by decide)) ?_)
                    refine list_guard_y rfl rfl rfl rfl (by decide) rfl ?_
                    refine id (op_q (q_bne Tryd.underlying4 rfl rfl (by decide)) ?_)
                    refine list_cons rfl (op_q (q_pick rfl rfl (by decide)) ?_)
                    refine list_nil ?_
                    refine hK35 _ ?_; clear hK35 K35
                    refine codeT.imp (σ' := ((0, .ext _) :: (2, .val (.bool _)) :: (3, .val (.int .i64 _)) :: (4, .val (.int .i64 _)) :: (5, .val (.int .i64 _)) :: (6, .val (.int .i64 _)) :: (7, .val (.bool _)) :: (10, .own 89 43 7 _ _) :: (14, .val (.int .i64 _)) :: (15, .val (.bool _)) :: (18, .val (.int .i64 _)) :: (19, .val (.int .i64 _)) :: (20, .val (.int .i64 _)) :: (21, .val (.bool _)) :: (22, .val (.int .i64 _)) :: (23, .val (.bool _)) :: (24, .own 172 3 1 _ _) :: (25, .val (.bool _)) :: (26, .own 178 3 1 _ _) :: (27, .val (.bool _)) :: (28, .val (.int .i64 _)) :: (29, .val (.int .i64 _)) :: (30, .val (.int .i64 _)) :: (31, .val (.bool _)) :: (32, .val (.int .i64 _)) :: (33, .val (.int .i64 _)) :: (34, .val (.bool _)) :: (35, .val (.int .i64 _)) :: (36, .val (.int .i64 _)) :: (37, .val (.int .i64 _)) :: (38, .val (.int .i64 _)) :: (39, .val (.bool _)) :: (40, .val (.int .i64 _)) :: (41, .val (.bool _)) :: (249, .val (.bool _)) :: [])) ?_ (imp_covers ⟨rfl, rfl, rfl, rfl, rfl, rfl, rfl, rfl, rfl, rfl, rfl, rfl, rfl, rfl, rfl, rfl, rfl, rfl, rfl, rfl, rfl, rfl, rfl, rfl, rfl, rfl, rfl, rfl, rfl, rfl, rfl, rfl, rfl, rfl, rfl, trivial⟩)
                    refine code_cond_d rfl (fun h20 => ?_) (fun h20 => ?_)
                    · skip
                      (try simp only [Decidable.not_not] at h20); (try have hG : Cn n0 k ∧ 0 ≤ s ∧ s ≤ 1000 := h20)
                      exfalso
                      first | exact absurd rfl h20 | exact h20 trivial | (simp at h20; done)
                    (try simp only [Decidable.not_not] at h20); (try have hG : Cn n0 k ∧ 0 ≤ s ∧ s ≤ 1000 := h20)
                    refine code_skip ?_
                    refine hK33 _ ?_; clear hK33 K33
                    refine codeT.imp (σ' := [(2, .val (.bool _)), (3, .val (.int .i64 _)), (4, .val (.int .i64 _)), (5, .val (.int .i64 _)), (6, .val (.int .i64 _)), (7, .val (.bool _)), (10, .own 89 43 7 _ _), (18, .val (.int .i64 _)), (19, .val (.int .i64 _)), (20, .val (.int .i64 _)), (21, .val (.bool _)), (24, .own 172 3 1 _ _), (25, .val (.bool _)), (28, .val (.int .i64 _)), (29, .val (.int .i64 _)), (30, .val (.int .i64 _)), (31, .val (.bool _)), (35, .val (.int .i64 _)), (36, .val (.int .i64 _)), (37, .val (.int .i64 _)), (38, .val (.int .i64 _)), (39, .val (.bool _))]) ?_ (imp_covers ⟨rfl, rfl, rfl, rfl, rfl, rfl, rfl, rfl, rfl, rfl, rfl, rfl, rfl, rfl, rfl, rfl, rfl, rfl, rfl, rfl, rfl, rfl, trivial⟩)
                    refine code_seq_same ?_ ?_
                    · skip
                      refine code_seq (fun K36 hK36 => ?_)
                      refine code_region ?_
                      refine list_cons rfl (op_q (q_move rfl (by decide)) ?_)
                      refine list_nil ?_
                      refine hK36 _ ?_; clear hK36 K36
                      refine code_cond_d rfl (fun h21 => ?_) (fun h21 => ?_)
                      · skip
                        (try simp only [Decidable.not_not] at h21); (try have hG : Cn n0 k ∧ 0 ≤ s ∧ s ≤ 1000 := h21)
                        refine code_seq (fun K37 hK37 => ?_)
                        refine code_region ?_
                        refine list_cons rfl (op_q (q_move rfl (by decide)) ?_)
                        refine list_cons rfl (op_q (q_move rfl (by decide)) ?_)
                        refine list_cons rfl (op_q (q_move rfl (by decide)) ?_)
                        refine list_cons rfl (op_call _ (impl_RunChanges _ _ _) rfl rfl (by decide) (by decide) (by decide) rfl ?_)
                        rintro _ rfl
                        refine list_cons rfl (op_q (q_move rfl (by decide)) ?_)
                        refine list_cons rfl (op_q (q_extract rfl rfl (by decide)) ?_)
                        refine list_cons rfl (op_q (q_extract rfl rfl (by decide)) ?_)
                        refine list_cons rfl (op_q (q_assign rfl (by decide)) ?_)
                        refine list_cons rfl (op_q (q_assign rfl (by decide)) ?_)
                        refine list_nil ?_
                        refine hK37 _ ?_; clear hK37 K37
                        refine codeT.imp (σ' := [(2, .val (.bool _)), (3, .val (.int .i64 _)), (4, .val (.int .i64 _)), (5, .val (.int .i64 _)), (6, .val (.int .i64 _)), (7, .val (.bool _)), (10, .own 89 43 7 _ _), (18, .val (.int .i64 _)), (19, .val (.int .i64 _)), (20, .val (.int .i64 _)), (21, .val (.bool _)), (24, .own 172 3 1 _ _), (25, .val (.bool _)), (28, .val (.int .i64 _)), (29, .val (.int .i64 _)), (30, .val (.int .i64 _)), (31, .val (.bool _)), (35, .val (.int .i64 _)), (36, .val (.int .i64 _)), (37, .val (.int .i64 _)), (38, .val (.int .i64 _)), (39, .val (.bool _)), (42, .val (.int .i64 _)), (43, .val (.bool _))]) ?_ (imp_covers ⟨rfl, rfl, rfl, rfl, rfl, rfl, rfl, rfl, rfl, rfl, rfl, rfl, rfl, rfl, rfl, rfl, rfl, rfl, rfl, rfl, rfl, rfl, rfl, rfl, trivial⟩)
                        refine code_seq (fun K38 hK38 => ?_)
                        refine code_seq (fun K39 hK39 => ?_)
                        refine code_region ?_
                        refine list_cons rfl (op_q (q_move rfl (by decide)) ?_)
                        refine list_cons rfl (op_q (by first | exact q_notd rfl (by decide) | exact q_not rfl (by decide)) ?_)
                        refine list_cons rfl (op_q (q_move rfl (by decide)) ?_)
                        refine list_guard_d rfl rfl rfl rfl (by decide) rfl (by decide) (fun h22 => ?_) (fun h22 => ?_)
                        · simp only [Bool.false_eq_true, if_true, if_false, Decidable.not_not] at h22
                          (try simp only [Decidable.not_not] at h22); (try have hG : Cn n0 k ∧ 0 ≤ s ∧ s ≤ 1000 := h22)
                          refine id (op_q (q_move rfl (by decide)) ?_)
                          refine list_guard_y rfl rfl rfl rfl (by decide) rfl ?_
                          refine id (op_q (q_move rfl (by decide)) ?_)
                          refine list_guard_y rfl rfl rfl rfl (by decide) rfl ?_
                          refine id (op_q (q_lt rfl rfl (by decide)) ?_)
                          refine list_cons rfl (op_q (q_pick rfl rfl (by decide)) ?_)
                          refine list_nil ?_
                          refine hK39 _ ?_; clear hK39 K39
                          refine code_cond_d rfl (fun h23 => ?_) (fun h23 => ?_)
                          · skip
                            (try simp only [Decidable.not_not] at h23); (try have hG : Cn n0 k ∧ 0 ≤ s ∧ s ≤ 1000 := h23)
                            exfalso
                            have six : Cn at0 y0 ∧ 0 ≤ ch ∧ (overC at0 y0 ch).isSome = true := by assumption
                            exact over2 six h23
                          (try simp only [Decidable.not_not] at h23); (try have hG : Cn n0 k ∧ 0 ≤ s ∧ s ≤ 1000 := h23)
                          refine code_skip ?_
                          refine hK38 _ ?_; clear hK38 K38
                          refine codeT.imp (σ' := [(2, .val (.bool _)), (3, .val (.int .i64 _)), (4, .val (.int .i64 _)), (5, .val (.int .i64 _)), (6, .val (.int .i64 _)), (7, .val (.bool _)), (10, .own 89 43 7 _ _), (18, .val (.int .i64 _)), (19, .val (.int .i64 _)), (20, .val (.int .i64 _)), (21, .val (.bool _)), (24, .own 172 3 1 _ _), (25, .val (.bool _)), (28, .val (.int .i64 _)), (29, .val (.int .i64 _)), (30, .val (.int .i64 _)), (31, .val (.bool _)), (35, .val (.int .i64 _)), (36, .val (.int .i64 _)), (37, .val (.int .i64 _)), (38, .val (.int .i64 _)), (39, .val (.bool _)), (42, .val (.int .i64 _)), (43, .val (.bool _))]) ?_ (imp_covers ⟨rfl, rfl, rfl, rfl, rfl, rfl, rfl, rfl, rfl, rfl, rfl, rfl, rfl, rfl, rfl, rfl, rfl, rfl, rfl, rfl, rfl, rfl, rfl, rfl, trivial⟩)
                          refine code_seq (fun K40 hK40 => ?_)
                          refine code_region ?_
                          refine list_cons rfl (op_q (q_move rfl (by decide)) ?_)
                          refine list_cons rfl (op_q (q_gt rfl rfl (by decide)) ?_)
                          refine list_nil ?_
                          refine hK40 _ ?_; clear hK40 K40
                          refine code_cond_d rfl (fun h24 => ?_) (fun h24 => ?_)
                          · skip
                            (try simp only [Decidable.not_not] at h24); (try have hG : Cn n0 k ∧ 0 ≤ s ∧ s ≤ 1000 := h24)
                            refine code_seq (fun K41 hK41 => ?_)
                            refine code_region ?_
                            refine list_cons rfl (op_q (q_move rfl (by decide)) ?_)
                            refine list_cons rfl (op_q (q_move rfl (by decide)) ?_)
                            refine list_cons rfl (op_q (by first | exact q_subI rfl rfl (by decide) (by omega) (by omega) | exact q_ib rfl rfl rfl (by decide)) ?_)
                            refine list_cons rfl (op_q (q_move rfl (by decide)) ?_)
                            refine list_cons rfl (op_call _ (impl_RunChanges _ _ _) rfl rfl (by decide) (by decide) (by decide) rfl ?_)
                            rintro _ rfl
                            refine list_cons rfl (op_q (q_move rfl (by decide)) ?_)
                            refine list_cons rfl (op_q (q_extract rfl rfl (by decide)) ?_)
                            refine list_cons rfl (op_q (q_extract rfl rfl (by decide)) ?_)
                            refine list_cons rfl (op_q (q_assign rfl (by decide)) ?_)
                            refine list_cons rfl (op_q (q_assign rfl (by decide)) ?_)
                            refine list_nil ?_
                            refine hK41 _ ?_; clear hK41 K41
                            refine codeT.imp (σ' := [(2, .val (.bool _)), (3, .val (.int .i64 _)), (4, .val (.int .i64 _)), (5, .val (.int .i64 _)), (6, .val (.int .i64 _)), (7, .val (.bool _)), (10, .own 89 43 7 _ _), (18, .val (.int .i64 _)), (19, .val (.int .i64 _)), (20, .val (.int .i64 _)), (21, .val (.bool _)), (24, .own 172 3 1 _ _), (25, .val (.bool _)), (28, .val (.int .i64 _)), (29, .val (.int .i64 _)), (30, .val (.int .i64 _)), (31, .val (.bool _)), (35, .val (.int .i64 _)), (36, .val (.int .i64 _)), (37, .val (.int .i64 _)), (38, .val (.int .i64 _)), (39, .val (.bool _)), (42, .val (.int .i64 _)), (43, .val (.bool _)), (44, .val (.int .i64 _)), (45, .val (.bool _))]) ?_ (imp_covers ⟨rfl, rfl, rfl, rfl, rfl, rfl, rfl, rfl, rfl, rfl, rfl, rfl, rfl, rfl, rfl, rfl, rfl, rfl, rfl, rfl, rfl, rfl, rfl, rfl, rfl, rfl, trivial⟩)
                            refine code_seq (fun K42 hK42 => ?_)
                            refine code_region ?_
                            refine list_cons rfl (op_q (q_move rfl (by decide)) ?_)
                            refine list_cons rfl (op_q (by first | exact q_notd rfl (by decide) | exact q_not rfl (by decide)) ?_)
                            refine list_cons rfl (op_q (q_move rfl (by decide)) ?_)
                            refine list_guard_d rfl rfl rfl rfl (by decide) rfl (by decide) (fun h25 => ?_) (fun h25 => ?_)
                            · simp only [Bool.false_eq_true, if_true, if_false, Decidable.not_not] at h25
                              (try simp only [Decidable.not_not] at h25); (try have hG : Cn n0 k ∧ 0 ≤ s ∧ s ≤ 1000 := h25)
                              refine id (op_q (q_move rfl (by decide)) ?_)
                              refine list_guard_y rfl rfl rfl rfl (by decide) rfl ?_
                              refine id (op_q (q_move rfl (by decide)) ?_)
                              refine list_guard_y rfl rfl rfl rfl (by decide) rfl ?_
                              refine id (op_q (q_ge rfl rfl (by decide)) ?_)
                              refine list_cons rfl (op_q (q_pick rfl rfl (by decide)) ?_)
                              refine list_nil ?_
                              refine hK42 _ ?_; clear hK42 K42
                              refine code_cond_d rfl (fun h26 => ?_) (fun h26 => ?_)
                              · skip
                                (try simp only [Decidable.not_not] at h26); (try have hG : Cn n0 k ∧ 0 ≤ s ∧ s ≤ 1000 := h26)
                                exfalso
                                have six : Cn at0 y0 ∧ 0 ≤ ch ∧ (overC at0 y0 ch).isSome = true := by assumption
                                exact over4 six (by assumption) h26
                              (try simp only [Decidable.not_not] at h26); (try have hG : Cn n0 k ∧ 0 ≤ s ∧ s ≤ 1000 := h26)
                              refine code_skip ?_
                              exact then_n (imp_covers ⟨rfl, rfl, rfl, rfl, rfl, rfl, rfl, rfl, rfl, rfl, rfl, rfl, rfl, rfl, rfl, rfl, rfl, rfl, rfl, rfl, rfl, rfl, trivial⟩)
                            simp only [Bool.false_eq_true, if_true, if_false, Decidable.not_not] at h25
                            (try simp only [Decidable.not_not] at h25); (try have hG : Cn n0 k ∧ 0 ≤ s ∧ s ≤ 1000 := h25)
                            exfalso
                            have six : Cn at0 y0 ∧ 0 ≤ ch ∧ (overC at0 y0 ch).isSome = true := by assumption
                            exact h25 (over3 six (by assumption))
                          (try simp only [Decidable.not_not] at h24); (try have hG : Cn n0 k ∧ 0 ≤ s ∧ s ≤ 1000 := h24)
                          refine code_skip ?_
                          exact then_n (imp_covers ⟨rfl, rfl, rfl, rfl, rfl, rfl, rfl, rfl, rfl, rfl, rfl, rfl, rfl, rfl, rfl, rfl, rfl, rfl, rfl, rfl, rfl, rfl, trivial⟩)
                        simp only [Bool.false_eq_true, if_true, if_false, Decidable.not_not] at h22
                        (try simp only [Decidable.not_not] at h22); (try have hG : Cn n0 k ∧ 0 ≤ s ∧ s ≤ 1000 := h22)
                        exfalso
                        have six : Cn at0 y0 ∧ 0 ≤ ch ∧ (overC at0 y0 ch).isSome = true := by assumption
                        exact h22 (over1 six)
                      (try simp only [Decidable.not_not] at h21); (try have hG : Cn n0 k ∧ 0 ≤ s ∧ s ≤ 1000 := h21)
                      refine code_skip ?_
                      exact then_n (imp_covers ⟨rfl, rfl, rfl, rfl, rfl, rfl, rfl, rfl, rfl, rfl, rfl, rfl, rfl, rfl, rfl, rfl, rfl, rfl, rfl, rfl, rfl, rfl, trivial⟩)
                    refine codeT.imp (σ' := [(2, .val (.bool _)), (3, .val (.int .i64 _)), (4, .val (.int .i64 _)), (5, .val (.int .i64 _)), (6, .val (.int .i64 _)), (7, .val (.bool _)), (10, .own 89 43 7 _ _), (18, .val (.int .i64 _)), (19, .val (.int .i64 _)), (20, .val (.int .i64 _)), (21, .val (.bool _)), (24, .own 172 3 1 _ _), (25, .val (.bool _)), (28, .val (.int .i64 _)), (29, .val (.int .i64 _)), (30, .val (.int .i64 _)), (31, .val (.bool _))]) ?_ (imp_covers ⟨rfl, rfl, rfl, rfl, rfl, rfl, rfl, rfl, rfl, rfl, rfl, rfl, rfl, rfl, rfl, rfl, rfl, trivial⟩)
                    refine code_seq_same ?_ ?_
                    · skip
                      refine code_seq (fun K43 hK43 => ?_)
                      refine code_region ?_
                      refine list_cons rfl (op_q (q_move rfl (by decide)) ?_)
                      refine list_nil ?_
                      refine hK43 _ ?_; clear hK43 K43
                      refine code_cond_d rfl (fun h27 => ?_) (fun h27 => ?_)
                      · skip
                        (try simp only [Decidable.not_not] at h27); (try have hG : Cn n0 k ∧ 0 ≤ s ∧ s ≤ 1000 := h27)
                        refine code_seq (fun K44 hK44 => ?_)
                        refine code_region ?_
                        refine list_cons rfl (op_q (q_move rfl (by decide)) ?_)
                        refine list_cons rfl (op_q (q_move rfl (by decide)) ?_)
                        refine list_cons rfl (op_call _ (impl_StepChanges _ _) rfl rfl (by decide) (by decide) (by decide) rfl ?_)
                        rintro _ rfl
                        refine list_cons rfl (op_q (q_move rfl (by decide)) ?_)
                        refine list_cons rfl (op_q (q_extract rfl rfl (by decide)) ?_)
                        refine list_cons rfl (op_q (q_extract rfl rfl (by decide)) ?_)
                        refine list_cons rfl (op_q (q_assign rfl (by decide)) ?_)
                        refine list_cons rfl (op_q (q_assign rfl (by decide)) ?_)
                        refine list_nil ?_
                        refine hK44 _ ?_; clear hK44 K44
                        refine codeT.imp (σ' := [(2, .val (.bool _)), (3, .val (.int .i64 _)), (4, .val (.int .i64 _)), (5, .val (.int .i64 _)), (6, .val (.int .i64 _)), (7, .val (.bool _)), (10, .own 89 43 7 _ _), (18, .val (.int .i64 _)), (19, .val (.int .i64 _)), (20, .val (.int .i64 _)), (21, .val (.bool _)), (24, .own 172 3 1 _ _), (25, .val (.bool _)), (28, .val (.int .i64 _)), (29, .val (.int .i64 _)), (30, .val (.int .i64 _)), (31, .val (.bool _)), (46, .val (.int .i64 _)), (47, .val (.bool _))]) ?_ (imp_covers ⟨rfl, rfl, rfl, rfl, rfl, rfl, rfl, rfl, rfl, rfl, rfl, rfl, rfl, rfl, rfl, rfl, rfl, rfl, rfl, trivial⟩)
                        refine code_seq (fun K45 hK45 => ?_)
                        refine code_region ?_
                        refine list_cons rfl (op_q (q_move rfl (by decide)) ?_)
                        refine list_cons rfl (op_q (by first | exact q_notd rfl (by decide) | exact q_not rfl (by decide)) ?_)
                        refine list_cons rfl (op_q (q_move rfl (by decide)) ?_)
                        refine list_guard_d rfl rfl rfl rfl (by decide) rfl (by decide) (fun h28 => ?_) (fun h28 => ?_)
                        · simp only [Bool.false_eq_true, if_true, if_false, Decidable.not_not] at h28
                          (try simp only [Decidable.not_not] at h28); (try have hG : Cn n0 k ∧ 0 ≤ s ∧ s ≤ 1000 := h28)
                          refine id (op_q (q_move rfl (by decide)) ?_)
                          refine list_guard_y rfl rfl rfl rfl (by decide) rfl ?_
                          refine id (op_q (q_move rfl (by decide)) ?_)
                          refine list_guard_y rfl rfl rfl rfl (by decide) rfl ?_
                          refine id (op_q (q_ne rfl rfl (by decide)) ?_)
                          refine list_cons rfl (op_q (q_pick rfl rfl (by decide)) ?_)
                          refine list_cons rfl (op_q (q_move rfl (by decide)) ?_)
                          refine list_guard_d rfl rfl rfl rfl (by decide) rfl (by decide) (fun h29 => ?_) (fun h29 => ?_)
                          · simp only [Bool.false_eq_true, if_true, if_false, Decidable.not_not] at h29
                            (try simp only [Decidable.not_not] at h29); (try have hG : Cn n0 k ∧ 0 ≤ s ∧ s ≤ 1000 := h29)
                            refine id (op_q (q_move rfl (by decide)) ?_)
                            refine list_guard_y rfl rfl rfl rfl (by decide) rfl ?_
                            refine id (op_q (q_move rfl (by decide)) ?_)
                            refine list_guard_d rfl rfl rfl rfl (by decide) rfl (by decide) (fun h30 => ?_) (fun h30 => ?_)
                            · simp only [Bool.false_eq_true, if_true, if_false, Decidable.not_not] at h30
                              (try simp only [Decidable.not_not] at h30); (try have hG : Cn n0 k ∧ 0 ≤ s ∧ s ≤ 1000 := h30)
                              refine id (op_q (q_move rfl (by decide)) ?_)
                              refine list_guard_y rfl rfl rfl rfl (by decide) rfl ?_
                              refine id (op_q (q_move rfl (by decide)) ?_)
                              refine list_guard_y rfl rfl rfl rfl (by decide) rfl ?_
                              refine id (op_q (q_eq rfl rfl (by decide)) ?_)
                              refine list_guard_y rfl rfl rfl rfl (by decide) rfl ?_
                              refine id (op_q (q_pick rfl rfl (by decide)) ?_)
                              refine list_guard_y rfl rfl rfl rfl (by decide) rfl ?_
                              refine id (op_q (q_move rfl (by decide)) ?_)
                              refine list_guard_d rfl rfl rfl rfl (by decide) rfl (by decide) (fun h31 => ?_) (fun h31 => ?_)
                              · simp only [Bool.false_eq_true, if_true, if_false, Decidable.not_not] at h31
                                (try simp only [Decidable.not_not] at h31); (try have hG : Cn n0 k ∧ 0 ≤ s ∧ s ≤ 1000 := h31)
                                refine id (op_q (q_move rfl (by decide)) ?_)
                                refine list_guard_y rfl rfl rfl rfl (by decide) rfl ?_
                                refine id (op_q (q_move rfl (by decide)) ?_)
                                refine list_guard_y rfl rfl rfl rfl (by decide) rfl ?_
                                refine id (op_q (q_gt rfl rfl (by decide)) ?_)
                                refine list_guard_y rfl rfl rfl rfl (by decide) rfl ?_
                                refine id (op_q (q_pick rfl rfl (by decide)) ?_)
                                refine list_cons rfl (op_q (q_pick rfl rfl (by decide)) ?_)
                                refine list_nil ?_
                                refine hK45 _ ?_; clear hK45 K45
                                refine codeT.imp (σ' := [(2, .val (.bool _)), (3, .val (.int .i64 _)), (4, .val (.int .i64 _)), (5, .val (.int .i64 _)), (6, .val (.int .i64 _)), (7, .val (.bool _)), (10, .own 89 43 7 _ _), (18, .val (.int .i64 _)), (19, .val (.int .i64 _)), (20, .val (.int .i64 _)), (21, .val (.bool _)), (24, .own 172 3 1 _ _), (25, .val (.bool _)), (28, .val (.int .i64 _)), (29, .val (.int .i64 _)), (30, .val (.int .i64 _)), (31, .val (.bool _)), (46, .val (.int .i64 _)), (47, .val (.bool _)), (308, .val (.bool _))]) ?_ (imp_covers ⟨rfl, rfl, rfl, rfl, rfl, rfl, rfl, rfl, rfl, rfl, rfl, rfl, rfl, rfl, rfl, rfl, rfl, rfl, rfl, rfl, trivial⟩)
                                refine code_cond_d rfl (fun h32 => ?_) (fun h32 => ?_)
                                · skip
                                  (try simp only [Decidable.not_not] at h32); (try have hG : Cn n0 k ∧ 0 ≤ s ∧ s ≤ 1000 := h32)
                                  exfalso
                                  have five : 1 ≤ x0 ∧ x0 ≤ 6 := by assumption
                                  exact most3 five (by assumption) (by assumption) h32
                                (try simp only [Decidable.not_not] at h32); (try have hG : Cn n0 k ∧ 0 ≤ s ∧ s ≤ 1000 := h32)
                                refine code_skip ?_
                                exact then_n (imp_covers ⟨rfl, rfl, rfl, rfl, rfl, rfl, rfl, rfl, rfl, rfl, rfl, rfl, rfl, rfl, rfl, rfl, rfl, trivial⟩)
                              simp only [Bool.false_eq_true, if_true, if_false, Decidable.not_not] at h31
                              (try simp only [Decidable.not_not] at h31); (try have hG : Cn n0 k ∧ 0 ≤ s ∧ s ≤ 1000 := h31)
                              refine list_guard_nT rfl rfl rfl rfl (by decide) (by decide) ?_
                              refine list_guard_nT rfl rfl rfl rfl (by decide) (by decide) ?_
                              refine list_guard_y rfl rfl rfl rfl (by decide) rfl ?_
                              refine id (op_q (q_pick rfl rfl (by decide)) ?_)
                              refine list_cons rfl (op_q (q_pick rfl rfl (by decide)) ?_)
                              refine list_nil ?_
                              refine hK45 _ ?_; clear hK45 K45
                              refine codeT.imp (σ' := [(2, .val (.bool _)), (3, .val (.int .i64 _)), (4, .val (.int .i64 _)), (5, .val (.int .i64 _)), (6, .val (.int .i64 _)), (7, .val (.bool _)), (10, .own 89 43 7 _ _), (18, .val (.int .i64 _)), (19, .val (.int .i64 _)), (20, .val (.int .i64 _)), (21, .val (.bool _)), (24, .own 172 3 1 _ _), (25, .val (.bool _)), (28, .val (.int .i64 _)), (29, .val (.int .i64 _)), (30, .val (.int .i64 _)), (31, .val (.bool _)), (46, .val (.int .i64 _)), (47, .val (.bool _)), (308, .val (.bool _))]) ?_ (imp_covers ⟨rfl, rfl, rfl, rfl, rfl, rfl, rfl, rfl, rfl, rfl, rfl, rfl, rfl, rfl, rfl, rfl, rfl, rfl, rfl, rfl, trivial⟩)
                              refine code_cond_f rfl ?_
                              refine code_skip ?_
                              exact then_n (imp_covers ⟨rfl, rfl, rfl, rfl, rfl, rfl, rfl, rfl, rfl, rfl, rfl, rfl, rfl, rfl, rfl, rfl, rfl, trivial⟩)
                            simp only [Bool.false_eq_true, if_true, if_false, Decidable.not_not] at h30
                            (try simp only [Decidable.not_not] at h30); (try have hG : Cn n0 k ∧ 0 ≤ s ∧ s ≤ 1000 := h30)
                            refine list_guard_nT rfl rfl rfl rfl (by decide) (by decide) ?_
                            refine list_guard_nT rfl rfl rfl rfl (by decide) (by decide) ?_
                            refine list_guard_y rfl rfl rfl rfl (by decide) rfl ?_
                            refine id (op_q (q_pick rfl rfl (by decide)) ?_)
                            refine list_guard_y rfl rfl rfl rfl (by decide) rfl ?_
                            refine id (op_q (q_move rfl (by decide)) ?_)
                            refine list_guard_nT rfl rfl rfl rfl (by decide) (by decide) ?_
                            refine list_guard_nT rfl rfl rfl rfl (by decide) (by decide) ?_
                            refine list_guard_nT rfl rfl rfl rfl (by decide) (by decide) ?_
                            refine list_guard_y rfl rfl rfl rfl (by decide) rfl ?_
                            refine id (op_q (q_pick rfl rfl (by decide)) ?_)
                            refine list_cons rfl (op_q (q_pick rfl rfl (by decide)) ?_)
                            refine list_nil ?_
                            refine hK45 _ ?_; clear hK45 K45
                            refine codeT.imp (σ' := [(2, .val (.bool _)), (3, .val (.int .i64 _)), (4, .val (.int .i64 _)), (5, .val (.int .i64 _)), (6, .val (.int .i64 _)), (7, .val (.bool _)), (10, .own 89 43 7 _ _), (18, .val (.int .i64 _)), (19, .val (.int .i64 _)), (20, .val (.int .i64 _)), (21, .val (.bool _)), (24, .own 172 3 1 _ _), (25, .val (.bool _)), (28, .val (.int .i64 _)), (29, .val (.int .i64 _)), (30, .val (.int .i64 _)), (31, .val (.bool _)), (46, .val (.int .i64 _)), (47, .val (.bool _)), (308, .val (.bool _))]) ?_ (imp_covers ⟨rfl, rfl, rfl, rfl, rfl, rfl, rfl, rfl, rfl, rfl, rfl, rfl, rfl, rfl, rfl, rfl, rfl, rfl, rfl, rfl, trivial⟩)
                            refine code_cond_f rfl ?_
                            refine code_skip ?_
                            exact then_n (imp_covers ⟨rfl, rfl, rfl, rfl, rfl, rfl, rfl, rfl, rfl, rfl, rfl, rfl, rfl, rfl, rfl, rfl, rfl, trivial⟩)
                          simp only [Bool.false_eq_true, if_true, if_false, Decidable.not_not] at h29
                          (try simp only [Decidable.not_not] at h29); (try have hG : Cn n0 k ∧ 0 ≤ s ∧ s ≤ 1000 := h29)
                          exfalso
                          have five : 1 ≤ x0 ∧ x0 ≤ 6 := by assumption
                          exact h29 (most2 five)
                        simp only [Bool.false_eq_true, if_true, if_false, Decidable.not_not] at h28
                        (try simp only [Decidable.not_not] at h28); (try have hG : Cn n0 k ∧ 0 ≤ s ∧ s ≤ 1000 := h28)
                        exfalso
                        have five : 1 ≤ x0 ∧ x0 ≤ 6 := by assumption
                        exact h28 (most1 five)
                      (try simp only [Decidable.not_not] at h27); (try have hG : Cn n0 k ∧ 0 ≤ s ∧ s ≤ 1000 := h27)
                      refine code_skip ?_
                      exact then_n (imp_covers ⟨rfl, rfl, rfl, rfl, rfl, rfl, rfl, rfl, rfl, rfl, rfl, rfl, rfl, rfl, rfl, rfl, rfl, trivial⟩)
                    refine codeT.imp (σ' := [(2, .val (.bool _)), (3, .val (.int .i64 _)), (4, .val (.int .i64 _)), (5, .val (.int .i64 _)), (6, .val (.int .i64 _)), (7, .val (.bool _)), (10, .own 89 43 7 _ _), (18, .val (.int .i64 _)), (19, .val (.int .i64 _)), (24, .own 172 3 1 _ _), (25, .val (.bool _))]) ?_ (imp_covers ⟨rfl, rfl, rfl, rfl, rfl, rfl, rfl, rfl, rfl, rfl, rfl, trivial⟩)
                    refine code_seq_same ?_ ?_
                    · skip
                      refine code_seq (fun K46 hK46 => ?_)
                      refine code_region ?_
                      refine list_cons rfl (op_q (q_move rfl (by decide)) ?_)
                      refine list_nil ?_
                      refine hK46 _ ?_; clear hK46 K46
                      refine code_cond_d rfl (fun h33 => ?_) (fun h33 => ?_)
                      · skip
                        (try simp only [Decidable.not_not] at h33); (try have hG : Cn n0 k ∧ 0 ≤ s ∧ s ≤ 1000 := h33)
                        refine code_seq (fun K47 hK47 => ?_)
                        refine code_region ?_
                        refine list_cons rfl (op_q (q_move rfl (by decide)) ?_)
                        refine list_cons rfl (op_call _ (impl_NumberOf _ (by first | omega | (simp; omega))) rfl rfl (by decide) (by decide) (by decide) rfl ?_)
                        rintro _ rfl
                        refine list_cons rfl (op_q (q_move rfl (by decide)) ?_)
                        refine list_cons rfl (op_q (q_extract rfl rfl (by decide)) ?_)
                        refine list_cons rfl (op_q (q_extract rfl rfl (by decide)) ?_)
                        refine list_cons rfl (op_q (q_assign rfl (by decide)) ?_)
                        refine list_cons rfl (op_q (q_assign rfl (by decide)) ?_)
                        refine list_nil ?_
                        refine hK47 _ ?_; clear hK47 K47
                        refine codeT.imp (σ' := [(2, .val (.bool _)), (3, .val (.int .i64 _)), (4, .val (.int .i64 _)), (5, .val (.int .i64 _)), (6, .val (.int .i64 _)), (7, .val (.bool _)), (10, .own 89 43 7 _ _), (18, .val (.int .i64 _)), (19, .val (.int .i64 _)), (24, .own 172 3 1 _ _), (25, .val (.bool _)), (48, .val (.int .i64 _)), (49, .val (.bool _))]) ?_ (imp_covers ⟨rfl, rfl, rfl, rfl, rfl, rfl, rfl, rfl, rfl, rfl, rfl, rfl, rfl, trivial⟩)
                        refine code_seq (fun K48 hK48 => ?_)
                        refine code_region ?_
                        refine list_cons rfl (op_q (q_move rfl (by decide)) ?_)
                        refine list_cons rfl (op_q (by first | exact q_notd rfl (by decide) | exact q_not rfl (by decide)) ?_)
                        refine list_cons rfl (op_q (q_move rfl (by decide)) ?_)
                        refine list_guard_d rfl rfl rfl rfl (by decide) rfl (by decide) (fun h34 => ?_) (fun h34 => ?_)
                        · simp only [Bool.false_eq_true, if_true, if_false, Decidable.not_not] at h34
                          (try simp only [Decidable.not_not] at h34); (try have hG : Cn n0 k ∧ 0 ≤ s ∧ s ≤ 1000 := h34)
                          refine id (op_q (q_move rfl (by decide)) ?_)
                          refine list_guard_y rfl rfl rfl rfl (by decide) rfl ?_
                          refine id (op_q (q_move rfl (by decide)) ?_)
                          refine list_guard_y rfl rfl rfl rfl (by decide) rfl ?_
                          refine id (op_q (q_ne rfl rfl (by decide)) ?_)
                          refine list_cons rfl (op_q (q_pick rfl rfl (by decide)) ?_)
                          refine list_cons rfl (op_q (q_move rfl (by decide)) ?_)
                          refine list_guard_d rfl rfl rfl rfl (by decide) rfl (by decide) (fun h35 => ?_) (fun h35 => ?_)
                          · simp only [Bool.false_eq_true, if_true, if_false, Decidable.not_not] at h35
                            (try simp only [Decidable.not_not] at h35); (try have hG : Cn n0 k ∧ 0 ≤ s ∧ s ≤ 1000 := h35)
                            refine id (op_q (q_move rfl (by decide)) ?_)
                            refine list_guard_y rfl rfl rfl rfl (by decide) rfl ?_
                            refine id (op_q (q_len_sl Tryd.underlying35 rfl rfl (by decide)) ?_)
                            refine list_guard_y rfl rfl rfl rfl (by decide) rfl ?_
                            refine id (op_q (q_move rfl (by decide)) ?_)
                            refine list_guard_y rfl rfl rfl rfl (by decide) rfl ?_
                            refine id (op_q (q_ne rfl rfl (by decide)) ?_)
                            refine list_cons rfl (op_q (q_pick rfl rfl (by decide)) ?_)
                            refine list_nil ?_
                            refine hK48 _ ?_; clear hK48 K48
                            refine codeT.imp (σ' := [(2, .val (.bool _)), (3, .val (.int .i64 _)), (4, .val (.int .i64 _)), (5, .val (.int .i64 _)), (6, .val (.int .i64 _)), (7, .val (.bool _)), (10, .own 89 43 7 _ _), (18, .val (.int .i64 _)), (19, .val (.int .i64 _)), (24, .own 172 3 1 _ _), (25, .val (.bool _)), (48, .val (.int .i64 _)), (49, .val (.bool _)), (327, .val (.bool _))]) ?_ (imp_covers ⟨rfl, rfl, rfl, rfl, rfl, rfl, rfl, rfl, rfl, rfl, rfl, rfl, rfl, rfl, trivial⟩)
                            refine code_cond_d rfl (fun h36 => ?_) (fun h36 => ?_)
                            · skip
                              (try simp only [Decidable.not_not] at h36); (try have hG : Cn n0 k ∧ 0 ≤ s ∧ s ≤ 1000 := h36)
                              exfalso
                              have four : Cn n cells := by assumption
                              exact h36 (row3 four)
                            (try simp only [Decidable.not_not] at h36); (try have hG : Cn n0 k ∧ 0 ≤ s ∧ s ≤ 1000 := h36)
                            refine code_skip ?_
                            exact then_n (imp_covers ⟨rfl, rfl, rfl, rfl, rfl, rfl, rfl, rfl, rfl, rfl, rfl, trivial⟩)
                          simp only [Bool.false_eq_true, if_true, if_false, Decidable.not_not] at h35
                          (try simp only [Decidable.not_not] at h35); (try have hG : Cn n0 k ∧ 0 ≤ s ∧ s ≤ 1000 := h35)
                          exfalso
                          have four : Cn n cells := by assumption
                          exact h35 (row2 four)
                        simp only [Bool.false_eq_true, if_true, if_false, Decidable.not_not] at h34
                        (try simp only [Decidable.not_not] at h34); (try have hG : Cn n0 k ∧ 0 ≤ s ∧ s ≤ 1000 := h34)
                        exfalso
                        have four : Cn n cells := by assumption
                        exact h34 (row1 four)
                      (try simp only [Decidable.not_not] at h33); (try have hG : Cn n0 k ∧ 0 ≤ s ∧ s ≤ 1000 := h33)
                      refine code_skip ?_
                      exact then_n (imp_covers ⟨rfl, rfl, rfl, rfl, rfl, rfl, rfl, rfl, rfl, rfl, rfl, trivial⟩)
                    refine code_seq (fun K49 hK49 => ?_)
                    refine code_seq (fun K50 hK50 => ?_)
                    refine code_region ?_
                    refine list_cons rfl (op_q (q_move rfl (by decide)) ?_)
                    refine list_cons rfl (op_q (by first | exact q_notd rfl (by decide) | exact q_not rfl (by decide)) ?_)
                    refine list_nil ?_
                    refine hK50 _ ?_; clear hK50 K50
                    refine code_cond_d rfl (fun h37 => ?_) (fun h37 => ?_)
                    · skip
                      (try simp only [Decidable.not_not] at h37); (try have hG : Cn n0 k ∧ 0 ≤ s ∧ s ≤ 1000 := h37)
                      refine code_seq (fun K51 hK51 => ?_)
                      refine code_region ?_
                      refine list_cons rfl (op_q (q_assign rfl (by decide)) ?_)
                      refine list_nil ?_
                      refine hK51 _ ?_; clear hK51 K51
                      refine code_ret ?_
                      refine then_r ?_; clear hK49 K49
                      refine ends_ret (cs := []) rfl rfl rfl rfl trivial ?_
                      first
                        | rfl
                        | exact absurd hG.1 (by assumption)
                        | (have hps : psum (fW n0 k s.toNat 0) (i.toNat * 7) = runC n0 k s.toNat := by
                             rw [show i.toNat = k.toNat by have := hG.1.1; omega]; exact wear_sum n0 k s.toNat
                           first
                             | rw [decide_eq_true hps]
                             | exact absurd hps (by assumption)
                             | (have hs1 : s = 1 := by assumption
                                subst hs1
                                rw [decide_eq_true (show (if Cn n0 k then stepC n0 k else 0) = runC n0 k (Int.toNat 1) by rw [if_pos hG.1]; exact (runC_1 hG.1).symm)]; done))
                    (try simp only [Decidable.not_not] at h37); (try have hG : Cn n0 k ∧ 0 ≤ s ∧ s ≤ 1000 := h37)
                    refine code_skip ?_
                    refine hK49 _ ?_; clear hK49 K49
                    refine code_seq (fun K52 hK52 => ?_)
                    refine code_region ?_
                    refine list_cons rfl (op_q (q_assign rfl (by decide)) ?_)
                    refine list_nil ?_
                    refine hK52 _ ?_; clear hK52 K52
                    refine codeT.imp (σ' := [(2, .val (.bool false)), (3, .val (.int .i64 n0)), (4, .val (.int .i64 s)), (5, .val (.int .i64 k)), (6, .val (.int .i64 (runC n0 k s.toNat))), (7, .val (.bool _)), (10, .own 89 43 7 k.toNat ((fW n0 k s.toNat 0).map (.int .i64))), (18, .val (.int .i64 _)), (19, .val (.int .i64 _)), (24, .own 172 3 1 _ _), (25, .val (.bool _)), (50, .val (.int .i64 0))]) ?_ (imp_covers ⟨rfl, rfl, rfl, rfl, (congrArg (fun z => some (SV.val (PV.int .i64 z))) (if_pos hG)), rfl, (wear_norm 89 43 hG), rfl, rfl, rfl, rfl, rfl, trivial⟩)
                    refine code_seq (fun K53 hK53 => ?_)
                    refine code_seq (fun K54 hK54 => ?_)
                    refine code_region ?_
                    refine list_cons rfl (op_q (q_assign rfl (by decide)) ?_)
                    refine list_nil ?_
                    refine hK54 _ ?_; clear hK54 K54
                    refine code_block ?_
                    refine code_loop (X := Bool × Int × Int × Nat × List PV × Bool × Int × Int) (fun x => [(2, .val (.bool false)), (3, .val (.int .i64 n0)), (4, .val (.int .i64 s)), (5, .val (.int .i64 k)), (6, .val (.int .i64 (runC n0 k s.toNat))), (7, .val (.bool x.1)), (10, .own 89 43 7 k.toNat ((fW n0 k s.toNat 0).map (.int .i64))), (18, .val (.int .i64 x.2.1)), (19, .val (.int .i64 x.2.2.1)), (24, .own 172 3 1 x.2.2.2.1 x.2.2.2.2.1), (25, .val (.bool x.2.2.2.2.2.1)), (50, .val (.int .i64 x.2.2.2.2.2.2.1)), (51, .val (.int .i64 x.2.2.2.2.2.2.2))]) (fun x => 0 ≤ x.2.2.2.2.2.2.2 ∧ x.2.2.2.2.2.2.2 ≤ k ∧ x.2.2.2.2.2.2.1 = psum (fW n0 k s.toNat 0) (x.2.2.2.2.2.2.2.toNat * 7)) (fun x => (k - x.2.2.2.2.2.2.2).toNat) (_, _, _, _, _, _, _, _) (imp_covers ⟨rfl, rfl, rfl, rfl, rfl, rfl, rfl, rfl, rfl, rfl, rfl, rfl, rfl, trivial⟩) ?_ ?_
                    · (try dsimp only)
                      exact ⟨by omega, by have := hG.1.1; omega, rfl⟩
                    · intro x hI
                      obtain ⟨ok, n, cells, row_n, row_c, four, sum, i⟩ := x
                      replace hI : 0 ≤ i ∧ i ≤ k ∧ sum = psum (fW n0 k s.toNat 0) (i.toNat * 7) := hI
                      show codeT _ _ _ [(2, .val (.bool false)), (3, .val (.int .i64 n0)), (4, .val (.int .i64 s)), (5, .val (.int .i64 k)), (6, .val (.int .i64 (runC n0 k s.toNat))), (7, .val (.bool ok)), (10, .own 89 43 7 k.toNat ((fW n0 k s.toNat 0).map (.int .i64))), (18, .val (.int .i64 n)), (19, .val (.int .i64 cells)), (24, .own 172 3 1 row_n row_c), (25, .val (.bool four)), (50, .val (.int .i64 sum)), (51, .val (.int .i64 i))] _
                      obtain ⟨i1, i2, rfl⟩ := hI
                      have hk6 := hG.1.1
                      refine code_seq (fun K55 hK55 => ?_)
                      refine code_seq (fun K56 hK56 => ?_)
                      refine code_region ?_
                      refine list_cons rfl (op_q (q_move rfl (by decide)) ?_)
                      refine list_cons rfl (op_q (q_move rfl (by decide)) ?_)
                      refine list_cons rfl (op_q (q_len_sl Tryd.underlying28 rfl rfl (by decide)) ?_)
                      refine list_cons rfl (op_q (q_lt rfl rfl (by decide)) ?_)
                      refine list_nil ?_
                      refine hK56 _ ?_; clear hK56 K56
                      refine code_cond_d rfl (fun h38 => ?_) (fun h38 => ?_)
                      · skip
                        (try simp only [Decidable.not_not] at h38); (try have hG : Cn n0 k ∧ 0 ≤ s ∧ s ≤ 1000 := h38)
                        refine code_skip ?_
                        refine hK55 _ ?_; clear hK55 K55
                        refine code_seq (fun K57 hK57 => ?_)
                        refine code_block ?_
                        refine code_seq (fun K58 hK58 => ?_)
                        refine code_region ?_
                        refine list_cons rfl (op_q (q_assign rfl (by decide)) ?_)
                        refine list_nil ?_
                        refine hK58 _ ?_; clear hK58 K58
                        refine code_block ?_
                        refine code_loop (X := Bool × Int × Int × Nat × List PV × Bool × Int × Int) (fun x => [(2, .val (.bool false)), (3, .val (.int .i64 n0)), (4, .val (.int .i64 s)), (5, .val (.int .i64 k)), (6, .val (.int .i64 (runC n0 k s.toNat))), (7, .val (.bool x.1)), (10, .own 89 43 7 k.toNat ((fW n0 k s.toNat 0).map (.int .i64))), (18, .val (.int .i64 x.2.1)), (19, .val (.int .i64 x.2.2.1)), (24, .own 172 3 1 x.2.2.2.1 x.2.2.2.2.1), (25, .val (.bool x.2.2.2.2.2.1)), (50, .val (.int .i64 x.2.2.2.2.2.2.1)), (51, .val (.int .i64 i)), (52, .val (.int .i64 x.2.2.2.2.2.2.2))]) (fun x => 0 ≤ x.2.2.2.2.2.2.2 ∧ x.2.2.2.2.2.2.2 ≤ 7 ∧ x.2.2.2.2.2.2.1 = psum (fW n0 k s.toNat 0) (i.toNat * 7 + x.2.2.2.2.2.2.2.toNat)) (fun x => (7 - x.2.2.2.2.2.2.2).toNat) (_, _, _, _, _, _, _, _) (imp_covers ⟨rfl, rfl, rfl, rfl, rfl, rfl, rfl, rfl, rfl, rfl, rfl, rfl, rfl, rfl, trivial⟩) ?_ ?_
                        · (try dsimp only)
                          exact ⟨by omega, by omega, rfl⟩
                        · intro x hI
                          obtain ⟨ok, n, cells, row_n, row_c, four, sum, bar⟩ := x
                          replace hI : 0 ≤ bar ∧ bar ≤ 7 ∧ sum = psum (fW n0 k s.toNat 0) (i.toNat * 7 + bar.toNat) := hI
                          show codeT _ _ _ [(2, .val (.bool false)), (3, .val (.int .i64 n0)), (4, .val (.int .i64 s)), (5, .val (.int .i64 k)), (6, .val (.int .i64 (runC n0 k s.toNat))), (7, .val (.bool ok)), (10, .own 89 43 7 k.toNat ((fW n0 k s.toNat 0).map (.int .i64))), (18, .val (.int .i64 n)), (19, .val (.int .i64 cells)), (24, .own 172 3 1 row_n row_c), (25, .val (.bool four)), (50, .val (.int .i64 sum)), (51, .val (.int .i64 i)), (52, .val (.int .i64 bar))] _
                          obtain ⟨j1, j2, rfl⟩ := hI
                          have hps := psum_bd n0 k s.toNat (i.toNat * 7 + bar.toNat) (by omega) (by omega)
                          have hfw := fW_le n0 k s.toNat 0 (i.toNat * 7 + bar.toNat)
                          have hfl := fW_len n0 k s.toNat 0
                          refine code_seq (fun K59 hK59 => ?_)
                          refine code_seq (fun K60 hK60 => ?_)
                          refine code_region ?_
                          refine list_cons rfl (op_q (q_move rfl (by decide)) ?_)
                          refine list_cons rfl (op_q (q_lt rfl rfl (by decide)) ?_)
                          refine list_nil ?_
                          refine hK60 _ ?_; clear hK60 K60
                          refine code_cond_d rfl (fun h39 => ?_) (fun h39 => ?_)
                          · skip
                            (try simp only [Decidable.not_not] at h39); (try have hG : Cn n0 k ∧ 0 ≤ s ∧ s ≤ 1000 := h39)
                            refine code_skip ?_
                            refine hK59 _ ?_; clear hK59 K59
                            refine code_seq (fun K61 hK61 => ?_)
                            refine code_block ?_
                            refine code_region ?_
                            refine list_cons rfl (op_q (q_move rfl (by decide)) ?_)
                            refine list_cons rfl (op_q (q_move rfl (by decide)) ?_)
                            refine list_cons rfl (op_q (q_move rfl (by decide)) ?_)
                            refine list_cons rfl (op_q (q_move rfl (by decide)) ?_)
                            refine list_cons rfl (op_q (q_indexAddr_own sl_28 rfl rfl (by omega) (by omega) (by decide)) ?_)
                            refine list_cons rfl (op_q (q_indexAddr_arr arr_43 rfl rfl rfl (by omega) (by omega) (by decide)) ?_)
                            refine list_cons rfl (op_q (q_load one_3 10 rfl rfl rfl (fW_ld (by omega)) (by decide)) ?_)
                            refine list_cons rfl (op_q (by first | exact q_addI rfl rfl (by decide) (by omega) (by omega) | exact q_ib rfl rfl rfl (by decide)) ?_)
                            refine list_cons rfl (op_q (q_assign rfl (by decide)) ?_)
                            refine list_nil ?_
                            refine blk_n ?_
                            refine hK61 _ ?_; clear hK61 K61
                            refine codeT.imp (σ' := [(2, .val (.bool _)), (3, .val (.int .i64 _)), (4, .val (.int .i64 _)), (5, .val (.int .i64 _)), (6, .val (.int .i64 _)), (7, .val (.bool _)), (10, .own 89 43 7 _ _), (18, .val (.int .i64 _)), (19, .val (.int .i64 _)), (24, .own 172 3 1 _ _), (25, .val (.bool _)), (50, .val (.int .i64 _)), (51, .val (.int .i64 _)), (52, .val (.int .i64 _))]) ?_ (imp_covers ⟨rfl, rfl, rfl, rfl, rfl, rfl, rfl, rfl, rfl, rfl, rfl, rfl, rfl, rfl, trivial⟩)
                            refine code_region ?_
                            refine list_cons rfl (op_q (q_move rfl (by decide)) ?_)
                            refine list_cons rfl (op_q (by first | exact q_addI rfl rfl (by decide) (by omega) (by omega) | exact q_ib rfl rfl rfl (by decide)) ?_)
                            refine list_cons rfl (op_q (q_assign rfl (by decide)) ?_)
                            refine list_nil ?_
                            refine then_n ⟨(_, _, _, _, _, _, _, _), imp_covers ⟨rfl, rfl, rfl, rfl, rfl, rfl, rfl, rfl, rfl, rfl, rfl, rfl, rfl, rfl, trivial⟩, ?_, ?_⟩
                            · (try dsimp only)
                              exact ⟨by omega, by omega, by rw [show (bar + 1).toNat = bar.toNat + 1 by omega, ← Nat.add_assoc, psum]⟩
                            · (try dsimp only); omega
                          (try simp only [Decidable.not_not] at h39); (try have hG : Cn n0 k ∧ 0 ≤ s ∧ s ≤ 1000 := h39)
                          refine code_exit ?_
                          refine then_x ?_; clear hK59 K59
                          refine then_x ?_
                          refine blk_hit ?_
                          refine blk_n ?_
                          refine hK57 _ ?_; clear hK57 K57
                          refine code_region ?_
                          refine list_cons rfl (op_q (q_move rfl (by decide)) ?_)
                          refine list_cons rfl (op_q (by first | exact q_addI rfl rfl (by decide) (by omega) (by omega) | exact q_ib rfl rfl rfl (by decide)) ?_)
                          refine list_cons rfl (op_q (q_assign rfl (by decide)) ?_)
                          refine list_nil ?_
                          refine then_n ⟨(_, _, _, _, _, _, _, _), imp_covers ⟨rfl, rfl, rfl, rfl, rfl, rfl, rfl, rfl, rfl, rfl, rfl, rfl, rfl, trivial⟩, ?_, ?_⟩
                          · (try dsimp only)
                            exact ⟨by omega, by omega, by rw [show (i + 1).toNat * 7 = i.toNat * 7 + bar.toNat by omega]⟩
                          · (try dsimp only); omega
                      (try simp only [Decidable.not_not] at h38); (try have hG : Cn n0 k ∧ 0 ≤ s ∧ s ≤ 1000 := h38)
                      refine code_exit ?_
                      refine then_x ?_; clear hK55 K55
                      refine then_x ?_
                      refine blk_hit ?_
                      refine hK53 _ ?_; clear hK53 K53
                      refine code_seq (fun K62 hK62 => ?_)
                      refine code_seq (fun K63 hK63 => ?_)
                      refine code_region ?_
                      refine list_cons rfl (op_q (q_move rfl (by decide)) ?_)
                      refine list_cons rfl (op_q (q_ne rfl rfl (by decide)) ?_)
                      refine list_nil ?_
                      refine hK63 _ ?_; clear hK63 K63
                      refine code_cond_d rfl (fun h40 => ?_) (fun h40 => ?_)
                      · skip
                        (try simp only [Decidable.not_not] at h40); (try have hG : Cn n0 k ∧ 0 ≤ s ∧ s ≤ 1000 := h40)
                        refine code_seq (fun K64 hK64 => ?_)
                        refine code_region ?_
                        refine list_cons rfl (op_q (q_move rfl (by decide)) ?_)
                        refine list_cons rfl (op_q (q_move rfl (by decide)) ?_)
                        refine list_cons rfl (op_q (q_eq rfl rfl (by decide)) ?_)
                        refine list_cons rfl (op_q (q_assign rfl (by decide)) ?_)
                        refine list_nil ?_
                        refine hK64 _ ?_; clear hK64 K64
                        refine codeT.imp (σ' := [(2, .val (.bool _)), (3, .val (.int .i64 _)), (4, .val (.int .i64 _)), (5, .val (.int .i64 _)), (6, .val (.int .i64 _)), (7, .val (.bool _)), (10, .own 89 43 7 _ _), (18, .val (.int .i64 _)), (19, .val (.int .i64 _)), (24, .own 172 3 1 _ _), (25, .val (.bool _)), (50, .val (.int .i64 _)), (51, .val (.int .i64 _))]) ?_ (imp_covers ⟨rfl, rfl, rfl, rfl, rfl, rfl, rfl, rfl, rfl, rfl, rfl, rfl, rfl, trivial⟩)
                        refine code_ret ?_
                        refine then_r ?_; clear hK62 K62
                        refine ends_ret (cs := []) rfl rfl rfl rfl trivial ?_
                        first
                          | rfl
                          | exact absurd hG.1 (by assumption)
                          | (have hps : psum (fW n0 k s.toNat 0) (i.toNat * 7) = runC n0 k s.toNat := by
                               rw [show i.toNat = k.toNat by have := hG.1.1; omega]; exact wear_sum n0 k s.toNat
                             first
                               | rw [decide_eq_true hps]
                               | exact absurd hps (by assumption)
                               | (have hs1 : s = 1 := by assumption
                                  subst hs1
                                  rw [decide_eq_true (show (if Cn n0 k then stepC n0 k else 0) = runC n0 k (Int.toNat 1) by rw [if_pos hG.1]; exact (runC_1 hG.1).symm)]; done))
                      (try simp only [Decidable.not_not] at h40); (try have hG : Cn n0 k ∧ 0 ≤ s ∧ s ≤ 1000 := h40)
                      refine code_skip ?_
                      refine hK62 _ ?_; clear hK62 K62
                      refine code_seq (fun K65 hK65 => ?_)
                      refine code_region ?_
                      refine list_cons rfl (op_q (q_move rfl (by decide)) ?_)
                      refine list_cons rfl (op_q (q_move rfl (by decide)) ?_)
                      refine list_cons rfl (op_call _ (impl_StepChanges _ _) rfl rfl (by decide) (by decide) (by decide) rfl ?_)
                      rintro _ rfl
                      refine list_cons rfl (op_q (q_move rfl (by decide)) ?_)
                      refine list_cons rfl (op_q (q_extract rfl rfl (by decide)) ?_)
                      refine list_cons rfl (op_q (q_extract rfl rfl (by decide)) ?_)
                      refine list_cons rfl (op_q (q_assign rfl (by decide)) ?_)
                      refine list_cons rfl (op_q (q_assign rfl (by decide)) ?_)
                      refine list_nil ?_
                      refine hK65 _ ?_; clear hK65 K65
                      refine codeT.imp (σ' := [(2, .val (.bool _)), (3, .val (.int .i64 _)), (4, .val (.int .i64 _)), (5, .val (.int .i64 _)), (6, .val (.int .i64 _)), (7, .val (.bool _)), (10, .own 89 43 7 _ _), (18, .val (.int .i64 _)), (19, .val (.int .i64 _)), (24, .own 172 3 1 _ _), (25, .val (.bool _)), (50, .val (.int .i64 _)), (51, .val (.int .i64 _)), (53, .val (.int .i64 _)), (54, .val (.bool _))]) ?_ (imp_covers ⟨rfl, rfl, rfl, rfl, rfl, rfl, rfl, rfl, rfl, rfl, rfl, rfl, rfl, rfl, rfl, trivial⟩)
                      refine code_seq (fun K66 hK66 => ?_)
                      refine code_region ?_
                      refine list_cons rfl (op_q (q_move rfl (by decide)) ?_)
                      refine list_cons rfl (op_q (q_move rfl (by decide)) ?_)
                      refine list_cons rfl (op_q (q_eq rfl rfl (by decide)) ?_)
                      refine list_cons rfl (op_q (q_move rfl (by decide)) ?_)
                      refine list_guard_d rfl rfl rfl rfl (by decide) rfl (by decide) (fun h41 => ?_) (fun h41 => ?_)
                      · simp only [Bool.false_eq_true, if_true, if_false, Decidable.not_not] at h41
                        (try simp only [Decidable.not_not] at h41); (try have hG : Cn n0 k ∧ 0 ≤ s ∧ s ≤ 1000 := h41)
                        refine id (op_q (q_move rfl (by decide)) ?_)
                        refine list_cons rfl (op_q (q_pick rfl rfl (by decide)) ?_)
                        refine list_cons rfl (op_q (q_move rfl (by decide)) ?_)
                        refine list_guard_d rfl rfl rfl rfl (by decide) rfl (by decide) (fun h42 => ?_) (fun h42 => ?_)
                        · simp only [Bool.false_eq_true, if_true, if_false, Decidable.not_not] at h42
                          (try simp only [Decidable.not_not] at h42); (try have hG : Cn n0 k ∧ 0 ≤ s ∧ s ≤ 1000 := h42)
                          refine id (op_q (q_move rfl (by decide)) ?_)
                          refine list_guard_y rfl rfl rfl rfl (by decide) rfl ?_
                          refine id (op_q (q_move rfl (by decide)) ?_)
                          refine list_guard_y rfl rfl rfl rfl (by decide) rfl ?_
                          refine id (op_q (q_eq rfl rfl (by decide)) ?_)
                          refine list_cons rfl (op_q (q_pick rfl rfl (by decide)) ?_)
                          refine list_cons rfl (op_q (q_assign rfl (by decide)) ?_)
                          refine list_nil ?_
                          refine hK66 _ ?_; clear hK66 K66
                          refine codeT.imp (σ' := [(2, .val (.bool _)), (3, .val (.int .i64 _)), (4, .val (.int .i64 _)), (5, .val (.int .i64 _)), (6, .val (.int .i64 _)), (7, .val (.bool _)), (10, .own 89 43 7 _ _), (18, .val (.int .i64 _)), (19, .val (.int .i64 _)), (24, .own 172 3 1 _ _), (25, .val (.bool _)), (50, .val (.int .i64 _)), (51, .val (.int .i64 _)), (53, .val (.int .i64 _)), (54, .val (.bool _))]) ?_ (imp_covers ⟨rfl, rfl, rfl, rfl, rfl, rfl, rfl, rfl, rfl, rfl, rfl, rfl, rfl, rfl, rfl, trivial⟩)
                          refine code_ret ?_
                          refine ends_ret (cs := []) rfl rfl rfl rfl trivial ?_
                          first
                            | rfl
                            | exact absurd hG.1 (by assumption)
                            | (have hps : psum (fW n0 k s.toNat 0) (i.toNat * 7) = runC n0 k s.toNat := by
                                 rw [show i.toNat = k.toNat by have := hG.1.1; omega]; exact wear_sum n0 k s.toNat
                               first
                                 | rw [decide_eq_true hps]
                                 | exact absurd hps (by assumption)
                                 | (have hs1 : s = 1 := by assumption
                                    subst hs1
                                    rw [decide_eq_true (show (if Cn n0 k then stepC n0 k else 0) = runC n0 k (Int.toNat 1) by rw [if_pos hG.1]; exact (runC_1 hG.1).symm)]; done))
                        simp only [Bool.false_eq_true, if_true, if_false, Decidable.not_not] at h42
                        (try simp only [Decidable.not_not] at h42); (try have hG : Cn n0 k ∧ 0 ≤ s ∧ s ≤ 1000 := h42)
                        refine list_guard_nT rfl rfl rfl rfl (by decide) (by decide) ?_
                        refine list_guard_nT rfl rfl rfl rfl (by decide) (by decide) ?_
                        refine list_cons rfl (op_q (q_pick rfl rfl (by decide)) ?_)
                        refine list_cons rfl (op_q (q_assign rfl (by decide)) ?_)
                        refine list_nil ?_
                        refine hK66 _ ?_; clear hK66 K66
                        refine codeT.imp (σ' := [(2, .val (.bool _)), (3, .val (.int .i64 _)), (4, .val (.int .i64 _)), (5, .val (.int .i64 _)), (6, .val (.int .i64 _)), (7, .val (.bool _)), (10, .own 89 43 7 _ _), (18, .val (.int .i64 _)), (19, .val (.int .i64 _)), (24, .own 172 3 1 _ _), (25, .val (.bool _)), (50, .val (.int .i64 _)), (51, .val (.int .i64 _)), (53, .val (.int .i64 _)), (54, .val (.bool _))]) ?_ (imp_covers ⟨rfl, rfl, rfl, rfl, rfl, rfl, rfl, rfl, rfl, rfl, rfl, rfl, rfl, rfl, rfl, trivial⟩)
                        refine code_ret ?_
                        refine ends_ret (cs := []) rfl rfl rfl rfl trivial ?_
                        first
                          | rfl
                          | exact absurd hG.1 (by assumption)
                          | (have hps : psum (fW n0 k s.toNat 0) (i.toNat * 7) = runC n0 k s.toNat := by
                               rw [show i.toNat = k.toNat by have := hG.1.1; omega]; exact wear_sum n0 k s.toNat
                             first
                               | rw [decide_eq_true hps]
                               | exact absurd hps (by assumption)
                               | (have hs1 : s = 1 := by assumption
                                  subst hs1
                                  rw [decide_eq_true (show (if Cn n0 k then stepC n0 k else 0) = runC n0 k (Int.toNat 1) by rw [if_pos hG.1]; exact (runC_1 hG.1).symm)]; done))
                      simp only [Bool.false_eq_true, if_true, if_false, Decidable.not_not] at h41
                      (try simp only [Decidable.not_not] at h41); (try have hG : Cn n0 k ∧ 0 ≤ s ∧ s ≤ 1000 := h41)
                      refine list_cons rfl (op_q (q_pick rfl rfl (by decide)) ?_)
                      refine list_cons rfl (op_q (q_move rfl (by decide)) ?_)
                      refine list_guard_nT rfl rfl rfl rfl (by decide) (by decide) ?_
                      refine list_guard_nT rfl rfl rfl rfl (by decide) (by decide) ?_
                      refine list_guard_nT rfl rfl rfl rfl (by decide) (by decide) ?_
                      refine list_cons rfl (op_q (q_pick rfl rfl (by decide)) ?_)
                      refine list_cons rfl (op_q (q_assign rfl (by decide)) ?_)
                      refine list_nil ?_
                      refine hK66 _ ?_; clear hK66 K66
                      refine codeT.imp (σ' := [(2, .val (.bool _)), (3, .val (.int .i64 _)), (4, .val (.int .i64 _)), (5, .val (.int .i64 _)), (6, .val (.int .i64 _)), (7, .val (.bool _)), (10, .own 89 43 7 _ _), (18, .val (.int .i64 _)), (19, .val (.int .i64 _)), (24, .own 172 3 1 _ _), (25, .val (.bool _)), (50, .val (.int .i64 _)), (51, .val (.int .i64 _)), (53, .val (.int .i64 _)), (54, .val (.bool _))]) ?_ (imp_covers ⟨rfl, rfl, rfl, rfl, rfl, rfl, rfl, rfl, rfl, rfl, rfl, rfl, rfl, rfl, rfl, trivial⟩)
                      refine code_ret ?_
                      refine ends_ret (cs := []) rfl rfl rfl rfl trivial ?_
                      first
                        | rfl
                        | exact absurd hG.1 (by assumption)
                        | (have hps : psum (fW n0 k s.toNat 0) (i.toNat * 7) = runC n0 k s.toNat := by
                             rw [show i.toNat = k.toNat by have := hG.1.1; omega]; exact wear_sum n0 k s.toNat
                           first
                             | rw [decide_eq_true hps]
                             | exact absurd hps (by assumption)
                             | (have hs1 : s = 1 := by assumption
                                subst hs1
                                rw [decide_eq_true (show (if Cn n0 k then stepC n0 k else 0) = runC n0 k (Int.toNat 1) by rw [if_pos hG.1]; exact (runC_1 hG.1).symm)]; done))
                  simp only [Bool.false_eq_true, if_true, if_false, Decidable.not_not] at h19
                  (try simp only [Decidable.not_not] at h19); (try have hG : Cn n0 k ∧ 0 ≤ s ∧ s ≤ 1000 := h19)
                  exfalso
                  first | exact absurd rfl h19 | exact h19 trivial | (simp at h19; done)
                simp only [Bool.false_eq_true, if_true, if_false, Decidable.not_not] at h17
                (try simp only [Decidable.not_not] at h17); (try have hG : Cn n0 k ∧ 0 ≤ s ∧ s ≤ 1000 := h17)
                exfalso
                first | exact absurd rfl h17 | exact h17 trivial | (simp at h17; done)
              simp only [Bool.false_eq_true, if_true, if_false, Decidable.not_not] at h16
              (try simp only [Decidable.not_not] at h16); (try have hG : Cn n0 k ∧ 0 ≤ s ∧ s ≤ 1000 := h16)
              exfalso
              first | exact absurd rfl h16 | exact h16 trivial | (simp at h16; done)
            simp only [Bool.false_eq_true, if_true, if_false, Decidable.not_not] at h14
            (try simp only [Decidable.not_not] at h14); (try have hG : Cn n0 k ∧ 0 ≤ s ∧ s ≤ 1000 := h14)
            exfalso
            first | exact absurd rfl h14 | exact h14 trivial | (simp at h14; done)
          simp only [Bool.false_eq_true, if_true, if_false, Decidable.not_not] at h13
          (try simp only [Decidable.not_not] at h13); (try have hG : Cn n0 k ∧ 0 ≤ s ∧ s ≤ 1000 := h13)
          exfalso
          first | exact absurd rfl h13 | exact h13 trivial | (simp at h13; done)
        simp only [Bool.false_eq_true, if_true, if_false, Decidable.not_not] at h11
        (try simp only [Decidable.not_not] at h11); (try have hG : Cn n0 k ∧ 0 ≤ s ∧ s ≤ 1000 := h11)
        exfalso
        first | exact absurd rfl h11 | exact h11 trivial | (simp at h11; done)
      simp only [Bool.false_eq_true, if_true, if_false, Decidable.not_not] at h5
      (try simp only [Decidable.not_not] at h5); (try have hG : Cn n0 k ∧ 0 ≤ s ∧ s ≤ 1000 := h5)
      exfalso
      first | exact absurd rfl h5 | exact h5 trivial | (simp at h5; done)
    simp only [Bool.false_eq_true, if_true, if_false, Decidable.not_not] at h4
    (try simp only [Decidable.not_not] at h4); (try have hG : Cn n0 k ∧ 0 ≤ s ∧ s ≤ 1000 := h4)
    exfalso
    first | exact absurd rfl h4 | exact h4 trivial | (simp at h4; done)
  simp only [Bool.false_eq_true, if_true, if_false, Decidable.not_not] at h2
  (try simp only [Decidable.not_not] at h2); (try have hG : Cn n0 k ∧ 0 ≤ s ∧ s ≤ 1000 := h2)
  exfalso
  first | exact absurd rfl h2 | exact h2 trivial | (simp at h2; done)

end Go.Proofs.YtdlckhdalbagmaaDoor
